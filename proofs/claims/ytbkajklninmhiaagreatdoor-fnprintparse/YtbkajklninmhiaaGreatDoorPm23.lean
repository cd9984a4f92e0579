import Derived.Test.YtbkajklninmhiaaGreatDoorPm22
set_option maxHeartbeats 6400000
set_option maxRecDepth 1000000
set_option linter.unusedVariables false
set_option linter.unusedSimpArgs false
open List renaming length_append → qg, append_assoc → ql
open Nat renaming le_refl → qp, le_trans → qq, lt_of_lt_of_le → qr, le_of_lt → qs
namespace Go.Proofs.YtbkajklninmhiaaGreatDoor.Par
open Go Go.RowKit Mem Syn Parse
attribute [local go_sem ↓] Go.wp_at_zero Go.wp_at_succ
theorem Wo:(Tryz.prog.info? 38).map (fun i=>(i.zero,i.size,i.bytes))=some (some (.agg #[.int .i64 0,.string ⟨#[]⟩,.slice none 0 0,.slice none 0 0,.int .i64 0,.int .i64 0,.int .i64 0]),7,96):=by kernel_rfl
theorem xT (k:Int) (n:ByteArray) (a:Option Addr) (x y:Nat) (a':Option Addr) (x' y':Nat) (K lo hi:Int):Instr.fill (fun i=>some (i*7,7)) ((Array.range (1*7)).map ((Value.agg #[.int .i64 0,.string ⟨#[]⟩,.slice none 0 0,.slice none 0 0,.int .i64 0,.int .i64 0,.int .i64 0]).cells[·% (Value.agg #[.int .i64 0,.string ⟨#[]⟩,.slice none 0 0,.slice none 0 0,.int .i64 0,.int .i64 0,.int .i64 0]).cells.size]!)) [(0,.agg [Value.int .i64 k,.string n,.slice a x y,.slice a' x' y',.int .i64 K,.int .i64 lo,.int .i64 hi].toArray)]=some [Value.int .i64 k,.string n,.slice a x y,.slice a' x' y',.int .i64 K,.int .i64 lo,.int .i64 hi].toArray:=by kernel_rfl
structure Pg (B b:Nat) (a:Option Addr) (c:Nat) (t:List UInt8) (w:World) (iv:Value) (L:List Im) (i o:Nat) (wr:World):Prop where
 row:∃cs e,wr.ownsRow w.heap.size 38 7 iv L.length cs∧Its wr w.heap.size e cs L∧e≤wr.heap.size
 ps:PS B b a c t i o 0 wr
 gb:w.grownBy wr (some b)
 rz:wr.heap[w.heap.size]? =some (.cells #[.slice none 0 0] 25)
 ho:o≤2000
 sh:∃a n c,iv=.slice a n c∧n=L.length
theorem ItO.low {s s':Nat} {w:World} {v:Value} {im:Im} {vE vF:Value} {m:Nat} (h:ItO s w v im vE vF m) (hs:s'≤s):ItO s' w v im vE vF m:=⟨h.v,xC h.e hs,h.eb,qq hs h.sm,h.f⟩
theorem ItO.cap {s:Nat} {w:World} {v:Value} {im:Im} {vE vF:Value} {m:Nat} (h:ItO s w v im vE vF m) (hs:s≤w.heap.size):∃m',m'≤w.heap.size∧ItO s w v im vE vF m':=by
 by_cases hm:m≤w.heap.size
 ·exact⟨m,hm,h⟩
 ·refine⟨w.heap.size,qp _,h.v,h.e,h.e.hi,hs,h.f.1,?_⟩
  rcases h.f.2 with h0|⟨g,cap,cur,h1,h2,h3,h4⟩
  ·exact Or.inl h0
  ·have:=zN h3;omega
theorem XF {s:Nat} {w w':World} (h:Below w.heap.size w w'):KO s w w':=fun g C fr _ hc=>by rw[h.block g (zN hc)];exact hc
theorem ko_gb {s b:Nat} {w w':World} (h:w.grownBy w' (some b)) (hb:b<s):KO s w w':=fun g C fr hg hc=>by rw[h.block g (zN hc) (by simp;omega)];exact hc
theorem ko_row {s B n:Nat} {w w':World} {v:Value} {xs:List Value} (h:w.grownBy w' v.ownBlock) (ho:w.ownsRow B 38 7 v n xs):KO s w w':=fun g C fr hg hc=>by
 rw[h.block g (zN hc) (fun e=>?_)]
 ·exact hc
 ·obtain⟨c,fz,h2⟩:=yC ho g e.symm
  rw[hc]at h2;injection h2 with h2;injection h2 with _ h3 _;exact absurd h3 (by decide)
theorem KO.trans {s:Nat} {a b c:World} (h:KO s a b) (k:KO s b c):KO s a c:=fun g C fr hg hc=>k g C fr hg (h g C fr hg hc)
theorem Zf {w:World} (im:Im) (vE vF:Value) (g:Nat) (hg:g=w.heap.size):∀j u,(itC im vE vF)[j]? =some u→(w.alloc (.cells (itC im vE vF).toArray 38)).cell? ((⟨g,0,none⟩:Addr).add j)=some u:=fun j u hu=>by
 subst hg;rw[Addr.add_lit,Nat.zero_add,zb (zo w _) j];simpa using hu
theorem Yd (im:Im) (a:Option Addr) (x y:Nat) (a':Option Addr) (x' y':Nat):∀u∈itC im (.slice a x y) (.slice a' x' y'),u.oneCell'=true:=fun u hu=>by
 simp[itC]at hu;rcases hu with rfl|rfl|rfl|rfl|rfl|rfl|rfl<;>rfl
theorem Pg.below {B b:Nat} {a:Option Addr} {c:Nat} {t:List UInt8} {w:World} {iv:Value} {L:List Im} {i o:Nat} {wr w':World} (h:Pg B b a c t w iv L i o wr) (hb:Below wr.heap.size wr w'):Pg B b a c t w iv L i o w':=by
 obtain⟨cs,e,h1,h2,h3⟩:=h.row;exact⟨⟨cs,e,z7 h1 hb,h2.keep (XF hb),qq h3 hb.size⟩,Px.below h.ps hb,zi h.gb (zD hb),zg h.rz hb,h.ho,h.sh⟩
theorem Pg.push {B b:Nat} {a:Option Addr} {c:Nat} {t:List UInt8} {w:World} {iv:Value} {L:List Im} {i o i' o':Nat} {wa w1:World} (h:Pg B b a c t w iv L i o wa) (hlt:b<w.heap.size) {im:Im} {vE vF:Value} {m:Nat} (g:wa.grownBy w1 (some b)) (hi:ItO wa.heap.size w1 (.agg (itC im vE vF).toArray) im vE vF m) (p:PS B b a c t i' o' 0 w1) (ho':o'≤2000):
  ∃cs,w1.ownsRow w.heap.size 38 7 iv L.length cs∧(w1.alloc (.cells (itC im vE vF).toArray 38)).ownsRow w.heap.size 38 7 iv L.length cs∧∀(v':Value) (w2:World),w2.ownsRow w.heap.size 38 7 v' (L.length+1) (cs++itC im vE vF)→(w1.alloc (.cells (itC im vE vF).toArray 38)).grownBy w2 iv.ownBlock→Pg B b a c t w v' (L++[im]) i' o' w2:=by
 obtain⟨cs,e,h1,h2,h3⟩:=h.row;have hbB:B≤b:=h.ps.hB;have r1:w1.ownsRow w.heap.size 38 7 iv L.length cs:=h1.kept g (Or.inr fun e=>Pc h1 hlt e.symm);have A:Below w1.heap.size w1 (w1.alloc (.cells (itC im vE vF).toArray 38)):=zd (Below.refl _ _) _;refine⟨cs,r1,z7 r1 A,fun v' w2 hown hg=>?_⟩;have r2:=z7 r1 A;have k1:KO w.heap.size wa w1:=ko_gb g hlt;have k2:KO w.heap.size w1 w2:=(XF A).trans (ko_row hg r2);have hsz:w.heap.size≤wa.heap.size:=h.gb.size;obtain⟨m',hm',hi'⟩:=(hi.low h3).cap (qq h3 g.size);have hle:=h2.le;have hfar:∀k,iv.ownBlock=some k→B≤k∧k≠b:=fun k e=>by have:=(r2.lt k e).1;omega
 refine⟨⟨cs++itC im vE vF,w1.heap.size,by rw[qg];exact hown,.snoc e w1.heap.size cs L im vE vF m' (h2.keep (k1.trans k2)) (hi'.keep (fun g C fr hg hc=>k2 g C fr (qq hle hg) hc)) (fun g e=>(hi'.f.lt g e).2) hm',?_⟩,Px.far (Px.below p A) hg hfar,?_,?_,ho',?_⟩
 ·exact qq A.size hg.size
 ·exact World.grownBy.andThen (zi (zi h.gb g) (zD A)) hg (fun k e=>Or.inl (r2.lt k e).1)
 ·have hz:=zg (zl h.rz g (by omega)) A
  rw[hg.block w.heap.size (zN hz) (fun e=>?_)]
  ·exact hz
  ·obtain⟨c,fz,h5⟩:=yC r2 w.heap.size e.symm
   rw[hz]at h5;injection h5 with h5;injection h5 with _ h6 _;exact absurd h6 (by decide)
 ·obtain⟨a,c,e,-⟩:=zh hown
  exact⟨a,_,c,e,by simp⟩
theorem T7 (B b:Nat) (a:Option Addr) (c:Nat) (t:List UInt8) (w:World) (h:Px B b a c t ⟨0,⟨0,0,[],0⟩,0,0⟩ w):
  Calls Tryz.prog 18 #[.pointer (some ⟨b,0,none⟩)] w fun e w'=>Res (ZG (tkT t) (yQ t)) (fun L e w'=>∃iv cs s,e=.returned (.agg #[iv])∧w'.ownsRow w.heap.size 38 7 iv L.length cs∧Its w' w.heap.size s cs L) e w'∧w.grownBy w' (some b):=by
 have hlt:=h.lt;obtain⟨i0,hi,hz0,hz1,hz2⟩:=info_parts Wo;have HNP:=Hm (Vk t);obtain⟨W1,hW1⟩:∃W,W=w.alloc (.cells #[.slice none 0 0] 25):=⟨_,rfl⟩;have A1:Hid (Below w.heap.size w W1):=by rw[hW1];exact zd (Below.refl _ _) _
 have RZ:Hid (W1.heap[w.heap.size]? =some (.cells #[.slice none 0 0] 25)):=by rw[hW1];exact zo _ _
 have CA:=Hm (advX B b a c t ⟨0,⟨0,0,[],0⟩,0,0⟩ W1 (h.below A1.out) (lx t 0) rfl (Yv t 0).le);have hs1:w.heap.size≤W1.heap.size:=A1.out.size;clear h;obtain⟨RP,hRP⟩:∃R,R=ZG (tkT t) (yQ t):=⟨_,rfl⟩;rw[←hRP]at HNP ⊢;have HRP:=Hm hRP;clear hRP;go_enter Tryz.func18,Tryz.ntmps18;go_wp2_with fail;rw[←hW1];clear hW1;refine CA.out.mono ?_;rintro e w1 ⟨p1,p2,p3,g1⟩;have hk0:(lx t 0).1.k≤51:=(Yv t 0).le;have e0:tkT t 0=(lx t 0).1:=rfl;by_cases h50:(lx t 0).1.k=50
 ·obtain rfl:=p2 h50
  refine⟨rfl,?_,zi (zD A1.out) g1⟩;rw[HRP.out,ZG,e0,if_pos h50];exact rfl
 by_cases h51:(lx t 0).1.k=51
 ·obtain rfl:=p3 h51
  refine⟨rfl,?_,zi (zD A1.out) g1⟩;rw[HRP.out,ZG,e0,if_neg h50,if_pos h51];exact rfl
 obtain⟨rfl,pp⟩:=p1 (by omega);have HP1:Hid (Pg B b a c t w (.slice none 0 0) [] 0 0 w1):=⟨⟨[],w.heap.size,World.ownsRow_nil _ _ _ _,.nil,qq hs1 g1.size⟩,pp,zi (zD A1.out) g1,zl RZ.out g1 (by omega),by omega,⟨none,0,0,rfl,rfl⟩⟩;have HL:Hid (ZH (tkT t) (yQ t) 101 [] 0 0=RP):=by unfold Hid;rw[HRP.out,ZG,e0,if_neg h50,if_neg h51]
 clear p1 p2 p3 g1 pp h50 h51 e0 hk0 CA A1 RZ;go_wp2_with fail;go_loopg [3] 101 (fun gk iv wr=>∃(L:List Im) (i o:Nat),gk+L.length=101∧Hid (Pg B b a c t w iv L i o wr)∧Hid (ZH (tkT t) (yQ t) gk L i o=RP))
 case atStart=>exact⟨[],0,0,rfl,HP1,HL⟩
 case round=>
  obtain⟨L,i,o,hgk,hpg,hpl⟩:=hrel;obtain⟨ia,inn,ic,rfl,hin⟩:=hpg.out.sh;have HIN:=Hm hin;clear hin
  cases gk with
  |zero=>exact absurd (hpl.out.symm.trans (by rw[ZH])) HNP.out
  |succ gk=>
   have y2:=Px.c2 hpg.out.ps;have y3:=Px.c3 hpg.out.ps;have y4:=Px.c4 hpg.out.ps;have y5:=Px.c5 hpg.out.ps;dsimp only at y2 y3 y4 y5;have e1:=hpl.out;rw[ZH]at e1;obtain⟨k,hk⟩:∃k,k=tkT t i:=⟨_,rfl⟩;rw[←hk]at y2 y3 y4 y5 e1;have HK:=Hm hk;clear hk;by_cases hk0:k.k=0
   ·rw[if_pos hk0]at e1
    have k1:((k.k:Int)!=0)=false:=by simp;omega
    have E1:=Hm e1.symm;have z0:=(zb hpg.out.rz 0).trans rfl;have q0:=zc hpg.out.rz 0;have HG:=Hm (zr (i:=0) (v:=.slice ia inn ic) hpg.out.gb (qp w.heap.size))
    have HRow:Hid (∃cs e,(wr.setCell ⟨w.heap.size,0,none⟩ (.slice ia inn ic)).ownsRow w.heap.size 38 7 (.slice ia inn ic) L.length cs∧Its (wr.setCell ⟨w.heap.size,0,none⟩ (.slice ia inn ic)) w.heap.size e cs L):=by
     obtain⟨cs,e,h1,h2,h3⟩:=hpg.out.row;refine⟨cs,e,?_,h2.keep (fun g C fr hg hc=>?_)⟩
     ·refine⟨h1.1,?_⟩
      rcases h1.2 with h0|⟨g,cap,cur,h5,h6,h7,h8⟩
      ·exact Or.inl h0
      ·refine Or.inr ⟨g,cap,cur,h5,h6,zt h7 (fun e=>?_) _,h8⟩
       rw[e]at h7;rw[hpg.out.rz]at h7;injection h7 with h7;injection h7 with _ h9 _;exact absurd h9 (by decide)
     ·refine zt hc (fun e=>?_) _
      rw[e]at hc;rw[hpg.out.rz]at hc;injection hc with hc;injection hc with _ h9 _;exact absurd h9 (by decide)
    clear e1 hk0;go_wp2;refine bodyPost_ret (by simp[results,Tryz.results18,go_sem,z0];try rfl) rfl ?_;refine⟨?_,HG.out⟩;rw[E1.out];obtain⟨cs,e,h1,h2⟩:=HRow.out;exact⟨_,cs,e,rfl,h1,h2⟩
   rw[if_neg hk0]at e1;have k1:(k.k:Int)≠0:=by omega
   have CM:=Hm (YY k 16 24 wr);unfold tkV at CM;by_cases hkr:16≤k.k∧k.k≤24
   ·rw[if_pos hkr]at e1
    rw[show(decide (16≤k.k)&&decide (k.k≤24))=true by simp;omega]at CM;have hkr':16≤(tkT t i).k∧(tkT t i).k≤24:=by rw[←HK.out];exact hkr
    by_cases h100:L.length=100
    ·rw[if_pos h100]at e1
     have k2:((inn:Int)==100)=true:=by have:=HIN.out;simp;omega
     have E1:=Hm e1.symm;clear e1 hkr hk0 h100 hkr';go_wp2_with fail;refine CM.out.mono ?_;rintro e wa ⟨rfl,hba⟩;have PA:=Hm (hpg.out.below hba);clear hba;go_wp2_with (go_at_call 47;go_must (refine(Zx B b a c t i o 0 _ PA.out.ps 7).mono ?_;rintro e w2 ⟨rfl,hb2⟩));refine⟨rfl,?_,zi PA.out.gb (zD hb2)⟩;rw[E1.out,HK.out];exact rfl
    ·rw[if_neg h100]at e1
     have k2:((inn:Int)==100)=false:=by have:=HIN.out;simp;omega
     have E1:=Hm e1;have hLs:L.length<100:=by omega
     clear e1 hkr hk0 h100;go_wp2_with fail;refine CM.out.mono ?_;rintro e wa ⟨rfl,hba⟩;have PA:=Hm (hpg.out.below hba);clear hba;go_wp2_with fail;refine(SF B b a c t i o wa PA.out.ps PA.out.ho hkr').mono ?_;rintro e w2 ⟨p,g2⟩
     cases hr:XG (tkT t) (yQ t) i o with
     |out=>exact absurd hr (UQ t i o)
     |bad cc aa=>
      rw[hr]at p;have p:e=.panicked (flV cc aa):=p;subst p;refine⟨rfl,?_,zi PA.out.gb g2⟩;rw[←E1.out,hr];exact rfl
     |ok x=>
      rw[hr]at p;obtain⟨v,vE,vF,m,rfl,hit,hps,hox⟩:=p;obtain⟨⟨eA,eN,eC,rfl⟩,⟨fA,fN,fC,rfl⟩⟩:=hit.sl;obtain rfl:=hit.cells;obtain⟨cs,r1,r2,hpush⟩:=PA.out.push hlt g2 hit hps hox;have R2:=Hm r2;have HPU:=Hm hpush;have E2:Hid (ZH (tkT t) (yQ t) gk (L++[x.1]) x.2.1 x.2.2=RP):=by unfold Hid;rw[←E1.out,hr,zj]
      have hs2:w.heap.size≤w2.heap.size:=qq PA.out.gb.size g2.size;clear r1 r2 hpush hit hps hox g2 hr;go_wp2_with (first|(at_builtin;go_must (refine wpList_append_own_at _ rfl _ _ 23 rfl w.heap.size 38 i0 (.agg #[.int .i64 0,.string ⟨#[]⟩,.slice none 0 0,.slice none 0 0,.int .i64 0,.int .i64 0,.int .i64 0]) 7 96 Tryz.underlying23 hi hz0 hz1 hz2 rfl (by decide) _ _ _ rfl R2.out ⟨w2.heap.size,0,none⟩ 1 1 (itC x.1 (.slice eA eN eC) (.slice fA fN fC)) rfl rfl (Zf x.1 _ _ _ rfl) (Yd x.1 _ _ _ _ _ _) (by unfold maxLen;omega) (by omega) (by simp;omega) ?_))|(refine zC rfl 23 38 _ rfl i0 _ Tryz.underlying23 hi hz0 7 hz1 (itC x.1 (.slice eA eN eC) (.slice fA fN fC)) rfl (xT _ _ _ _ _ _ _ _ _ _ _) (by decide) (by decide) ?_));intro v' w3 hown hgrow _ _;have HP3:=Hm (HPU.out v' w3 hown hgrow);clear hown hgrow HPU R2;refine Hid.out ?_
      refine Lib.hid ?_;go_wp2_with fail
      go_roundg gk
      case measure=>omega
      case rel=>exact⟨L++[x.1],x.2.1,x.2.2,by simp;omega,HP3,E2⟩
   ·rw[if_neg hkr]at e1
    rw[show(decide (16≤k.k)&&decide (k.k≤24))=false by simp;omega]at CM;have E1:=Hm e1.symm;clear e1 hkr hk0;go_wp2_with fail;refine CM.out.mono ?_;rintro e wa ⟨rfl,hba⟩;have PA:=Hm (hpg.out.below hba);clear hba;go_wp2_with (go_at_call 47;go_must (refine(Zx B b a c t i o 0 _ PA.out.ps 4).mono ?_;rintro e w2 ⟨rfl,hb2⟩));refine⟨rfl,?_,zi PA.out.gb (zD hb2)⟩;rw[E1.out,HK.out];exact rfl
end Go.Proofs.YtbkajklninmhiaaGreatDoor.Par
namespace Go.Proofs.YtbkajklninmhiaaGreatDoor.Dq
open Go Go.RowKit Mem Syn Parse Par Draw
attribute [local go_sem ↓] Go.wp_at_zero Go.wp_at_succ
variable {B g:Nat} {w0 w w':World} {bs:List UInt8} {D:Sr} {s s':DS}
structure Xi where
 (im:Im) (e f:Value)
def Xi.cs (x:Xi):List Value:=itC x.im x.e x.f
theorem Xi.len (x:Xi):x.cs.length=7:=rfl
structure PgO (B:Nat) (w:World) (iv:Value) (X:List Xi):Prop where
 row:w.ownsRow B 38 7 iv X.length (X.flatMap Xi.cs)
 e:∀x∈X,OwnO B w x.e x.im.E
 f:∀x∈X,OwnO B w x.f x.im.F
 ee:∀x∈X,∀y∈X,Ap x.e y.e
 ef:∀x∈X,∀y∈X,Ap x.e y.f
 ff:∀x∈X,∀y∈X,Ap x.f y.f
 le:∀x∈X,x.im.E.length≤3000∧x.im.F.length≤3000
variable {B':Nat} {iv:Value} {X:List Xi}
theorem PgO.below (h:PgO B' w iv X) (hb:Below w.heap.size w w'):PgO B' w' iv X:=⟨z7 h.row hb,fun x hx=>(h.e x hx).below hb,fun x hx=>(h.f x hx).below hb,h.ee,h.ef,h.ff,h.le⟩
theorem PgO.cur (h:PgO B' w iv X) (c:Cu B g w0 w bs D s) (hg:w.grownBy w' (some g)):PgO B' w' iv X:=⟨YA h.row (by decide) c.d hg,fun x hx=>(h.e x hx).cur c.d hg,fun x hx=>(h.f x hx).cur c.d hg,h.ee,h.ef,h.ff,h.le⟩
theorem PgO.far {r i:Nat} {T':TypeId} {v:Value} {C:Array Value} {fr:Nat×Nat} (h:PgO B' w iv X) (hr:w.heap[r]? =some (.cells C T' fr)) (h1:38≠T') (h2:88≠T'):PgO B' (w.setCell ⟨r,i,none⟩ v) iv X:=⟨zW h.row hr h1,fun x hx=>(h.e x hx).far hr h2,fun x hx=>(h.f x hx).far hr h2,h.ee,h.ef,h.ff,h.le⟩
theorem PgO.nil (B:Nat) (w:World):PgO B w (.slice none 0 0) []:=⟨World.ownsRow_nil _ _ _ _,(fun _ h=>by cases h),(fun _ h=>by cases h),(fun _ h=>by cases h),(fun _ h=>by cases h),(fun _ h=>by cases h),(fun _ h=>by cases h)⟩
theorem Ap.symm {u v:Value} (h:Ap u v):Ap v u:=fun b h1 h2=>(h b h2 h1).symm
theorem yH (u:Value):Ap u u:=fun _ _ _=>rfl
theorem yw {n:Nat} {w w':World} {u v:Value} {L M:List Po} (hu:OwnO n w' u M) (hv:OwnO B' w v L) (hn:w.heap.size≤n):Ap v u:=XP (n:=n) (fun b hb=>qr (World.ownsRow.lt hv b hb).2 hn) hu
theorem PgO.snoc {z:Xi} {v':Value} (h:PgO B' w iv X) (hE:OwnO B' w z.e z.im.E) (hF:OwnO B' w z.f z.im.F) (hz:Ap z.e z.f) (hl:z.im.E.length≤3000∧z.im.F.length≤3000) (hee:∀x∈X,Ap x.e z.e∧Ap x.e z.f∧Ap x.f z.e∧Ap x.f z.f) (row:w'.ownsRow B' 38 7 v' (X.length+1) (X.flatMap Xi.cs++z.cs)) (hg:w.grownBy w' iv.ownBlock):PgO B' w' v' (X++[z]):=by
 have kO:∀{v:Value} {L:List Po},OwnO B' w v L→OwnO B' w' v L:=fun ho=>yY ho hg h.row (by decide)
 have sp:∀{p:Xi→Prop},(∀x∈X,p x)→p z→∀x∈X++[z],p x:=fun {p} h1 h2 x hx=>by
  rcases List.mem_append.1 hx with hx|hx
  ·exact h1 x hx
  ·rw[List.mem_singleton.1 hx];exact h2
 refine⟨?_,sp (fun x hx=>kO (h.e x hx)) (kO hE),sp (fun x hx=>kO (h.f x hx)) (kO hF),?_,?_,?_,sp h.le hl⟩
 ·rw[qg,List.flatMap_append]
  simpa using row
 ·exact sp (fun x hx=>sp (h.ee x hx) (hee x hx).1) (sp (fun y hy=>(hee y hy).1.symm) (yH _))
 ·exact sp (fun x hx=>sp (h.ef x hx) (hee x hx).2.1) (sp (fun y hy=>(hee y hy).2.2.1.symm) hz)
 ·exact sp (fun x hx=>sp (h.ff x hx) (hee x hx).2.2.2) (sp (fun y hy=>(hee y hy).2.2.2.symm) (yH _))
theorem Cu.app {T:TypeId} {z n:Nat} {u:Value} {xs:List Value} (h:Cu B g w0 w bs D s) (hrow:w.ownsRow w0.heap.size T z u n xs) (hT:99≠T) (hg:w.grownBy w' u.ownBlock):Cu B g w0 w' bs D s:=by
 have hB:B≤w0.heap.size:=qq h.lB (qs h.lg);obtain⟨h1,h2,v,hx,ht⟩:=h.d;refine⟨⟨h1,h2,v,zz hg hrow hx hT,ht.below (yk (Below.refl _ _) hrow hB (qq hB h.size) hg)⟩,?_,h.lB,h.lg,h.len,h.hb,h.ho⟩;have hb:Below w0.heap.size w w':=yk (Below.refl _ _) hrow (qp _) h.size hg;exact⟨hb.os.trans h.gb.os,hb.tape.trans h.gb.tape,hb.output.trans h.gb.output,qq h.gb.size hb.size,fun k hk hne=>by rw[hb.block k hk,h.gb.block k hk hne]⟩
theorem zy.app {C:Nat} {a b:Value} {ev:Ev} {T:TypeId} {z n:Nat} {u:Value} {xs:List Value} (h:zy C w a b ev) (hrow:w.ownsRow B' T z u n xs) (h1:9≠T) (h2:2≠T) (hg:w.grownBy w' u.ownBlock):zy C w' a b ev:=⟨yY h.n hg hrow h1,yY h.t hg hrow h2⟩
theorem PgO.app {T:TypeId} {z n C:Nat} {u:Value} {xs:List Value} (h:PgO B' w iv X) (hrow:w.ownsRow C T z u n xs) (h1:38≠T) (h2:88≠T) (hg:w.grownBy w' u.ownBlock):PgO B' w' iv X:=⟨yY h.row hg hrow h1,fun x hx=>yY (h.e x hx) hg hrow h2,fun x hx=>yY (h.f x hx) hg hrow h2,h.ee,h.ef,h.ff,h.le⟩
theorem PgO.lowB {C:Nat} (h:PgO B' w iv X) (hc:C≤B'):PgO C w iv X:=⟨Joins.ownsRow_le h.row hc,fun x hx=>(h.e x hx).low hc,fun x hx=>(h.f x hx).low hc,h.ee,h.ef,h.ff,h.le⟩
def RP (B g:Nat) (w:World) (bs:List UInt8) (D:Sr) (r:List Im×DS) (m:Nat) (e:Ending) (w':World):Prop:=∃iv X,e=.returned (.agg #[iv])∧X.map Xi.im=r.1∧PgO w.heap.size w' iv X∧Cu B g w w' bs D r.2∧r.1.length≤m
end Go.Proofs.YtbkajklninmhiaaGreatDoor.Dq
namespace Go.Proofs.YtbkajklninmhiaaGreatDoor.Dq
open Go Go.RowKit Mem Syn Parse Par Draw
attribute [local go_sem ↓] Go.wp_at_zero Go.wp_at_succ
variable {B g:Nat} {w0 w w':World} {bs:List UInt8} {D:Sr} {s s':DS}
theorem fillO2 (a b c d:Int) (s t:ByteArray):Instr.fill (fun i=>some (i*3,3)) ((Array.range (2*3)).map ((Value.agg #[.int .i64 0,.int .i64 0,.string ⟨#[]⟩]).cells[·% (Value.agg #[.int .i64 0,.int .i64 0,.string ⟨#[]⟩]).cells.size]!)) [(0,.agg [Value.int .i64 a,.int .i64 b,.string s].toArray),(1,.agg [Value.int .i64 c,.int .i64 d,.string t].toArray)]=some [Value.int .i64 a,.int .i64 b,.string s,.int .i64 c,.int .i64 d,.string t].toArray:=by kernel_rfl
theorem Zj {P:Program} {ops:Array Oper} {rest:List Oper} {o:Oper} {a:Act} {w:World} {Q:Exit→Act→World→Prop} (hg:o.guard=none) (t e:TypeId) (x y:Operand) (ho:o.op=.buildSlice t 2 #[(0,x),(1,y)])
  (ie:TypeInfo) (z:Value) (hu:P.underlying t=some (.slice e)) (hie:P.info? e=some ie) (hz:ie.zero=some z) (sz:Nat) (hs:ie.size=sz) (vs us:List Value) (hx:a.eval x=.agg vs.toArray) (hy:a.eval y=.agg us.toArray)
  (hf:Instr.fill (fun i=>some (i*sz,sz)) ((Array.range (2*sz)).map (z.cells[·% z.cells.size]!)) [(0,.agg vs.toArray),(1,.agg us.toArray)]=some (vs++us).toArray) (h0:0<sz) (h1:sz≤1000)
  (h:wpList P ops Q rest (a.put o.dst (.slice (some ⟨w.heap.size,0,none⟩) 2 2)) (w.alloc (.cells (vs++us).toArray e))):wpList P ops Q (o::rest) a w:=by
 refine wpList_buildSlice hg t e 2 _ ho (vs++us).toArray ie z hu hie hz (by rw[hs];omega) (by rw[hs];omega) ?_ h;rw[hs];simpa[hx,hy]using hf
def xh (n:Nat) (z:Int):List Po:=[⟨1,3,[]⟩]++List.replicate n ⟨z,0,[]⟩
theorem xZ (n:Nat) (z:Int):(xh n z).length=n+1:=by simp[xh]
theorem V7 (n:Nat) (z:Int):xh (n+1) z=xh n z++[⟨z,0,[]⟩]:=by simp[xh,List.replicate_succ']
def chL (n:Nat):List Po:=[⟨1,1,[]⟩]++(List.range n).flatMap fun i=>[⟨1,(((i+1) % 7:Nat):Int),[]⟩,⟨9,1,[]⟩]
theorem VB (n:Nat):chL (n+1)=chL n++[⟨1,(((n+1) % 7:Nat):Int),[]⟩,⟨9,1,[]⟩]:=by unfold chL;rw[List.range_succ,List.flatMap_append,ql];simp
theorem YN:∀n,(chL n).length=2*n+1
 |0=>rfl
 |n+1=>by rw[VB,qg,YN n];simp;omega
theorem Ph (n:Nat) (z:Int) (w:World) (hn:n≤1000):Calls Tryz.prog 63 #[.int .i64 (n:Int),.int .i64 z] w fun e w'=>∃v,e=.returned v∧OwnO w.heap.size w' v (xh n z)∧Below w.heap.size w w':=by
 obtain⟨i0,hi,hz0,hz1,hz2⟩:=info_parts yl;go_enter Tryz.func63,Tryz.ntmps63;go_wp2_with fail;refine(xO 3 w).mono ?_;rintro e' w1 ⟨v1,rfl,ho,hb⟩;have O1:=Hm ho;have B1:=Hm hb;clear ho hb;go_wp2;go_loopw [5,6] (fun v i wr=>∃k:Nat,k≤n∧i=.int .i64 (k:Int)∧Hid (OwnO w.heap.size wr v (xh k z))∧Hid (Below w.heap.size w wr)) (fun _ i _=>n- (intOf i).toNat)
 case atStart=>exact⟨0,Nat.zero_le _,rfl,O1,B1⟩
 case round=>
  obtain⟨k,hk,rfl,O,BB⟩:=hrel;obtain⟨a,m,c,rfl⟩:∃a m c,u5=.slice a m c:=by obtain⟨a,c,e,-⟩:=zh O.out;exact⟨_,_,_,e⟩
  by_cases hlt:k<n
  ·have k1:(k:Int)<(n:Int):=by omega
   have e5:IntKind.i64.wrap ((k:Int)+1)=(k:Int)+1:=by rw[IntKind.wrap_i64];omega
   have hm:m=k+1:=by
    obtain⟨a',c',e,-⟩:=zh O.out;injection e with _ e2 _;rw[e2,xZ]
   subst hm;have hb:Below wr.heap.size wr (wr.alloc (.cells (Po.cells ⟨z,0,[]⟩).toArray 88)):=zd (Below.refl _ _) _
   have RA:Hid ((wr.alloc (.cells (Po.cells ⟨z,0,[]⟩).toArray 88)).ownsRow w.heap.size 88 3 (.slice a (k+1) c) (k+1) (zH (xh k z))):=by
    have:=O.out.below hb;unfold OwnO at this;rw[xZ]at this;exact this
   have BA:=Hm (zn BB.out hb);have hzA:=BA.out.size;clear hb;go_wp2_with (first|(at_builtin;go_must (refine wpList_append_own_at _ rfl _ _ 36 rfl w.heap.size 88 i0 (.agg #[.int .i64 0,.int .i64 0,.string ⟨#[]⟩]) 3 32 Tryz.underlying36 hi hz0 hz1 hz2 rfl (by decide) _ _ _ rfl RA.out ⟨wr.heap.size,0,none⟩ 1 1 (Po.cells ⟨z,0,[]⟩) rfl rfl (XC wr ⟨z,0,[]⟩) (Yc _) (by unfold maxLen;omega) (by omega) hzA ?_))|(refine zC rfl 36 88 _ rfl i0 _ Tryz.underlying36 hi hz0 3 hz1 (Po.cells ⟨z,0,[]⟩) rfl (yM _ _ _) (by decide) (by decide) ?_));intro v' w' ho hgr _ _;have BZ:=Hm (yk BA.out RA.out (qp _) hzA hgr)
   have OZ:Hid (OwnO w.heap.size w' v' (xh (k+1) z)):=by
    rw[V7];refine Hm (OwnO.snoc ?_);rw[xZ];exact ho
   obtain⟨az,bz,rfl,-⟩:=zh ho;clear ho hgr;refine Hid.out ?_;refine Lib.hid ?_;go_wp2;exact⟨⟨k+1,by omega,by go_num,OZ,BZ⟩,by simp[intOf];omega⟩
  ·obtain rfl:k=n:=by omega
   have k1:decide ((k:Int)<(k:Int))=false:=by simp
   go_wp2;go_ret;exact⟨_,rfl,O.out,BB.out⟩
theorem chainD (n:Nat) (w:World) (hn:n≤2000):Calls Tryz.prog 64 #[.int .i64 ((n:Int)+1)] w fun e w'=>∃v,e=.returned v∧OwnO w.heap.size w' v (chL n)∧Below w.heap.size w w':=by
 obtain⟨i0,hi,hz0,hz1,hz2⟩:=info_parts yl;go_enter Tryz.func64,Tryz.ntmps64;go_wp2_with fail;refine(xO 1 w).mono ?_;rintro e' w1 ⟨v1,rfl,ho,hb⟩;have O1:=Hm ho;have B1:=Hm hb;clear ho hb;go_wp2;go_loopw [3,4] (fun v i wr=>∃k:Nat,k≤n∧i=.int .i64 ((k:Int)+1)∧Hid (OwnO w.heap.size wr v (chL k))∧Hid (Below w.heap.size w wr)) (fun _ i _=>n+1- (intOf i).toNat)
 case atStart=>exact⟨0,Nat.zero_le _,rfl,O1,B1⟩
 case round=>
  obtain⟨k,hk,rfl,O,BB⟩:=hrel;obtain⟨a,m,c,rfl⟩:∃a m c,u3=.slice a m c:=by obtain⟨a,c,e,-⟩:=zh O.out;exact⟨_,_,_,e⟩
  by_cases hlt:k<n
  ·have k1:(k:Int)+1<(n:Int)+1:=by omega
   have e5:IntKind.i64.wrap ((k:Int)+1+1)=((k+1:Nat):Int)+1:=by rw[IntKind.wrap_i64];omega
   have e2:Int.tmod ((k:Int)+1) 7=(((k+1) % 7:Nat):Int):=by rw[Int.tmod_eq_emod_of_nonneg (by omega)];simp
   obtain⟨q,hq⟩:∃q,q=(k+1) % 7:=⟨_,rfl⟩;have HQ:=Hm hq;rw[←hq]at e2;clear hq
   have hm:m=2*k+1:=by
    obtain⟨a',c',e,-⟩:=zh O.out;injection e with _ e2 _;rw[e2,YN]
   subst hm;have hb:Below wr.heap.size wr (wr.alloc (.cells (Po.cells ⟨1,(q:Int),[]⟩++Po.cells ⟨9,1,[]⟩).toArray 88)):=zd (Below.refl _ _) _
   have RA:Hid ((wr.alloc (.cells (Po.cells ⟨1,(q:Int),[]⟩++Po.cells ⟨9,1,[]⟩).toArray 88)).ownsRow w.heap.size 88 3 (.slice a (2*k+1) c) (2*k+1) (zH (chL k))):=by
    have:=O.out.below hb;unfold OwnO at this;rw[YN]at this;exact this
   have BA:=Hm (zn BB.out hb);have hzA:=BA.out.size;clear hb
   have newsA:∀j u,(Po.cells ⟨1,(q:Int),[]⟩++Po.cells ⟨9,1,[]⟩)[j]? =some u→(wr.alloc (.cells (Po.cells ⟨1,(q:Int),[]⟩++Po.cells ⟨9,1,[]⟩).toArray 88)).cell? ((⟨wr.heap.size,0,none⟩:Addr).add j)=some u:=fun j u hu=>by
    rw[Addr.add_lit,Nat.zero_add,zb (zo wr _) j];simpa using hu
   have oneA:∀u∈Po.cells ⟨1,(q:Int),[]⟩++Po.cells ⟨9,1,[]⟩,u.oneCell'=true:=fun u hu=>by
    rcases List.mem_append.1 hu with h|h
    ·exact Yc _ u h
    ·exact Yc _ u h
   go_wp2_with (first|(at_builtin;go_must (refine wpList_append_own_at _ rfl _ _ 36 rfl w.heap.size 88 i0 (.agg #[.int .i64 0,.int .i64 0,.string ⟨#[]⟩]) 3 32 Tryz.underlying36 hi hz0 hz1 hz2 rfl (by decide) _ _ _ rfl RA.out ⟨wr.heap.size,0,none⟩ 2 2 (Po.cells ⟨1,(q:Int),[]⟩++Po.cells ⟨9,1,[]⟩) rfl rfl newsA oneA (by unfold maxLen;omega) (by omega) hzA ?_))|(refine Zj rfl 36 88 _ _ rfl i0 _ Tryz.underlying36 hi hz0 3 hz1 (Po.cells ⟨1,(q:Int),[]⟩) (Po.cells ⟨9,1,[]⟩) rfl rfl (fillO2 _ _ _ _ _ _) (by decide) (by decide) ?_));intro v' w' ho hgr _ _;have BZ:=Hm (yk BA.out RA.out (qp _) hzA hgr)
   have OZ:Hid (OwnO w.heap.size w' v' (chL (k+1))):=by
    rw[VB,←HQ.out];refine Hm (OwnO.app (M:=[⟨1,(q:Int),[]⟩,⟨9,1,[]⟩]) ?_);rw[YN];exact ho
   obtain⟨az,bz,rfl,-⟩:=zh ho;clear ho hgr newsA oneA;refine Hid.out ?_;refine Lib.hid ?_;go_wp2;exact⟨⟨k+1,by omega,by go_num,OZ,BZ⟩,by simp[intOf];omega⟩
  ·obtain rfl:k=n:=by omega
   have k1:decide ((k:Int)+1<(k:Int)+1)=false:=by simp
   go_wp2;go_ret;exact⟨_,rfl,O.out,BB.out⟩
end Go.Proofs.YtbkajklninmhiaaGreatDoor.Dq
