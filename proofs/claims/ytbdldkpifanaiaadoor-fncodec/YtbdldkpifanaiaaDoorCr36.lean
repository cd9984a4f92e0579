import Derived.Test.YtbdldkpifanaiaaDoorCr34
import Derived.Test.YtbdldkpifanaiaaDoorCr35
set_option maxHeartbeats 6400000
set_option maxRecDepth 1000000
set_option linter.unusedVariables false
set_option linter.unusedSimpArgs false
open List renaming length_append → qg
open Nat renaming le_refl → qn, le_trans → qo, lt_of_lt_of_le → qp, le_of_lt → qq
namespace Go.Proofs.YtbdldkpifanaiaaDoor.Dq
open Go Go.RowKit Mem Syn Parse Par Draw
attribute [local go_sem ↓] Go.wp_at_zero Go.wp_at_succ
variable {B g:Nat} {w0 w w':World} {bs:List UInt8} {D:Sr} {s s':DS}
def Fr0 (g:Nat) (v1 v2:Value) (r:List Value):Act:={tmps:=(.pointer (some ⟨g,0,none⟩)::v1::v2::r).toArray,defers:=[]}
theorem UY {C n ca cb:Nat} {pa pb:Option Addr} {G:Bool} {ev:Ev} {A:Code} {Q:Exit→Act→World→Prop} {r:List Value} (hr:r.length=143) (C0:Hid (Cu B g w w bs D s)) (hE:Hid (zp C w (.slice pa n ca) (.slice pb n cb) ev))
  (hA:Hid (∀x s1 kz wd gi v1 v3 v5 r' wx,x<8→D.bel s 8=(x,s1)→kz=2+(x:Int)→wd=(if G=true then 150 else 40)→r'.length=136→Cu B g w wx bs D s1→wx.heap[w.heap.size]? =some (.cells #[.slice pa n ca,.slice pb n cb] 102)→wx.heap[w.heap.size+1]? =some (.cells #[.int .i64 0,.string ⟨#[]⟩,.slice none 0 0,.slice none 0 0,.int .i64 0,.int .i64 0,.int .i64 0] 77)→w.heap.size+2≤gi→wx.heap[gi]? =some (.cells #[.int .i64 kz,.string ⟨#[]⟩,.slice none 0 0,.slice none 0 0,.int .i64 0,.int .i64 0,.int .i64 0] 77)→zp C wx (.slice pa n ca) (.slice pb n cb) ev→Code.wp Tryd.prog A Q (Fr g w gi G kz wd v1 v3 v5 r') wx)) (hP:Hid (∀c a wx,Q (.panic c) a wx→Q (.panic c) a wx)):
  Code.wp Tryd.prog (.seq (sL r0) (.seq (sL (sR r0)) (.seq (sL (sR (sR r0))) (.seq (sL (sR (sR (sR r0)))) (.seq (sL (sR (sR (sR (sR r0))))) A))))) Q (Fr0 g (.agg #[.slice pa n ca,.slice pb n cb]) (.bool G) r) w:=by
 obtain⟨w1,hw1⟩:∃W,W=(w.alloc (.cells #[.slice pa n ca,.slice pb n cb] 102)).alloc (.cells #[.int .i64 0,.string ⟨#[]⟩,.slice none 0 0,.slice none 0 0,.int .i64 0,.int .i64 0,.int .i64 0] 77):=⟨_,rfl⟩;have C1:Hid (Cu B g w w1 bs D s):=by rw[hw1];exact(C0.out.al _).al _
 have E1:Hid (zp C w1 (.slice pa n ca) (.slice pb n cb) ev):=by rw[hw1];exact(hE.out.below (zf (Below.refl _ _) _)).below (zf (Below.refl _ _) _)
 have Kbox_1:Hid (w1.heap[w.heap.size]? =some (.cells #[.slice pa n ca,.slice pb n cb] 102)):=by rw[hw1];exact zh (zi _ _) _
 have Kres_1:Hid (w1.heap[w.heap.size+1]? =some (.cells #[.int .i64 0,.string ⟨#[]⟩,.slice none 0 0,.slice none 0 0,.int .i64 0,.int .i64 0,.int .i64 0] 77)):=by rw[hw1];exact zx _ _ _
 have hz1:w1.heap.size=w.heap.size+2:=by rw[hw1];simp
 clear C0 hE;revert r;refine @zE 143 _ ?_
 iterate 143 (intro _)
 show Code.wp _ _ _ _ _
 conv=>arg 2;dsimp only[r0,Tryd.f67,Option.getD,sR,sL,cT,cF,bk,lpo]
 conv=>arg 4;dsimp only[Fr0]
 go_wp2_with fail;rw[←hw1];clear hw1;refine(zQ C1.out 8 (by omega) (by omega)).mono ?_;rintro e' w2 ⟨x,s2,hx,lx,rfl,hc,hgb⟩;have C2:=Hm hc;have hz2:=hgb.size;have Qx:=Hm hx;have Kbox_2:=Hm (Cu.blk C1.out (by omega) Kbox_1.out hgb);have Kres_2:=Hm (Cu.blk C1.out (by omega) Kres_1.out hgb);have E2:=Hm (zp.cur E1.out C1.out hgb);clear Kbox_1 Kres_1 E1 hx hc hgb;have e1:IntKind.i64.wrap (2+(x:Int))=2+(x:Int):=by rw[IntKind.wrap_i64];omega
 obtain⟨w3,hw3⟩:∃W,W=w2.alloc (.cells #[.int .i64 (2+(x:Int)),.string ⟨#[]⟩,.slice none 0 0,.slice none 0 0,.int .i64 0,.int .i64 0,.int .i64 0] 77):=⟨_,rfl⟩;have hb:Below w2.heap.size w2 w3:=by rw[hw3];exact zf (Below.refl _ _) _
 have Kit_3:Hid (w3.heap[w2.heap.size]? =some (.cells #[.int .i64 (2+(x:Int)),.string ⟨#[]⟩,.slice none 0 0,.slice none 0 0,.int .i64 0,.int .i64 0,.int .i64 0] 77)):=by rw[hw3];exact zi _ _
 have C3:=Hm (Cu.below C2.out hb);have E3:=Hm (zp.below E2.out hb);have Kbox_3:=Hm (ze Kbox_2.out hb);have Kres_3:=Hm (ze Kres_2.out hb);clear hb
 cases G with
 |true=>
  go_wp2_with fail;rw[←hw3];refine hA.out x s2 (2+(x:Int)) _ w2.heap.size _ _ _ _ _ lx Qx.out rfl ?_ ?_ C3.out Kbox_3.out Kres_3.out (by omega) Kit_3.out E3.out
  ·rfl
  ·rfl
 |false=>
  go_wp2_with fail;rw[←hw3];refine hA.out x s2 (2+(x:Int)) _ w2.heap.size _ _ _ _ _ lx Qx.out rfl ?_ ?_ C3.out Kbox_3.out Kres_3.out (by omega) Kit_3.out E3.out
  ·rfl
  ·rfl
theorem r0_eq:r0=.seq (sL r0) (.seq (sL (sR r0)) (.seq (sL (sR (sR r0))) (.seq (sL (sR (sR (sR r0)))) (.seq (sL (sR (sR (sR (sR r0))))) r5)))):=rfl
theorem r5_eq:r5=.seq (sL r5) (.seq (sL (sR r5)) (.seq (sL (sR (sR r5))) (.seq (sL (sR (sR (sR r5)))) (.seq (sL (sR (sR (sR (sR r5))))) (.seq (sL (sR (sR (sR (sR (sR r5)))))) (.seq (sL (sR (sR (sR (sR (sR (sR r5))))))) r13)))))):=rfl
theorem ruleD {C:Nat} {a b:Value} {ev:Ev} {G:Bool} (C0:Cu B g w w bs D s) (hE:zp C w a b ev) (hn1:ev.length≤100):Calls Tryd.prog 67 #[.pointer (some ⟨g,0,none⟩),.agg #[a,b],.bool G] w (RI B g w bs D (ZI D ev s G)):=by
 obtain⟨pa,ca,rfl,-⟩:=zj hE.n;obtain⟨pb,cb,rfl,-⟩:=zj hE.t;refine calls_of_wp Tryd.func67 (c:=r0) rfl ?_;rw[show(#[.pointer (some ⟨g,0,none⟩),.agg #[.slice pa ev.length ca,.slice pb ev.length cb],.bool G]++Array.replicate (Tryd.f67.ntmps- (#[.pointer (some ⟨g,0,none⟩),.agg #[.slice pa ev.length ca,.slice pb ev.length cb],.bool G]:Array Value).size) undef)=(.pointer (some ⟨g,0,none⟩)::.agg #[.slice pa ev.length ca,.slice pb ev.length cb]::.bool G::List.replicate 143 undef).toArray from Xt _ _ _ 143,r0_eq];refine UY (r:=List.replicate 143 undef) List.length_replicate (Hm C0) (Hm hE) (Hm fun x s1 kz wd gi v1 v3 v5 r' wx hx hd hk hw hr hc hb hrs hgi hit he=>?_) (Hm fun _ _ _ h=>h)
 have hm:∀G',z8 D ev x s1 G' (if G'=true then 150 else 40)=ZI D ev s G':=fun G'=>by unfold ZI;rw[hd]
 rw[r5_eq];have HC:=Hm hc;have HB:=Hm hb;have HR:=Hm hrs;have HE:=Hm he;have tail:∀{G':Bool} {k' wd':Int},Hid (∀v1 v3 v5 r' wx s' im vE vF,r'.length=136→Rz B g w wx bs D s' gi im vE vF→ZI D ev s G'=(im,s')→Code.wp Tryd.prog r13 (bodyPost Tryd.prog Tryd.f67 (RI B g w bs D (ZI D ev s G'))) (Fr g w gi G' k' wd' v1 v3 v5 r') wx):=fun {G' k' wd'}=>Hm fun v1 v3 v5 r' wx s' im vE vF hr hz hm=>VK hr (Hm hz) (Hm hm)
 rcases(show x=0∨x=1∨x=2∨x=3∨x=4∨x=5∨x=6∨x=7 by omega)with rfl|rfl|rfl|rfl|rfl|rfl|rfl|rfl
 ·obtain rfl:kz=2:=by omega
  have HT:=Hm hit
  cases G with
  |true=>
   subst hw;exact rule0t hr HC HB HR hgi HT HE hn1 (Hm (hm true)) tail
  |false=>
   subst hw;exact rule0f hr HC HB HR hgi HT HE hn1 (Hm (hm false)) tail
 ·obtain rfl:kz=3:=by omega
  have HT:=Hm hit
  cases G with
  |true=>
   subst hw;exact rule1t hr HC HB HR hgi HT HE hn1 (Hm (hm true)) tail
  |false=>
   subst hw;exact rule1f hr HC HB HR hgi HT HE hn1 (Hm (hm false)) tail
 ·obtain rfl:kz=4:=by omega
  have HT:=Hm hit
  cases G with
  |true=>
   subst hw;exact TF (wd:=150) hr HC HB HR hgi HT HE hn1 (by omega) (by omega) (Hm (hm true)) tail
  |false=>
   subst hw;exact TF (wd:=40) hr HC HB HR hgi HT HE hn1 (by omega) (by omega) (Hm (hm false)) tail
 ·obtain rfl:kz=5:=by omega
  have HT:=Hm hit
  cases G with
  |true=>
   subst hw;exact rule3t hr HC HB HR hgi HT HE hn1 (Hm (hm true)) tail
  |false=>
   subst hw;exact rule3f hr HC HB HR hgi HT HE hn1 (Hm (hm false)) tail
 ·obtain rfl:kz=6:=by omega
  have HT:=Hm hit
  cases G with
  |true=>
   subst hw;exact TE (wd:=150) hr HC HB HR hgi HT HE hn1 (by omega) (by omega) (Hm (hm true)) tail
  |false=>
   subst hw;exact TE (wd:=40) hr HC HB HR hgi HT HE hn1 (by omega) (by omega) (Hm (hm false)) tail
 ·obtain rfl:kz=7:=by omega
  have HT:=Hm hit
  cases G with
  |true=>
   subst hw;exact TD (wd:=150) hr HC HB HR hgi HT HE hn1 (by omega) (by omega) (Hm (hm true)) tail
  |false=>
   subst hw;exact TD (wd:=40) hr HC HB HR hgi HT HE hn1 (by omega) (by omega) (Hm (hm false)) tail
 ·obtain rfl:kz=8:=by omega
  have HT:=Hm hit
  cases G with
  |true=>
   subst hw;exact TC (wd:=150) hr HC HB HR hgi HT HE hn1 (by omega) (by omega) (Hm (hm true)) tail
  |false=>
   subst hw;exact TC (wd:=40) hr HC HB HR hgi HT HE hn1 (by omega) (by omega) (Hm (hm false)) tail
 ·obtain rfl:kz=9:=by omega
  have HT:=Hm hit
  cases G with
  |true=>
   subst hw;exact rule7t hr HC HB HR hgi HT HE hn1 (Hm (hm true)) tail
  |false=>
   subst hw;exact rule7f hr HC HB HR hgi HT HE hn1 (Hm (hm false)) tail
end Go.Proofs.YtbdldkpifanaiaaDoor.Dq
namespace Go.Proofs.YtbdldkpifanaiaaDoor.Par
open Go Go.RowKit Mem Syn Parse
attribute [local go_sem ↓] Go.wp_at_zero Go.wp_at_succ
def itC (im:Im) (vE vF:Value):List Value:=[.int .i64 im.k,.string ⟨im.n.toArray⟩,vE,vF,.int .i64 im.K,.int .i64 im.lo,.int .i64 im.hi]
inductive Its (w:World) (s:Nat):Nat→List Value→List Im→Prop
 |nil:Its w s s [] []
 |snoc (e e':Nat) (cs:List Value) (L:List Im) (im:Im) (vE vF:Value) (m:Nat) (h:Its w s e cs L) (hi:ItO e w (.agg (itC im vE vF).toArray) im vE vF m) (hb:∀g,vF.ownBlock=some g→g<e') (hm:m≤e'):Its w s e' (cs++itC im vE vF) (L++[im])
theorem Its.le {w:World} {s e:Nat} {cs:List Value} {L:List Im} (h:Its w s e cs L):s≤e:=by
 induction h with
 |nil=>exact qn _
 |snoc e e' cs L im vE vF m h hi hb hm ih=>have:=hi.sm;omega
def KO (s:Nat) (w w':World):Prop:=∀g C fr,s≤g→w.heap[g]? =some (.cells C 97 fr)→w'.heap[g]? =some (.cells C 97 fr)
theorem ItO.keep {s:Nat} {w w':World} {v:Value} {im:Im} {vE vF:Value} {m:Nat} (h:ItO s w v im vE vF m) (hk:KO s w w'):ItO s w' v im vE vF m:=
 ⟨h.v,h.e.keepB hk,h.eb,h.sm,h.f.keepB (fun g C fr hg hc=>hk g C fr (qo h.sm hg) hc)⟩
theorem Its.keep {w w':World} {s e:Nat} {cs:List Value} {L:List Im} (h:Its w s e cs L) (hk:KO s w w'):Its w' s e cs L:=by
 induction h with
 |nil=>exact .nil
 |snoc e e' cs L im vE vF m h hi hb hm ih=>exact .snoc e e' cs L im vE vF m ih (hi.keep (fun g C fr hg hc=>hk g C fr (qo h.le hg) hc)) hb hm
theorem ItO.cells {s:Nat} {w:World} {v:Value} {im:Im} {vE vF:Value} {m:Nat} (h:ItO s w v im vE vF m):v=.agg (itC im vE vF).toArray:=h.v
theorem TI:(Tryd.prog.info? 77).map (fun i=>(i.zero,i.size,i.bytes))=some (some (.agg #[.int .i64 0,.string ⟨#[]⟩,.slice none 0 0,.slice none 0 0,.int .i64 0,.int .i64 0,.int .i64 0]),7,96):=by kernel_rfl
theorem YI (k:Int) (n:ByteArray) (a:Option Addr) (x y:Nat) (a':Option Addr) (x' y':Nat) (K lo hi:Int):Instr.fill (fun i=>some (i*7,7)) ((Array.range (1*7)).map ((Value.agg #[.int .i64 0,.string ⟨#[]⟩,.slice none 0 0,.slice none 0 0,.int .i64 0,.int .i64 0,.int .i64 0]).cells[·% (Value.agg #[.int .i64 0,.string ⟨#[]⟩,.slice none 0 0,.slice none 0 0,.int .i64 0,.int .i64 0,.int .i64 0]).cells.size]!)) [(0,.agg [Value.int .i64 k,.string n,.slice a x y,.slice a' x' y',.int .i64 K,.int .i64 lo,.int .i64 hi].toArray)]=some [Value.int .i64 k,.string n,.slice a x y,.slice a' x' y',.int .i64 K,.int .i64 lo,.int .i64 hi].toArray:=by kernel_rfl
theorem ItO.low {s s':Nat} {w:World} {v:Value} {im:Im} {vE vF:Value} {m:Nat} (h:ItO s w v im vE vF m) (hs:s'≤s):ItO s' w v im vE vF m:=⟨h.v,VX h.e hs,h.eb,qo hs h.sm,h.f⟩
theorem ItO.cap {s:Nat} {w:World} {v:Value} {im:Im} {vE vF:Value} {m:Nat} (h:ItO s w v im vE vF m) (hs:s≤w.heap.size):∃m',m'≤w.heap.size∧ItO s w v im vE vF m':=by
 by_cases hm:m≤w.heap.size
 ·exact⟨m,hm,h⟩
 ·refine⟨w.heap.size,qn _,h.v,h.e,h.e.hi,hs,h.f.1,?_⟩
  rcases h.f.2 with h0|⟨g,cap,cur,h1,h2,h3,h4⟩
  ·exact Or.inl h0
  ·have:=zu h3;omega
theorem ko_below {s:Nat} {w w':World} (h:Below w.heap.size w w'):KO s w w':=fun g C fr _ hc=>by rw[h.block g (zu hc)];exact hc
theorem ko_gb {s b:Nat} {w w':World} (h:w.grownBy w' (some b)) (hb:b<s):KO s w w':=fun g C fr hg hc=>by rw[h.block g (zu hc) (by simp;omega)];exact hc
theorem ko_row {s B n:Nat} {w w':World} {v:Value} {xs:List Value} (h:w.grownBy w' v.ownBlock) (ho:w.ownsRow B 77 7 v n xs):KO s w w':=fun g C fr hg hc=>by
 rw[h.block g (zu hc) (fun e=>?_)]
 ·exact hc
 ·obtain⟨c,fz,h2⟩:=xW ho g e.symm
  rw[hc]at h2;injection h2 with h2;injection h2 with _ h3 _;exact absurd h3 (by decide)
theorem KO.trans {s:Nat} {a b c:World} (h:KO s a b) (k:KO s b c):KO s a c:=fun g C fr hg hc=>k g C fr hg (h g C fr hg hc)
theorem Yy {w:World} (im:Im) (vE vF:Value) (g:Nat) (hg:g=w.heap.size):∀j u,(itC im vE vF)[j]? =some u→(w.alloc (.cells (itC im vE vF).toArray 77)).cell? ((⟨g,0,none⟩:Addr).add j)=some u:=fun j u hu=>by
 subst hg;rw[Addr.add_lit,Nat.zero_add,za (zi w _) j];simpa using hu
theorem Wr (im:Im) (a:Option Addr) (x y:Nat) (a':Option Addr) (x' y':Nat):∀u∈itC im (.slice a x y) (.slice a' x' y'),u.oneCell'=true:=fun u hu=>by
 simp[itC]at hu;rcases hu with rfl|rfl|rfl|rfl|rfl|rfl|rfl<;>rfl
end Go.Proofs.YtbdldkpifanaiaaDoor.Par
namespace Go.Proofs.YtbdldkpifanaiaaDoor.Dq
open Go Go.RowKit Mem Syn Parse Par Draw
attribute [local go_sem ↓] Go.wp_at_zero Go.wp_at_succ
variable {B g:Nat} {w0 w w':World} {bs:List UInt8} {D:Sr} {s s':DS}
structure Xi where
 (im:Im) (e f:Value)
def Xi.cs (x:Xi):List Value:=itC x.im x.e x.f
theorem Xi.len (x:Xi):x.cs.length=7:=rfl
structure PgO (B:Nat) (w:World) (iv:Value) (X:List Xi):Prop where
 row:w.ownsRow B 77 7 iv X.length (X.flatMap Xi.cs)
 e:∀x∈X,OwnO B w x.e x.im.E
 f:∀x∈X,OwnO B w x.f x.im.F
 ee:∀x∈X,∀y∈X,Ap x.e y.e
 ef:∀x∈X,∀y∈X,Ap x.e y.f
 ff:∀x∈X,∀y∈X,Ap x.f y.f
 le:∀x∈X,x.im.E.length≤3000∧x.im.F.length≤3000
variable {B':Nat} {iv:Value} {X:List Xi}
theorem PgO.below (h:PgO B' w iv X) (hb:Below w.heap.size w w'):PgO B' w' iv X:=⟨z9 h.row hb,fun x hx=>(h.e x hx).below hb,fun x hx=>(h.f x hx).below hb,h.ee,h.ef,h.ff,h.le⟩
theorem PgO.cur (h:PgO B' w iv X) (c:Cu B g w0 w bs D s) (hg:w.grownBy w' (some g)):PgO B' w' iv X:=⟨xq h.row (by decide) c.d hg,fun x hx=>(h.e x hx).cur c.d hg,fun x hx=>(h.f x hx).cur c.d hg,h.ee,h.ef,h.ff,h.le⟩
theorem PgO.far {r i:Nat} {T':TypeId} {v:Value} {C:Array Value} {fr:Nat×Nat} (h:PgO B' w iv X) (hr:w.heap[r]? =some (.cells C T' fr)) (h1:77≠T') (h2:97≠T'):PgO B' (w.setCell ⟨r,i,none⟩ v) iv X:=⟨zo h.row hr h1,fun x hx=>(h.e x hx).far hr h2,fun x hx=>(h.f x hx).far hr h2,h.ee,h.ef,h.ff,h.le⟩
theorem PgO.nil (B:Nat) (w:World):PgO B w (.slice none 0 0) []:=⟨World.ownsRow_nil _ _ _ _,(fun _ h=>by cases h),(fun _ h=>by cases h),(fun _ h=>by cases h),(fun _ h=>by cases h),(fun _ h=>by cases h),(fun _ h=>by cases h)⟩
theorem Ap.symm {u v:Value} (h:Ap u v):Ap v u:=fun b h1 h2=>(h b h2 h1).symm
theorem WX (u:Value):Ap u u:=fun _ _ _=>rfl
theorem xG {n:Nat} {w w':World} {u v:Value} {L M:List Po} (hu:OwnO n w' u M) (hv:OwnO B' w v L) (hn:w.heap.size≤n):Ap v u:=Xj (n:=n) (fun b hb=>qp (World.ownsRow.lt hv b hb).2 hn) hu
theorem PgO.snoc {z:Xi} {v':Value} (h:PgO B' w iv X) (hE:OwnO B' w z.e z.im.E) (hF:OwnO B' w z.f z.im.F) (hz:Ap z.e z.f) (hl:z.im.E.length≤3000∧z.im.F.length≤3000) (hee:∀x∈X,Ap x.e z.e∧Ap x.e z.f∧Ap x.f z.e∧Ap x.f z.f) (row:w'.ownsRow B' 77 7 v' (X.length+1) (X.flatMap Xi.cs++z.cs)) (hg:w.grownBy w' iv.ownBlock):PgO B' w' v' (X++[z]):=by
 have kO:∀{v:Value} {L:List Po},OwnO B' w v L→OwnO B' w' v L:=fun ho=>yu ho hg h.row (by decide)
 have sp:∀{p:Xi→Prop},(∀x∈X,p x)→p z→∀x∈X++[z],p x:=fun {p} h1 h2 x hx=>by
  rcases List.mem_append.1 hx with hx|hx
  ·exact h1 x hx
  ·rw[List.mem_singleton.1 hx];exact h2
 refine⟨?_,sp (fun x hx=>kO (h.e x hx)) (kO hE),sp (fun x hx=>kO (h.f x hx)) (kO hF),?_,?_,?_,sp h.le hl⟩
 ·rw[qg,List.flatMap_append]
  simpa using row
 ·exact sp (fun x hx=>sp (h.ee x hx) (hee x hx).1) (sp (fun y hy=>(hee y hy).1.symm) (WX _))
 ·exact sp (fun x hx=>sp (h.ef x hx) (hee x hx).2.1) (sp (fun y hy=>(hee y hy).2.2.1.symm) hz)
 ·exact sp (fun x hx=>sp (h.ff x hx) (hee x hx).2.2.2) (sp (fun y hy=>(hee y hy).2.2.2.symm) (WX _))
theorem Cu.app {T:TypeId} {z n:Nat} {u:Value} {xs:List Value} (h:Cu B g w0 w bs D s) (hrow:w.ownsRow w0.heap.size T z u n xs) (hT:50≠T) (hg:w.grownBy w' u.ownBlock):Cu B g w0 w' bs D s:=by
 have hB:B≤w0.heap.size:=qo h.lB (qq h.lg);obtain⟨h1,h2,v,hx,ht⟩:=h.d;refine⟨⟨h1,h2,v,zB hg hrow hx hT,ht.below (yB (Below.refl _ _) hrow hB (qo hB h.size) hg)⟩,?_,h.lB,h.lg,h.len,h.hb,h.ho⟩;have hb:Below w0.heap.size w w':=yB (Below.refl _ _) hrow (qn _) h.size hg;exact⟨hb.os.trans h.gb.os,hb.tape.trans h.gb.tape,hb.output.trans h.gb.output,qo h.gb.size hb.size,fun k hk hne=>by rw[hb.block k hk,h.gb.block k hk hne]⟩
theorem zp.app {C:Nat} {a b:Value} {ev:Ev} {T:TypeId} {z n:Nat} {u:Value} {xs:List Value} (h:zp C w a b ev) (hrow:w.ownsRow B' T z u n xs) (h1:9≠T) (h2:2≠T) (hg:w.grownBy w' u.ownBlock):zp C w' a b ev:=⟨yu h.n hg hrow h1,yu h.t hg hrow h2⟩
theorem PgO.app {T:TypeId} {z n C:Nat} {u:Value} {xs:List Value} (h:PgO B' w iv X) (hrow:w.ownsRow C T z u n xs) (h1:77≠T) (h2:97≠T) (hg:w.grownBy w' u.ownBlock):PgO B' w' iv X:=⟨yu h.row hg hrow h1,fun x hx=>yu (h.e x hx) hg hrow h2,fun x hx=>yu (h.f x hx) hg hrow h2,h.ee,h.ef,h.ff,h.le⟩
def RP (B g:Nat) (w:World) (bs:List UInt8) (D:Sr) (r:List Im×DS) (m:Nat) (e:Ending) (w':World):Prop:=∃iv X,e=.returned (.agg #[iv])∧X.map Xi.im=r.1∧PgO w.heap.size w' iv X∧Cu B g w w' bs D r.2∧r.1.length≤m
end Go.Proofs.YtbdldkpifanaiaaDoor.Dq
