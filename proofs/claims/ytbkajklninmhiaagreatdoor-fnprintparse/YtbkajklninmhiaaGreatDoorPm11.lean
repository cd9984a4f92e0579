import Derived.Test.YtbkajklninmhiaaGreatDoorPm10
import Derived.Maps.AppendAt
import Derived.Maps.Range
set_option maxHeartbeats 3200000
set_option maxRecDepth 1000000
set_option linter.unusedVariables false
set_option linter.unusedSimpArgs false
open List renaming length_append → qg
open Nat renaming le_refl → qp, le_trans → qq, lt_of_lt_of_le → qr, le_of_lt → qs, lt_of_le_of_lt → qt
namespace Go.Proofs.YtbkajklninmhiaaGreatDoor.Par
open Go Go.RowKit Mem Syn Parse
attribute [local go_sem ↓] Go.wp_at_zero Go.wp_at_succ
theorem xP (w:World) (v:Value) (T:TypeId):∀j u,[v][j]? =some u→(w.alloc (.cells #[v] T)).cell? ((⟨w.heap.size,0,none⟩:Addr).add j)=some u:=fun j u hu=>by
 cases j with
 |zero=>rw[Addr.add_lit,zb (zo w _) 0];simpa using hu
 |succ j=>simp at hu
theorem Wn:(Tryz.prog.info? 130).map (fun i=>(i.zero,i.size,i.bytes))=some (some .nilIface,1,16):=by kernel_rfl
theorem info_parts {P:Program} {t:TypeId} {z:Value} {s b:Nat} (h:(P.info? t).map (fun i=>(i.zero,i.size,i.bytes))=some (some z,s,b)):∃i,P.info? t=some i∧i.zero=some z∧i.size=s∧i.bytes=b:=by
 cases hi:P.info? t with
 |none=>rw[hi]at h;cases h
 |some i=>
  rw[hi]at h;simp at h;exact⟨i,rfl,h.1,h.2.1,h.2.2⟩
theorem RS (w:World) (T:TypeId) (v:Value) (B:Nat) (hB:B≤w.heap.size):(w.alloc (.cells #[v] T)).ownsRow B T 1 (.slice (some ⟨w.heap.size,0,none⟩) 1 1) 1 [v]:=
 ⟨rfl,Or.inr ⟨w.heap.size,1,#[v],rfl,hB,zo _ _,qp _,by unfold maxLen;omega,rfl,rfl⟩⟩
theorem Wc {w:World} {B n:Nat} {e:TypeId} {v:Value} {xs:List Value} (h:w.ownsRow B e 1 v n xs) (h0:0<n):∃g c,v=.slice (some ⟨g,0,none⟩) n c∧n≤c∧B≤g∧g<w.heap.size∧(∀i u,xs[i]? =some u→w.cell? ⟨g,i,none⟩=some u)∧∃C fr,w.heap[g]? =some (.cells C e fr):=by
 rcases h.2 with⟨rfl,h1⟩|⟨g,cap,cur,rfl,hb,hg,hn,hm,hs,ht⟩
 ·omega
 ·refine⟨g,cap,rfl,hn,hb,zN hg,fun i u hu=>?_,_,_,hg⟩
  rw[zb hg i];rw[←ht,List.getElem?_take]at hu
  split at hu
  ·rw[←Array.getElem?_toList];exact hu
  ·cases hu
structure Ol (B b:Nat) (a:Option Addr) (c:Nat) (t:List UInt8) (w:World) (D:Nat) (lv:Value) (L:List Tr) (vs:List Value) (j o:Nat) (wr:World):Prop where
 row:wr.ownsRow w.heap.size 130 1 lv L.length vs
 nq:Nqs wr (fun g=>Nw w.heap.size g∧some g≠lv.ownBlock) vs L
 ps:PS B b a c t j o D wr
 gb:w.grownBy wr (some b)
theorem Pc {B n:Nat} {e:TypeId} {s:Nat} {w:World} {v:Value} {xs:List Value} (h:w.ownsRow B e s v n xs) {b:Nat} (hb:b<B):some b≠v.ownBlock:=fun e=>by
 have:=(h.lt b e.symm).1;omega
theorem Ol.grow {B b:Nat} {a:Option Addr} {c:Nat} {t:List UInt8} {w:World} {D:Nat} {lv:Value} {L:List Tr} {vs:List Value} {j o:Nat} {wr:World} (h:Ol B b a c t w D lv L vs j o wr) (hlt:b<w.heap.size) {w':World} {j' o':Nat} (g:wr.grownBy w' (some b)) (p:PS B b a c t j' o' D w'):Ol B b a c t w D lv L vs j' o' w':=
 ⟨h.row.kept g (Or.inr fun e=>Pc h.row hlt e.symm),h.nq.keep (fun x C fr hx hc=>by
  rw[g.block x (zN hc) (fun e=>by have h1:w.heap.size≤x:=hx.1;have:=Option.some.inj e;omega)];exact hc),p,zi h.gb g⟩
theorem Ol.below {B b:Nat} {a:Option Addr} {c:Nat} {t:List UInt8} {w:World} {D:Nat} {lv:Value} {L:List Tr} {vs:List Value} {j o:Nat} {wr:World} (h:Ol B b a c t w D lv L vs j o wr) {w':World} (hb:Below wr.heap.size wr w'):Ol B b a c t w D lv L vs j o w':=
 ⟨z7 h.row hb,h.nq.keep (yu hb),Px.below h.ps hb,zi h.gb (zD hb)⟩
theorem Px.far {B b:Nat} {a:Option Addr} {c:Nat} {t:List UInt8} {z:Pz} {w w':World} {r:Option Nat} (h:Px B b a c t z w) (hg:w.grownBy w' r) (hr:∀k,r=some k→B≤k∧k≠b):Px B b a c t z w':=by
 have hlt:=h.lt;have hB:=h.hB;have bel:Below B w w':=⟨hg.os,hg.tape,hg.output,hg.size,fun k hk=>hg.block k (by omega) (fun e=>by have:=(hr k e.symm).1;omega)⟩;exact⟨by rw[hg.block b hlt (fun e=>(hr b e.symm).2 rfl)];exact h.blk,h.txt.below bel,h.hB,fun m hm=>hg.cell (h.tw m hm) (fun e=>by have:=(hr _ e.symm).1;have:=h.gw;dsimp only at*;omega),fun m hm=>hg.cell (h.tb m hm) (fun e=>by have:=(hr _ e.symm).1;have:=h.gb;dsimp only at*;omega),h.gw,h.gb,h.sm,h.sz⟩
theorem Ol.push {B b:Nat} {a:Option Addr} {c:Nat} {t:List UInt8} {w:World} {D:Nat} {lv:Value} {L:List Tr} {vs:List Value} {j o:Nat} {W:World} (h:Ol B b a c t w D lv L vs j o W) (hlt:b<w.heap.size) {w':World} {v' u:Value} {x:Tr} {S:Nat} (hS:w.heap.size≤S) (hl:∀k,lv.ownBlock=some k→k<S) (hu:Nq W (Nw S) u x)
  (row:w'.ownsRow w.heap.size 130 1 v' (L.length+1) (vs++[u])) (g:W.grownBy w' lv.ownBlock) (hat:v'.ownBlock=lv.ownBlock∨v'.ownBlock=some W.heap.size):Ol B b a c t w D v' (L++[x]) (vs++[u]) j o w':=by
 have hB:B≤b:=h.ps.hB;refine⟨by rw[qg];exact row,?_,Px.far h.ps g (fun k e=>?_),?_⟩
 ·have h1:Nqs W (fun g=>(Nw w.heap.size g∧some g≠lv.ownBlock)∧some g≠v'.ownBlock) (vs++[u]) (L++[x]):=by
   refine Nqs.snoc (h.nq.mono (fun g hg hh=>⟨hh,?_⟩)) (hu.mono (fun g hg hh=>⟨⟨qq hS hh,?_⟩,?_⟩))
   ·rcases hat with e|e
    ·rw[e];exact hh.2
    ·rw[e];intro e;have:=Option.some.inj e;omega
   ·intro e;have:=hl g e.symm;unfold Nw at hh;omega
   ·rcases hat with e|e
    ·rw[e];intro e;have:=hl g e.symm;unfold Nw at hh;omega
    ·rw[e];intro e;have:=Option.some.inj e;omega
  exact(h1.keep (fun g' C fr hh hc=>by rw[g.block g' (zN hc) hh.1.2];exact hc)).mono (fun g _ hh=>⟨hh.1.1,hh.2⟩)
 ·have:=(h.row.lt k e).1
  exact⟨by omega,by omega⟩
 ·exact World.grownBy.andThen h.gb g (fun k e=>Or.inl (h.row.lt k e).1)
theorem ogC (B b:Nat) (a:Option Addr) (c:Nat) (t:List UInt8) (f:Nat) (H:∀f',f'≤f→Cs B b a c t f') (m i o d:Nat) (w:World) (hm1:1≤m) (hm3:m≤3) (h:PS B b a c t i o d w) (ho:o≤2000) (hd:d≤64) (hn:og (tkT t) (f+1) m i o d≠.out):
  Calls Tryz.prog 166 #[.pointer (some ⟨b,0,none⟩),.int .i64 (m:Int)] w fun e w'=>Res (og (tkT t) (f+1) m i o d) (OP B b a c t w d) e w'∧w.grownBy w' (some b):=by
 have HC:=Hm H;have hlt:=Px.lt h;have y2:=Px.c2 h;dsimp only at y2;rw[og]at hn ⊢;have P0:=Hm h;obtain⟨i0,hi,hz0,hz1,hz2⟩:=info_parts Wn;clear H h;obtain⟨k,hk⟩:∃k,k=(tkT t i).k:=⟨_,rfl⟩;rw[←hk]at y2 hn ⊢;clear hk;by_cases hop:k=5
 ·rw[if_pos hop]at hn ⊢
  have k1:((k:Int)!=5)=false:=by simp;omega
  have HN:=Hm hn;clear hn hop;go_enter Tryz.func166,Tryz.ntmps166;go_wp2_with fail;refine(Yr B b a c t i o d w P0.out hd).mono ?_;rintro e w1 ⟨p,g⟩
  cases hr1:Yn (tkT t) i d with
  |out=>rw[hr1]at p;exact p.elim
  |bad cc aa=>
   have HR1:=Hm hr1;rw[hr1]at p;have p:e=.panicked (flV cc aa):=p;subst p;exact⟨rfl,(by simp only[HR1.out,zj,zx];exact rfl),zi (World.grownBy.refl _ _) g⟩
  |ok x1=>
   have HR1:=Hm hr1;rw[hr1]at p;obtain⟨rfl,p1⟩:=p;have P1:=Hm p1;have GG1:=Hm g;have G1:=Hm (zi (World.grownBy.refl _ _) g);clear p1 g hr1;have hd1:=VY HR1.out hd;go_wp2_with fail;refine(ZS B b a c t i o (d+1) _ P1.out).mono ?_;rintro e w2 ⟨p,g⟩
   cases hr2:adv (tkT t) i with
   |out=>rw[hr2]at p;exact p.elim
   |bad cc aa=>
    have HR2:=Hm hr2;rw[hr2]at p;have p:e=.panicked (flV cc aa):=p;subst p;exact⟨rfl,(by simp only[HR1.out,HR2.out,zj,zx];exact rfl),zi (G1.out) g⟩
   |ok x2=>
    have HR2:=Hm hr2;rw[hr2]at p;obtain⟨rfl,p2⟩:=p;have P2:=Hm p2;have GG2:=Hm g;have G2:=Hm (zi (G1.out) g);clear p2 g hr2;have hn3:ex (tkT t) f 1 x2 o (d+1)≠.out:=fun e=>HN.out (by simp only[HR1.out,HR2.out,zj,e];rfl)
    go_wp2_with fail;refine((HC.out f (qp _)).ex 1 x2 o (d+1) _ (qp _) (by omega) P2.out ho hd1 hn3).mono ?_;rintro e w3 ⟨p,g⟩
    cases hr3:ex (tkT t) f 1 x2 o (d+1)with
    |out=>rw[hr3]at p;exact p.elim
    |bad cc aa=>
     have HR3:=Hm hr3;rw[hr3]at p;have p:e=.panicked (flV cc aa):=p;subst p;exact⟨rfl,(by simp only[HR1.out,HR2.out,HR3.out,zj,zx];exact rfl),zi (G2.out) g⟩
    |ok x3=>
     have HR3:=Hm hr3;rw[hr3]at p;obtain⟨v,rfl,q,p3,hx⟩:=p;have P3:=Hm p3;have GG3:=Hm g;have G3:=Hm (zi (G2.out) g);obtain⟨TT,uu,rfl⟩:=q.form;have Q3:=Hm q;clear q;clear p3 g hr3;obtain⟨W3,hW3⟩:∃W,W=w3.alloc (.cells #[.iface TT uu] 130):=⟨_,rfl⟩;have A3:Hid (Below w3.heap.size w3 W3):=by rw[hW3];exact zd (Below.refl _ _) _
     have hs3:w.heap.size≤w3.heap.size:=G3.out.size;have OL3:Hid (Ol B b a c t w (d+1) (.slice (some ⟨w3.heap.size,0,none⟩) 1 1) [x3.1] [.iface TT uu] x3.2.1 x3.2.2 W3):=⟨by rw[hW3];exact RS w3 _ _ _ hs3,.cons _ _ _ _ ((Q3.out.mono (fun g hg hh=>⟨qq (qq (qp _) G2.out.size) hh,by simp[Value.ownBlock];omega⟩)).keep (yu A3.out)) .nil,Px.below P3.out A3.out,zi G3.out (zD A3.out)⟩;obtain⟨RL,hRL⟩:∃R,R=ol (tkT t) f (m-1) [x3.1] x3.2.1 x3.2.2 (d+1):=⟨_,rfl⟩;have HRL:=Hm hRL.symm;have hRn:Hid (RL≠.out):=fun e=>HN.out (by simp only[HR1.out,HR2.out,HR3.out,HRL.out,zj,e];rfl)
     clear hRL y2;go_wp2_with fail;rw[←hW3];clear hW3;go_loopg [5] f (fun gk lv wr=>∃(L:List Tr) (vs:List Value) (j o:Nat),gk≤f∧1≤L.length∧L.length≤m∧o≤2000∧Hid (Ol B b a c t w (d+1) lv L vs j o wr)∧Hid (ol (tkT t) gk (m-L.length) L j o (d+1)=RL))
     case atStart=>exact⟨[x3.1],[.iface TT uu],x3.2.1,x3.2.2,qp _,qp _,hm1,hx,OL3,HRL⟩
     case round=>
      obtain⟨L,vs,j,o',hgk,hL1,hLm,ho',hol,hlo⟩:=hrel;obtain⟨g,cap,rfl,hcap,hgB,hglt,hcl,hnk⟩:=Wc hol.out.row hL1;obtain⟨NL,hNL⟩:∃n,n=L.length:=⟨_,rfl⟩;rw[←hNL]at hol hcap hL1 hLm ⊢;have HNL:=Hm hNL;clear hNL;have HCL:=Hm hcl;have HNK:=Hm hnk;clear hcl hnk
      cases gk with
      |zero=>exact absurd (hlo.out.symm.trans (by rw[ol])) hRn.out
      |succ gk=>
       by_cases hlt2:NL<m
       ·have k1:(NL:Int)<(m:Int):=by omega
        have e1:Hid (ol (tkT t) (gk+1) (m-L.length) L j o' (d+1)=(exp (tkT t) 4 j).bnd fun j1=>(ex (tkT t) gk 1 j1 o' (d+1)).bnd fun x=>ol (tkT t) gk (m- (L.length+1)) (L++[x.1]) x.2.1 x.2.2 (d+1)):=by
         unfold Hid;rw[show m-L.length=(m- (L.length+1))+1 by have:=HNL.out;omega,ol]
        go_wp2_with fail;refine(ZE B b a c t j o' (d+1) _ hol.out.ps 4).mono ?_;rintro e w4 ⟨p,g⟩
        cases hr4:exp (tkT t) 4 j with
        |out=>rw[hr4]at p;exact p.elim
        |bad cc aa=>
         have HR4:=Hm hr4;rw[hr4]at p;have p:e=.panicked (flV cc aa):=p;subst p;exact⟨rfl,(by simp only[HR1.out,HR2.out,HR3.out,HRL.out,hlo.out.symm,e1.out,HR4.out,zj,zx];exact rfl),zi (hol.out.gb) g⟩
        |ok x4=>
         have HR4:=Hm hr4;rw[hr4]at p;obtain⟨rfl,p4⟩:=p;have P4:=Hm p4;have GG4:=Hm g;have G4:=Hm (zi (hol.out.gb) g);clear p4 g hr4;have OL4:=Hm (hol.out.grow hlt GG4.out P4.out);have hn5:ex (tkT t) gk 1 x4 o' (d+1)≠.out:=fun e=>hRn.out (by rw[←hlo.out,e1.out,HR4.out,zj,e];rfl)
         go_wp2_with fail;refine((HC.out gk (by omega)).ex 1 x4 o' (d+1) _ (qp _) (by omega) P4.out ho' hd1 hn5).mono ?_;rintro e w5 ⟨p,g⟩
         cases hr5:ex (tkT t) gk 1 x4 o' (d+1)with
         |out=>rw[hr5]at p;exact p.elim
         |bad cc aa=>
          have HR5:=Hm hr5;rw[hr5]at p;have p:e=.panicked (flV cc aa):=p;subst p;exact⟨rfl,(by simp only[HR1.out,HR2.out,HR3.out,HRL.out,hlo.out.symm,e1.out,HR4.out,HR5.out,zj,zx];exact rfl),zi (OL4.out.gb) g⟩
         |ok x5=>
          have HR5:=Hm hr5;rw[hr5]at p;obtain⟨v2,rfl,q,p5,hx5⟩:=p;have P5:=Hm p5;have GG5:=Hm g;have G5:=Hm (zi (OL4.out.gb) g);obtain⟨T2,u2,rfl⟩:=q.form;have Q5:=Hm q;clear q;clear p5 g hr5;have OL5:=Hm (OL4.out.grow hlt GG5.out P5.out);have A6:Hid (Below w5.heap.size w5 (w5.alloc (.cells #[.iface T2 u2] 130))):=zd (Below.refl _ _) _;have OL6:=Hm (OL5.out.below A6.out);have hL3:L.length≤3:=by have:=HNL.out;omega
          have hsz:w.heap.size≤w5.heap.size:=G5.out.size;have hgw4:g<w4.heap.size:=qr hglt GG4.out.size;go_wp2_with (at_builtin;go_must (refine wpList_append_own_at _ rfl _ _ 161 rfl w.heap.size 130 i0 .nilIface 1 16 Tryz.underlying161 hi hz0 hz1 hz2 rfl (by decide) _ _ _ rfl OL6.out.row ⟨w5.heap.size,0,none⟩ 1 1 [.iface T2 u2] rfl rfl (xP w5 (.iface T2 u2) 130) (by intro u hu;simp only[List.mem_singleton]at hu;rw[hu];rfl) (by unfold maxLen;omega) (by omega) (by simp;omega) ?_));intro v' w6 hown hgrow _ hat;have hol':=Hm (OL6.out.push hlt (S:=w4.heap.size) (qq (qs (qt hgB hglt)) GG4.out.size) (fun k e=>by simp[Value.ownBlock]at e;omega) (Q5.out.keep (yu A6.out)) hown hgrow (by simpa using hat))
          have hlo':Hid (ol (tkT t) gk (m- (L++[x5.1]).length) (L++[x5.1]) x5.2.1 x5.2.2 (d+1)=RL):=by unfold Hid;rw[←hlo.out,e1.out,HR4.out,zj,HR5.out,zj,qg];rfl
          clear hown hat hgrow OL6 OL5 OL4;refine Hid.out ?_;refine Lib.hid ?_;go_wp2_with fail
          go_roundg gk
          case measure=>omega
          case rel=>exact⟨L++[x5.1],_,x5.2.1,x5.2.2,by omega,by simp,by rw[qg,←HNL.out];simp;omega,hx5,hol',hlo'⟩
       ·have k1:decide ((NL:Int)<(m:Int))=false:=by simp;omega
        have hR:Hid (RL=.ok (L,j,o')):=by
         have h1:=hlo.out;rw[show m-L.length=0 by have:=HNL.out;omega,ol]at h1;exact h1.symm
        go_wp2_with fail;refine(ZE B b a c t j o' (d+1) _ hol.out.ps 6).mono ?_;rintro e w4 ⟨p,g⟩
        cases hr4:exp (tkT t) 6 j with
        |out=>rw[hr4]at p;exact p.elim
        |bad cc aa=>
         have HR4:=Hm hr4;rw[hr4]at p;have p:e=.panicked (flV cc aa):=p;subst p;exact⟨rfl,(by simp only[HR1.out,HR2.out,HR3.out,HRL.out,hR.out,HR4.out,zj,zx];exact rfl),zi (hol.out.gb) g⟩
        |ok x4=>
         have HR4:=Hm hr4;rw[hr4]at p;obtain⟨rfl,p4⟩:=p;have P4:=Hm p4;have GG4:=Hm g;have G4:=Hm (zi (hol.out.gb) g);clear p4 g hr4;have OL4:=Hm (hol.out.grow hlt GG4.out P4.out);have y7:=Px.c7 P4.out;have f7:=Px.fz P4.out 7;dsimp only at y7;have e9:IntKind.i64.wrap (((d+1:Nat):Int) -1)=(d:Int):=by rw[IntKind.wrap_i64];omega
         obtain⟨D,hD⟩:∃D,D=d+1:=⟨_,rfl⟩;rw[←hD]at y7 e9;clear hD;have hc4:=Hm (Wc OL4.out.row (by rw[←HNL.out];omega))
         have HQ:Hid (OP B b a c t w d (L,x4,o') (.returned (.slice (some ⟨g,0,none⟩) NL cap)) (w4.setCell ⟨b,7,none⟩ (.int .i64 (d:Int)))):=by
          obtain⟨g2,cap2,e2,-,-,hg2,hcl2,hnk2⟩:=hc4.out;injection e2 with e3 e4 e5;have e6:g=g2:=by injection e3 with e3;injection e3
          subst e6;have hne:g≠b:=by omega
          obtain⟨C2,fr2,hC2⟩:=hnk2;refine⟨g,cap,vs,by rw[HNL.out],(OL4.out.nq.mono (fun x _ hh=>hh.1)).keep (Zr (yJ _ _ _ _) hlt),hgB,⟨C2,fr2,zt hC2 hne _⟩,fun x v hv=>?_,by rw[←HNL.out];exact hcap,Px.set7 P4.out (d:=d) rfl,ho'⟩;rw[World.cell?_setCell_far _ _ _ _ (by simp;omega)];exact hcl2 x v hv
         clear hc4;go_wp2;go_ret;exact⟨(by simp only[HR1.out,HR2.out,HR3.out,HRL.out,hR.out,HR4.out,zj];exact HQ.out),zi G4.out (yJ _ _ _ _)⟩
 ·rw[if_neg hop]at hn ⊢
  have k1:(k:Int)≠5:=by omega
  clear hn hop;go_enter Tryz.func166,Tryz.ntmps166;go_wp2_with (go_at_call 47;go_must (refine(Zx B b a c t i o d _ P0.out 4).mono ?_;rintro e w1 ⟨rfl,hb⟩));exact⟨rfl,rfl,zD hb⟩
theorem Sm (T:Nat→Tk):∀(f m:Nat) (L:List Tr) (i o d:Nat) (x:List Tr×Nat×Nat),ol T f m L i o d=.ok x→x.1.length=L.length+m
 |0,m,L,i,o,d,x,h=>by rw[ol]at h;cases h
 |f+1,0,L,i,o,d,x,h=>by rw[ol]at h;injection h with h;rw[←h];rfl
 |f+1,m+1,L,i,o,d,x,h=>by
  rw[ol]at h
  cases h1:exp T 4 i with
  |out=>rw[h1]at h;cases h
  |bad c a=>rw[h1]at h;cases h
  |ok j=>
   rw[h1,zj]at h
   cases h2:ex T f 1 j o d with
   |out=>rw[h2]at h;cases h
   |bad c a=>rw[h2]at h;cases h
   |ok y=>
    rw[h2,zj]at h;have:=Sm T f m _ _ _ _ _ h;rw[this,qg];simp;omega
theorem WL {T:Nat→Tk} {f m i o d:Nat} {x:List Tr×Nat×Nat} (h:og T f m i o d=.ok x) (hm:1≤m):x.1.length=m:=by
 cases f with
 |zero=>rw[og]at h;cases h
 |succ f=>
  rw[og]at h
  split at h
  ·cases h1:Yn T i d with
   |out=>rw[h1]at h;cases h
   |bad c a=>rw[h1]at h;cases h
   |ok u=>
    rw[h1,zj]at h
    cases h2:adv T i with
    |out=>rw[h2]at h;cases h
    |bad c a=>rw[h2]at h;cases h
    |ok j=>
     rw[h2,zj]at h
     cases h3:ex T f 1 j o (d+1)with
     |out=>rw[h3]at h;cases h
     |bad c a=>rw[h3]at h;cases h
     |ok y=>
      rw[h3,zj]at h
      cases h4:ol T f (m-1) [y.1] y.2.1 y.2.2 (d+1)with
      |out=>rw[h4]at h;cases h
      |bad c a=>rw[h4]at h;cases h
      |ok z=>
       rw[h4,zj]at h
       cases h5:exp T 6 z.2.1 with
       |out=>rw[h5]at h;cases h
       |bad c a=>rw[h5]at h;cases h
       |ok k=>
        rw[h5,zj]at h;injection h with h;rw[←h];have:=Sm T f _ _ _ _ _ _ h4;simp at this ⊢;omega
  ·cases h
theorem R7 {w:World} {ok:Nat→Prop} {g cap v:Nat} {vs:List Value} {L:List Tr} (h:Nqs w ok vs L) (hg:ok g) (hk:Nk w g) (hc:∀j u,vs[j]? =some u→w.cell? ⟨g,j,none⟩=some u) (hl:L.length=2∨L.length=3):
  Nq w ok (.iface 174 (.agg #[.int .i64 10,.int .i64 (v:Int),.string ⟨#[]⟩,.slice (some ⟨g,0,none⟩) L.length cap])) (Zh v L):=by
 cases h with
 |nil=>simp at hl
 |cons v1 t1 vs ts h1 hs=>
  cases hs with
  |nil=>simp at hl
  |cons v2 t2 vs ts h2 hs=>
   cases hs with
   |nil=>exact .two ⟨10,v,[]⟩ g cap v1 v2 t1 t2 hg hk (hc 0 v1 rfl) (hc 1 v2 rfl) h1 h2
   |cons v3 t3 vs ts h3 hs=>
    cases hs with
    |nil=>exact .three ⟨10,v,[]⟩ g cap v1 v2 v3 t1 t2 t3 hg hk (hc 0 v1 rfl) (hc 1 v2 rfl) (hc 2 v3 rfl) h1 h2 h3
    |cons v4 t4 vs ts h4 hs=>simp at hl
theorem callC (B b:Nat) (a:Option Addr) (c:Nat) (t:List UInt8) (f:Nat) (H:Cs B b a c t f) (v M i o d:Nat) (w:World) (hv:v≤2) (hM1:cop (v:Int)=(M:Int)) (hM2:M=2∨M=3) (h:PS B b a c t i o d w) (ho:o≤2000) (hd:d≤64) (hn:((Zk (tkT t) i o).bnd fun y=>(og (tkT t) f M y.1 y.2 d).bnd fun x=>.ok (Zh v x.1,x.2.1,x.2.2))≠.out):
  Calls Tryz.prog 167 #[.pointer (some ⟨b,0,none⟩),.int .i64 (v:Int)] w fun e w'=>Res ((Zk (tkT t) i o).bnd fun y=>(og (tkT t) f M y.1 y.2 d).bnd fun x=>.ok (Zh v x.1,x.2.1,x.2.2)) (EP B b a c t w d) e w'∧w.grownBy w' (some b):=by
 have HC:=Hm H;have hlt:=Px.lt h;have P0:=Hm h;have HN:=Hm hn;clear H h hn;go_enter Tryz.func167,Tryz.ntmps167;go_wp2_with fail;refine(ZW B b a c t i o d w P0.out ho).mono ?_;rintro e w1 ⟨p,g⟩
 cases hr1:Zk (tkT t) i o with
 |out=>rw[hr1]at p;exact p.elim
 |bad cc aa=>
  have HR1:=Hm hr1;rw[hr1]at p;have p:e=.panicked (flV cc aa):=p;subst p;exact⟨rfl,(by simp only[HR1.out,zj,zx];exact rfl),zi (World.grownBy.refl _ _) g⟩
 |ok x1=>
  have HR1:=Hm hr1;rw[hr1]at p;obtain⟨rfl,p1⟩:=p;have P1:=Hm p1;have GG1:=Hm g;have G1:=Hm (zi (World.grownBy.refl _ _) g);clear p1 g hr1;have hx1:=YQ HR1.out ho;have hn2:og (tkT t) f M x1.1 x1.2 d≠.out:=fun e=>HN.out (by simp only[HR1.out,zj,e];rfl)
  go_wp2_with fail;refine(VD (v:Int) _).mono ?_;rintro e w' ⟨rfl,rfl⟩;rw[hM1];go_wp2_with fail;refine(HC.out.og M x1.1 x1.2 d _ (by omega) (by omega) P1.out hx1 hd hn2).mono ?_;rintro e w2 ⟨p,g⟩
  cases hr2:og (tkT t) f M x1.1 x1.2 d with
  |out=>rw[hr2]at p;exact p.elim
  |bad cc aa=>
   have HR2:=Hm hr2;rw[hr2]at p;have p:e=.panicked (flV cc aa):=p;subst p;exact⟨rfl,(by simp only[HR1.out,HR2.out,zj,zx];exact rfl),zi (G1.out) g⟩
  |ok x2=>
   have HR2:=Hm hr2;rw[hr2]at p;obtain⟨g3,cap,vs,rfl,q,hg3,hk3,hc3,hcap,p2,hx⟩:=p;have P2:=Hm p2;have GG2:=Hm g;have G2:=Hm (zi (G1.out) g);have hlen:=WL hr2 (by omega);have Q2:Hid (Nq w2 (Nw w.heap.size) (.iface 174 (.agg #[.int .i64 10,.int .i64 (v:Int),.string ⟨#[]⟩,.slice (some ⟨g3,0,none⟩) x2.1.length cap])) (Zh v x2.1)):=R7 (q.mono (fun g _ hh=>qq G1.out.size hh)) (qq G1.out.size hg3) hk3 hc3 (by omega);clear q hg3 hk3 hc3;clear p2 g hr2;have HQ:Hid (EP B b a c t w d (Zh v x2.1,x2.2.1,x2.2.2) _ w2):=⟨_,rfl,Q2.out,P2.out,hx⟩;obtain⟨LL,hLL⟩:∃n,n=x2.1.length:=⟨_,rfl⟩;rw[←hLL]at HQ hcap ⊢;clear hLL hlen Q2;go_wp2;go_ret;exact⟨(by simp only[HR1.out,HR2.out,zj];exact HQ.out),G2.out⟩
theorem prC (B b:Nat) (a:Option Addr) (c:Nat) (t:List UInt8) (f:Nat) (H:Cs B b a c t f) (i o d:Nat) (w:World) (h:PS B b a c t i o d w) (ho:o≤2000) (hd:d≤64) (hn:pr (tkT t) (f+1) i o d≠.out):
  Calls Tryz.prog 161 #[.pointer (some ⟨b,0,none⟩)] w fun e w'=>Res (pr (tkT t) (f+1) i o d) (EP B b a c t w d) e w'∧w.grownBy w' (some b):=by
 have HC:=Hm H;have hlt:=Px.lt h;have y2:=Px.c2 h;have y3:=Px.c3 h;have y4:=Px.c4 h;have y5:=Px.c5 h;dsimp only at y2 y3 y4 y5;have hk51:=X5 t i;rw[pr]at hn ⊢;have P00:=Hm h;have HWI:=Hm (fun w' (hw:PS B b a c t i o d w')=>Rf B b a c t i o d w' hw);have HWP:Hid (wopP (tkT t) i=match wop (tkT t i)with|none=>.bad 4 (tkT t i).at'|some p=>.ok p):=rfl;obtain⟨k,hk⟩:∃k,k=tkT t i:=⟨_,rfl⟩;rw[←hk]at y2 y3 y4 y5 hn hk51 HWP ⊢;have HK:=Hm hk;clear H h hk;obtain⟨W1,hW1⟩:∃W,W=w.alloc (.cells #[.int .i64 (k.k:Int),.int .i64 (k.at':Int),.string ⟨k.n.toArray⟩,.int .i64 k.v] 48):=⟨_,rfl⟩;have A1:Hid (Below w.heap.size w W1):=by rw[hW1];exact zd (Below.refl _ _) _
 have T1:Hid (W1.heap[w.heap.size]? =some (.cells #[.int .i64 (k.k:Int),.int .i64 (k.at':Int),.string ⟨k.n.toArray⟩,.int .i64 k.v] 48)):=by rw[hW1];exact zo _ _
 have P0:Hid (PS B b a c t i o d W1):=Px.below P00.out A1.out;have G0:Hid (w.grownBy W1 (some b)):=zD A1.out;have hs1:w.heap.size≤W1.heap.size:=A1.out.size;by_cases h5:k.k=5
 ·rw[if_pos h5]at hn ⊢
  have k1:((k.k:Int)==5)=true:=by simp;omega
  have HN:=Hm hn;clear hn h5;go_enter Tryz.func161,Tryz.ntmps161;go_wp2_with fail;rw[←hW1];clear hW1;have hn1:og (tkT t) f 1 i o d≠.out:=fun e=>HN.out (by simp only[e];rfl)
  refine(HC.out.og 1 i o d W1 (by omega) (by omega) P0.out ho hd hn1).mono ?_;rintro e w1 ⟨p,g⟩
  cases hr1:og (tkT t) f 1 i o d with
  |out=>rw[hr1]at p;exact p.elim
  |bad cc aa=>
   have HR1:=Hm hr1;rw[hr1]at p;have p:e=.panicked (flV cc aa):=p;subst p;exact⟨rfl,(by simp only[HR1.out,zj,zx];exact rfl),zi (G0.out) g⟩
  |ok x1=>
   have HR1:=Hm hr1;rw[hr1]at p;obtain⟨g3,cap,vs,rfl,q,hg3,hk3,hc3,hcap,p1,hx⟩:=p;have P1:=Hm p1;have GG1:=Hm g;have G1:=Hm (zi (G0.out) g);have hlen:=WL hr1 (by omega);clear p1 g hr1
   obtain⟨u,v,hu,hv,hq,hcu⟩:∃u v,x1.1=[u]∧vs=[v]∧Nq w1 (Nw W1.heap.size) v u∧w1.cell? ⟨g3,0,none⟩=some v:=by
    obtain⟨L,jj,oo⟩:=x1;dsimp only at hlen q ⊢
    cases q with
    |nil=>simp at hlen
    |cons v t vs ts hq hs=>
     cases hs with
     |nil=>exact⟨t,v,rfl,rfl,hq,hc3 0 v rfl⟩
     |cons _ _ _ _ _ _=>simp at hlen
   have HQ:Hid (EP B b a c t w d (x1.1.headD (.leaf ⟨0,0,[]⟩),x1.2.1,x1.2.2) (.returned v) w1):=⟨v,rfl,by rw[hu];exact hq.mono (fun g _ hh=>qq hs1 hh),P1.out,hx⟩;rw[hlen];clear q hg3 hk3 hc3 hu hv hq y2 y3 y4 y5 hlen hcap;go_wp2;go_ret;exact⟨(by simp only[HR1.out,zj];exact HQ.out),G1.out⟩
 rw[if_neg h5]at hn ⊢;have k1:((k.k:Int)==5)=false:=by simp;omega
 have CM:=Hm (YY k 25 27 W1);unfold tkV at CM;by_cases hc:25≤k.k∧k.k≤27
 ·rw[if_pos hc]at hn ⊢
  rw[show(decide (25≤k.k)&&decide (k.k≤27))=true by simp;omega]at CM;obtain⟨v,hv⟩:∃v:Nat,v=k.k-25:=⟨_,rfl⟩;have e9:IntKind.i64.wrap ((k.k:Int) -25)=(v:Int):=by rw[IntKind.wrap_i64];omega
  have hv2:v≤2:=by omega
  obtain⟨M,hM⟩:∃M,M=if k.k=27 then 3 else 2:=⟨_,rfl⟩
  have hM1:cop (v:Int)=(M:Int):=by
   unfold cop;rw[hM];by_cases e:k.k=27
   ·rw[if_pos e,if_pos (by omega)];rfl
   ·rw[if_neg e,if_neg (by omega)];rfl
  have hM2:M=2∨M=3:=by rw[hM];by_cases e:k.k=27<;>simp[e]
  rw[←hM]at hn ⊢;clear hM
  have hR:((cnt (tkT t) i o).bnd fun o1=>(adv (tkT t) i).bnd fun j=>(og (tkT t) f M j o1 d).bnd fun x=>(.ok (Zh (k.k-25) x.1,x.2.1,x.2.2):Rs (Tr×Nat×Nat)))=(Zk (tkT t) i o).bnd fun y=>(og (tkT t) f M y.1 y.2 d).bnd fun x=>.ok (Zh v x.1,x.2.1,x.2.2):=by
   rw[ZX (tkT t) i o (fun j o1=>(og (tkT t) f M j o1 d).bnd fun x=>.ok (Zh v x.1,x.2.1,x.2.2)),←hv]
  rw[hR]at hn ⊢;have HN:=Hm hn;clear hn h5 hc hv hR;go_enter Tryz.func161,Tryz.ntmps161;go_wp2_with fail;rw[←hW1];clear hW1;refine CM.out.mono ?_;rintro e w0 ⟨rfl,hb0⟩;have t0:=(zb (zg T1.out hb0) 0).trans rfl;have PP0:=Hm (Px.below P0.out hb0);have GG0:=Hm (zi G0.out (zD hb0));have hs0:w.heap.size≤w0.heap.size:=qq hs1 hb0.size;clear hb0 y2 y3 y4 y5;go_wp2_with fail;refine(callC B b a c t f HC.out v M i o d w0 hv2 hM1 hM2 PP0.out ho hd HN.out).mono ?_;rintro e w1 ⟨p,g⟩
  cases hr1:(Zk (tkT t) i o).bnd fun y=>(og (tkT t) f M y.1 y.2 d).bnd fun x=>(.ok (Zh v x.1,x.2.1,x.2.2):Rs (Tr×Nat×Nat))with
  |out=>rw[hr1]at p;exact p.elim
  |bad cc aa=>
   have HR1:=Hm hr1;rw[hr1]at p;have p:e=.panicked (flV cc aa):=p;subst p;exact⟨rfl,(by simp only[HR1.out,zj,zx];exact rfl),zi (GG0.out) g⟩
  |ok x1=>
   have HR1:=Hm hr1;rw[hr1]at p;obtain⟨v1,rfl,q,p1,hx⟩:=p;have P1:=Hm p1;have GG1:=Hm g;have G1:=Hm (zi (GG0.out) g);have HQ:Hid (EP B b a c t w d x1 (.returned v1) w1):=⟨v1,rfl,q.mono (fun g _ hh=>qq hs0 hh),p1,hx⟩;clear q hx;clear p1 g hr1;go_wp2;go_ret;exact⟨(by rw[HR1.out];exact HQ.out),G1.out⟩
 rw[if_neg hc]at hn ⊢;rw[show(decide (25≤k.k)&&decide (k.k≤27))=false by simp;omega]at CM;by_cases hh:k.k=48∨k.k=49
 ·rw[if_pos hh]at hn ⊢
  rcases hh with hh|hh
  ·have HN:=Hm hn
   have k4:((k.k:Int)==48)=true:=by simp;omega
   have hkk:Hid ((k.k:Int) -44=4):=by unfold Hid;omega
   clear hn h5 hc hh;go_enter Tryz.func161,Tryz.ntmps161;go_wp2_with fail;rw[←hW1];clear hW1;refine CM.out.mono ?_;rintro e w0 ⟨rfl,hb0⟩;have t0:=(zb (zg T1.out hb0) 0).trans rfl;have PP0:=Hm (Px.below P0.out hb0);have GG0:=Hm (zi G0.out (zD hb0));clear hb0 y2 y3 y4 y5;have EQ:Hid (∀F:Nat→Nat→Rs (Tr×Nat×Nat),((cnt (tkT t) i o).bnd fun o1=>(adv (tkT t) i).bnd fun j=>F j o1)=((Zk (tkT t) i o).bnd fun y=>F y.1 y.2)):=fun F=>(ZX (tkT t) i o F).symm
   go_wp2_with fail;refine(ZW B b a c t i o d w0 PP0.out ho).mono ?_;rintro e w1 ⟨p,g⟩
   cases hr1:Zk (tkT t) i o with
   |out=>rw[hr1]at p;exact p.elim
   |bad cc aa=>
    have HR1:=Hm hr1;rw[hr1]at p;have p:e=.panicked (flV cc aa):=p;subst p;exact⟨rfl,(by simp only[EQ.out,HR1.out,zj,zx];exact rfl),zi (GG0.out) g⟩
   |ok x1=>
    have HR1:=Hm hr1;rw[hr1]at p;obtain⟨rfl,p1⟩:=p;have P1:=Hm p1;have GG1:=Hm g;have G1:=Hm (zi (GG0.out) g);clear p1 g hr1;have hx1:=YQ HR1.out ho;go_wp2_with fail;refine(Rp B b a c t x1.1 x1.2 d _ P1.out).mono ?_;rintro e w2 ⟨p,g⟩
    cases hr2:Yw (tkT t) x1.1 with
    |out=>rw[hr2]at p;exact p.elim
    |bad cc aa=>
     have HR2:=Hm hr2;rw[hr2]at p;have p:e=.panicked (flV cc aa):=p;subst p;exact⟨rfl,(by simp only[EQ.out,HR1.out,HR2.out,zj,zx];exact rfl),zi (G1.out) g⟩
    |ok x2=>
     have HR2:=Hm hr2;rw[hr2]at p;obtain⟨rfl,p2⟩:=p;have P2:=Hm p2;have GG2:=Hm g;have G2:=Hm (zi (G1.out) g);clear p2 g hr2;have HQ:Hid (EP B b a c t w d (.leaf ⟨4,x2.1,[]⟩,x2.2,x1.2) (.returned (.iface 164 (.agg #[.int .i64 4,.int .i64 x2.1,.string ⟨#[]⟩]))) w2):=⟨_,rfl,.leaf ⟨4,x2.1,[]⟩,P2.out,hx1⟩;go_wp2;go_ret;exact⟨(by simp only[EQ.out,HR1.out,HR2.out,zj,hkk.out];exact HQ.out),G2.out⟩
  ·have HN:=Hm hn
   have k3:((k.k:Int)==48)=false:=by simp;omega
   have k4:((k.k:Int)==49)=true:=by simp;omega
   have hkk:Hid ((k.k:Int) -44=5):=by unfold Hid;omega
   clear hn h5 hc hh;go_enter Tryz.func161,Tryz.ntmps161;go_wp2_with fail;rw[←hW1];clear hW1;refine CM.out.mono ?_;rintro e w0 ⟨rfl,hb0⟩;have t0:=(zb (zg T1.out hb0) 0).trans rfl;have PP0:=Hm (Px.below P0.out hb0);have GG0:=Hm (zi G0.out (zD hb0));clear hb0 y2 y3 y4 y5;have EQ:Hid (∀F:Nat→Nat→Rs (Tr×Nat×Nat),((cnt (tkT t) i o).bnd fun o1=>(adv (tkT t) i).bnd fun j=>F j o1)=((Zk (tkT t) i o).bnd fun y=>F y.1 y.2)):=fun F=>(ZX (tkT t) i o F).symm
   go_wp2_with fail;refine(ZW B b a c t i o d w0 PP0.out ho).mono ?_;rintro e w1 ⟨p,g⟩
   cases hr1:Zk (tkT t) i o with
   |out=>rw[hr1]at p;exact p.elim
   |bad cc aa=>
    have HR1:=Hm hr1;rw[hr1]at p;have p:e=.panicked (flV cc aa):=p;subst p;exact⟨rfl,(by simp only[EQ.out,HR1.out,zj,zx];exact rfl),zi (GG0.out) g⟩
   |ok x1=>
    have HR1:=Hm hr1;rw[hr1]at p;obtain⟨rfl,p1⟩:=p;have P1:=Hm p1;have GG1:=Hm g;have G1:=Hm (zi (GG0.out) g);clear p1 g hr1;have hx1:=YQ HR1.out ho;go_wp2_with fail;refine(Rp B b a c t x1.1 x1.2 d _ P1.out).mono ?_;rintro e w2 ⟨p,g⟩
    cases hr2:Yw (tkT t) x1.1 with
    |out=>rw[hr2]at p;exact p.elim
    |bad cc aa=>
     have HR2:=Hm hr2;rw[hr2]at p;have p:e=.panicked (flV cc aa):=p;subst p;exact⟨rfl,(by simp only[EQ.out,HR1.out,HR2.out,zj,zx];exact rfl),zi (G1.out) g⟩
    |ok x2=>
     have HR2:=Hm hr2;rw[hr2]at p;obtain⟨rfl,p2⟩:=p;have P2:=Hm p2;have GG2:=Hm g;have G2:=Hm (zi (G1.out) g);clear p2 g hr2;have HQ:Hid (EP B b a c t w d (.leaf ⟨5,x2.1,[]⟩,x2.2,x1.2) (.returned (.iface 164 (.agg #[.int .i64 5,.int .i64 x2.1,.string ⟨#[]⟩]))) w2):=⟨_,rfl,.leaf ⟨5,x2.1,[]⟩,P2.out,hx1⟩;go_wp2;go_ret;exact⟨(by simp only[EQ.out,HR1.out,HR2.out,zj,hkk.out];exact HQ.out),G2.out⟩
 rw[if_neg hh]at hn ⊢;have k3:((k.k:Int)==48)=false:=by simp;omega
 have k4:((k.k:Int)==49)=false:=by simp;omega
 obtain⟨rw0,hrw0⟩:∃r,r=wop k:=⟨_,rfl⟩;rw[←hrw0]at hn HWP ⊢;clear hn h5 hc hh hrw0;go_enter Tryz.func161,Tryz.ntmps161;go_wp2_with fail;rw[←hW1];clear hW1;refine CM.out.mono ?_;rintro e w0 ⟨rfl,hb0⟩;have t0:=(zb (zg T1.out hb0) 0).trans rfl;have PP0:=Hm (Px.below P0.out hb0);have GG0:=Hm (zi G0.out (zD hb0));have hs0:w.heap.size≤w0.heap.size:=qq hs1 hb0.size;clear hb0 y2 y3 y4 y5;go_wp2_with fail;refine(HWI.out w0 PP0.out).mono ?_;rintro e w1 ⟨p,hb1⟩
 cases rw0 with
 |none=>
  have hp:e=.panicked (flV 4 k.at'):=by rw[HWP.out]at p;exact p
  subst hp;exact⟨rfl,rfl,zi GG0.out (zD hb1)⟩
 |some pp=>
  have hp:e=.returned (opV pp):=by rw[HWP.out]at p;exact p
  subst hp;clear p;obtain⟨W2,hW2⟩:∃W,W=w1.alloc (.cells #[.int .i64 pp.k,.int .i64 pp.v,.string ⟨pp.n.toArray⟩] 88):=⟨_,rfl⟩;have A2:Hid (Below w1.heap.size w1 W2):=by rw[hW2];exact zd (Below.refl _ _) _
  have O2:Hid (W2.heap[w1.heap.size]? =some (.cells #[.int .i64 pp.k,.int .i64 pp.v,.string ⟨pp.n.toArray⟩] 88)):=by rw[hW2];exact zo _ _
  have PP2:Hid (PS B b a c t i o d W2):=Px.below (Px.below PP0.out hb1) A2.out;have GG2:=Hm (zi (zi GG0.out (zD hb1)) (zD A2.out));have hlt1:b<w1.heap.size:=qr hlt (qq hs0 hb1.size);have EQ:Hid (∀F:Nat→Nat→Rs (Tr×Nat×Nat),((cnt (tkT t) i o).bnd fun o1=>(adv (tkT t) i).bnd fun j=>F j o1)=((Zk (tkT t) i o).bnd fun y=>F y.1 y.2)):=fun F=>(ZX (tkT t) i o F).symm
  clear hb1;unfold opV;go_wp2_with fail;rw[←hW2];clear hW2;refine(ZW B b a c t i o d W2 PP2.out ho).mono ?_;rintro e w3 ⟨p,g⟩
  cases hr1:Zk (tkT t) i o with
  |out=>rw[hr1]at p;exact p.elim
  |bad cc aa=>
   have HR1:=Hm hr1;rw[hr1]at p;have p:e=.panicked (flV cc aa):=p;subst p;exact⟨rfl,(by simp only[EQ.out,HR1.out,zj,zx];exact rfl),zi (GG2.out) g⟩
  |ok x1=>
   have HR1:=Hm hr1;rw[hr1]at p;obtain⟨rfl,p1⟩:=p;have P1:=Hm p1;have GG1:=Hm g;have G1:=Hm (zi (GG2.out) g);clear p1 g hr1;have hx1:=YQ HR1.out ho;have OB:=Hm (zl O2.out GG1.out (by omega));have o0:=(zb OB.out 0).trans rfl;have o1:=(zb OB.out 1).trans rfl;have o2:=(zb OB.out 2).trans rfl;have HQ:Hid (EP B b a c t w d (.leaf pp,x1.1,x1.2) (.returned (.iface 164 (.agg #[.int .i64 pp.k,.int .i64 pp.v,.string ⟨pp.n.toArray⟩]))) w3):=⟨_,rfl,.leaf pp,P1.out,hx1⟩;go_wp2;go_ret;exact⟨(by simp only[EQ.out,HR1.out,zj];exact HQ.out),G1.out⟩
end Go.Proofs.YtbkajklninmhiaaGreatDoor.Par
