import Derived.Test.YtbkajklninmhiaaGreatDoorPm44
set_option maxHeartbeats 3200000
set_option maxRecDepth 100000
set_option linter.unusedVariables false
set_option linter.unusedSimpArgs false
open List renaming length_append → qg, length_cons → qh, length_nil → qi, append_assoc → ql, getElem?_toArray → qm, getElem?_cons_zero → qn, getElem?_cons_succ → qo
open Nat renaming le_refl → qp, le_trans → qq, lt_of_lt_of_le → qr
namespace Go.Proofs.YtbkajklninmhiaaGreatDoor.Syn
open Go Go.RowKit Mem
attribute [local go_sem ↓] Go.wp_at_zero Go.wp_at_succ
theorem SF (i:It) (l:Lo) (w:World) (hE:zK w l.aE i.nE 3 (fun j=>(i.E j).cells)) (hF:zK w l.aF i.nF 3 (fun j=>(i.F j).cells)) (hnE:i.nE≤1000000) (hnF:i.nF≤1000000) (hT:XT w) (hS:VL w):
  Calls Tryz.prog 39 #[.agg #[.int .i64 i.k,.string ⟨i.n.toArray⟩,.slice l.aE i.nE l.cE,.slice l.aF i.nF l.cF,.int .i64 i.K,.int .i64 i.lo,.int .i64 i.hi]] w fun e w'=>e=.returned (.bool (itB i))∧Below w.heap.size w w':=by
 have HE:=Hm hE;have HF:=Hm hF;have HT:=Hm hT;have HS:=Hm hS;clear hE hF hT hS
 cases hp:inR i.k 1 9 with
 |false=>
  have hv:Hid (itB i=false):=by unfold Hid itB;rw[hp];rfl
  go_enter Tryz.func39,Tryz.ntmps39;go_wp2_with (go_at_call 75;refine(V0 _ _ _ _).mono ?_;rintro e w' ⟨rfl,hw⟩;rw[hw];clear hw);go_ret;rw[hv.out];exact⟨rfl,by go_grown⟩
 |true=>
  have hk:=(Xm i.k 1 9).1 hp;obtain⟨m,hm⟩:∃m:Nat,i.k=(m:Int):=⟨i.k.toNat,by omega⟩;have m0:m<10:=by omega
  have i0:(0:Int)≤(m:Int):=by omega
  have i1:(m:Int)<10:=by omega
  obtain⟨t0,t1,t2,t3,t4,t5⟩:=HS.out m m0;have g5:=lt_of_cell t0;obtain⟨b0,b1,b2,b3,b4,b5⟩:=sh_bd m m0
  have hv:Hid (itB i=(nmB i.n (sh m).n&&(exB i.E i.nE (sh m).e&&(exB i.F i.nF (sh m).f&&(zT i.K (sh m).k&&(zT i.lo (sh m).lo&&zT i.hi (sh m).hi)))))):=by
   unfold Hid itB;rw[hp,hm,Int.toNat_natCast,Bool.true_and]
  rw[hm]at hp;rw[hm];clear hm hk;obtain⟨W,hW⟩:∃W:World,W=(w.alloc (.cells #[.int .i64 (m:Int),.string ⟨i.n.toArray⟩,.slice l.aE i.nE l.cE,.slice l.aF i.nF l.cF,.int .i64 i.K,.int .i64 i.lo,.int .i64 i.hi] 38)).alloc (.cells #[.bool (sh m).n,.bool (sh m).e,.bool (sh m).f,.int .i64 (sh m).k,.int .i64 (sh m).lo,.int .i64 (sh m).hi] 124):=⟨_,rfl⟩;have hBW:Hid (Below w.heap.size w W):=by unfold Hid;rw[hW];go_grown
  have B0:Hid (W.heap[w.heap.size]? =some (.cells #[.int .i64 (m:Int),.string ⟨i.n.toArray⟩,.slice l.aE i.nE l.cE,.slice l.aF i.nF l.cF,.int .i64 i.K,.int .i64 i.lo,.int .i64 i.hi] 38)):=by unfold Hid;rw[hW];exact zv (zo w _) _
  have B1:Hid (W.heap[w.heap.size+1]? =some (.cells #[.bool (sh m).n,.bool (sh m).e,.bool (sh m).f,.int .i64 (sh m).k,.int .i64 (sh m).lo,.int .i64 (sh m).hi] 124)):=by unfold Hid;rw[hW];exact yb w _ _
  go_enter Tryz.func39,Tryz.ntmps39;go_wp2_with (go_at_call 75;refine(V0 _ _ _ _).mono ?_;rintro e w' ⟨rfl,hw⟩;rw[hw];clear hw);rw[←hW];clear hW t0 t1 t2 t3 t4 t5;refine(Ti i.n _ _ (HT.out.t.below hBW.out)).mono ?_;rintro e w1 ⟨rfl,hw⟩;rw[hw];clear hw;have z0:=zN B0.out
  cases o1:nmB i.n (sh m).n with
  |false=>
   go_wp2;go_ret;exact⟨zJ (by rw[hv.out];simp[o1]),hBW.out⟩
  |true=>
   have x2:=zb B0.out 2;have y1:=zb B1.out 1;simp only[qm,qn,qo]at x2 y1;go_wp2_with fail;clear x2 y1;refine(Xq i.E _ _ _ _ _ (HE.out.below hBW.out) hnE (HT.out.below hBW.out)).mono ?_;rintro e w2 ⟨rfl,hb2⟩;have hB2:=Hm (zn hBW.out hb2);have C0:=Hm (zg B0.out hb2);have C1:=Hm (zg B1.out hb2);clear hb2 hBW B0 B1
   cases o2:exB i.E i.nE (sh m).e with
   |false=>
    go_wp2;go_ret;exact⟨zJ (by rw[hv.out];simp[o2]),hB2.out⟩
   |true=>
    have x3:=zb C0.out 3;have y2:=zb C1.out 2;simp only[qm,qn,qo]at x3 y2;go_wp2_with fail;clear x3 y2;refine(Xq i.F _ _ _ _ _ (HF.out.below hB2.out) hnF (HT.out.below hB2.out)).mono ?_;rintro e w3 ⟨rfl,hb3⟩;have hB3:=Hm (zn hB2.out hb3);have D0:=Hm (zg C0.out hb3);have D1:=Hm (zg C1.out hb3);clear hb3 hB2 C0 C1
    cases o3:exB i.F i.nF (sh m).f with
    |false=>
     go_wp2;go_ret;exact⟨zJ (by rw[hv.out];simp[o3]),hB3.out⟩
    |true=>
     have x4:=zb D0.out 4;have x5:=zb D0.out 5;have x6:=zb D0.out 6;have y3:=zb D1.out 3;have y4:=zb D1.out 4;have y5:=zb D1.out 5;simp only[qm,qn,qo]at x4 x5 x6 y3 y4 y5
     cases o4:zT i.K (sh m).k with
     |false=>
      go_wp2_with (go_at_call 78;refine(V5 _ _ _ (by assumption) (by assumption)).mono ?_;rintro e w' ⟨rfl,hw⟩;rw[hw];clear hw);go_ret;exact⟨zJ (by rw[hv.out];simp[o4]),hB3.out⟩
     |true=>
      cases o5:zT i.lo (sh m).lo with
      |false=>
       go_wp2_with (go_at_call 78;refine(V5 _ _ _ (by assumption) (by assumption)).mono ?_;rintro e w' ⟨rfl,hw⟩;rw[hw];clear hw);go_ret;exact⟨zJ (by rw[hv.out];simp[o5]),hB3.out⟩
      |true=>
       go_wp2_with (go_at_call 78;refine(V5 _ _ _ (by assumption) (by assumption)).mono ?_;rintro e w' ⟨rfl,hw⟩;rw[hw];clear hw);go_ret;exact⟨zJ (by rw[hv.out];simp[o1,o2,o3,o4,o5]),hB3.out⟩
def cnt (P:Pr):Nat→Nat
 |0=>0
 |k+1=>cnt P k+((P.I k).nE+(P.I k).nF)
theorem cnt_mono (P:Pr) {k n:Nat} (h:k≤n):cnt P k≤cnt P n:=by
 induction n with
 |zero=>obtain rfl:k=0:=by omega
        exact qp _
 |succ n ih=>
  by_cases e:k=n+1
  ·rw[e];exact qp _
  ·exact qq (ih (by omega)) (by simp only[cnt];omega)
theorem XL (P:Pr) {k n:Nat} (h:k<n):(P.I k).nE+(P.I k).nF≤cnt P n:=by
 have:=cnt_mono P (show k+1≤n from h);simp only[cnt]at this;omega
def prB (P:Pr):Bool:=decide (P.n≤100)&&(decide (cnt P P.n≤2000)&&YZ P.n (fun i=>itB (P.I i)))
theorem Sl (P:Pr) (a:Option Addr) (c:Nat) (L:Nat→Lo) (w:World) (h:Yu w a P L) (hn:P.n≤1048576) (hc:cnt P P.n≤1048576):
  Calls Tryz.prog 38 #[.agg #[.slice a P.n c]] w fun e w'=>e=.returned (.int .i64 (cnt P P.n:Int))∧Below w.heap.size w w':=by
 have H:=Hm h.s;have HC:Hid (∀k,k<P.n→cnt P k+((P.I k).nE+(P.I k).nF)≤1048576):=fun k hk=>qq (cnt_mono P (show k+1≤P.n from hk)) hc
 clear h hc;obtain⟨N,hN⟩:∃N,N=P.n:=⟨_,rfl⟩;rw[←hN]at H HC hn;rw[←hN];clear hN;go_enter Tryz.func38,Tryz.ntmps38;go_wp2;go_loopw [3,9] (fun m i wr=>∃k:Nat,k≤N∧i=.int .i64 (k:Int)∧m=.int .i64 (cnt P k:Int)∧Hid (Below w.heap.size w wr)) (fun _ i _=>N- (intOf i).toNat)
 case atStart=>exact⟨0,Nat.zero_le _,rfl,rfl,by unfold Hid;go_grown⟩
 case round=>
  obtain⟨k,hk,rfl,rfl,hb⟩:=hrel;by_cases hlt:k<N
  ·rcases H.out with h0|⟨b,off,rfl,h0⟩
   ·omega
   obtain⟨e0,e1,e2,e3,e4,e5,e6⟩:=It.at (z8 (h0 k hlt) hb.out);clear h0;have k0:(0:Int)≤(k:Int):=by omega
   have k1:(k:Int)<(N:Int):=by omega
   have hcb:=HC.out k hlt;have hx:Hid (cnt P (k+1)=cnt P k+((P.I k).nE+(P.I k).nF)):=rfl;obtain⟨x,hx1⟩:∃x,x=(P.I k).nE:=⟨_,rfl⟩;obtain⟨y,hy1⟩:∃y,y=(P.I k).nF:=⟨_,rfl⟩;obtain⟨s,hs1⟩:∃s,s=cnt P k:=⟨_,rfl⟩;rw[←hx1]at e2 hcb hx;rw[←hy1]at e3 hcb hx;rw[←hs1]at hcb hx ⊢;clear hx1 hy1 hs1;go_wp2;exact⟨⟨k+1,by omega,by go_num,by rw[hx.out];congr 1,by unfold Hid;exact zd hb.out _⟩,by simp[intOf];omega⟩
  ·obtain rfl:k=N:=by omega
   have k1:decide ((k:Int)<(k:Int))=false:=by simp
   go_wp2;go_ret;exact⟨rfl,hb.out⟩
theorem Wd {P:Pr} {k:Nat} (hk:k<P.n) (h:itB (P.I k)=false):prB P=false:=by
 simp[prB,XR (f:=fun i=>itB (P.I i)) hk h]
theorem Ri (P:Pr) (a:Option Addr) (c:Nat) (L:Nat→Lo) (w:World) (h:Yu w a P L) (hn:P.n≤1048576) (hc:cnt P P.n≤1048576) (hT:XT w) (hS:VL w):
  Calls Tryz.prog 15 #[.agg #[.slice a P.n c]] w fun e w'=>e=.returned (.bool (prB P))∧Below w.heap.size w w':=by
 have H:=Hm h;have HT:=Hm hT;have HS:=Hm hS;clear h hT hS;have hB0:=Hm (zd (Below.refl w.heap.size w) (.cells #[.slice a P.n c] 25));by_cases h1:(100:Int)<(P.n:Int)
 ·have hv:Hid (prB P=false):=by unfold Hid prB;rw[show decide (P.n≤100)=false by simp;omega];rfl
  go_enter Tryz.func15,Tryz.ntmps15;go_wp2_with fail;go_ret;rw[hv.out];exact⟨rfl,hB0.out⟩
 have d1:decide ((100:Int)<(P.n:Int))=false:=by simpa using h1
 have cOK:=Hm fun w' (hb:Below w.heap.size w w')=>Sl P a c L w' (H.out.below hb) hn hc
 obtain⟨q,hq⟩:∃q,q=cnt P P.n:=⟨_,rfl⟩;have HQ:=Hm hq;rw[←hq]at hc;clear hq;by_cases h2:(2000:Int)<(q:Int)
 ·have hv:Hid (prB P=false):=by unfold Hid prB;rw[←HQ.out,show decide (q≤2000)=false by simp;omega];simp
  go_enter Tryz.func15,Tryz.ntmps15;go_wp2_with fail;refine(cOK.out _ hB0.out).mono ?_;rintro e w1 ⟨rfl,hb⟩;rw[←HQ.out];have hB1:=Hm (zn hB0.out hb);clear hb;go_wp2;go_ret;rw[hv.out];exact⟨rfl,hB1.out⟩
 have d2:decide ((2000:Int)<(q:Int))=false:=by simpa using h2
 have hq2:q≤2000:=by omega
 go_enter Tryz.func15,Tryz.ntmps15;go_wp2_with fail;refine(cOK.out _ hB0.out).mono ?_;rintro e w1 ⟨rfl,hb⟩;rw[←HQ.out];have hB1:=Hm (zn hB0.out hb);have A1:=Hm (zg (zo w _) hb);clear hb hB0 cOK;have x0:=zb A1.out 0;simp only[qm,qn]at x0;obtain⟨N,hN⟩:∃N,N=P.n:=⟨_,rfl⟩;rw[←hN]at x0 h1 d1;have HN:=Hm hN;rw[←hN];clear hN;go_wp2;clear x0;go_loopw [17] (fun i wr=>∃k:Nat,k≤N∧i=.int .i64 (k:Int)∧Hid (Below w.heap.size w wr)∧Hid (YZ k (fun i=>itB (P.I i))=true)) (fun i _=>N- (intOf i).toNat)
 case atStart=>exact⟨0,Nat.zero_le _,rfl,hB1,rfl⟩
 case round=>
  obtain⟨k,hk,rfl,hb,ha⟩:=hrel;by_cases hlt:k<N
  ·have hkP:k<P.n:=by rw[←HN.out];exact hlt
   have hE:=Hm ((H.out.e k hkP).below hb.out);have hF:=Hm ((H.out.f k hkP).below hb.out);have hcn:(P.I k).nE+(P.I k).nF≤q:=by rw[HQ.out];exact XL P hkP
   have hnE:(P.I k).nE≤1000000:=by omega
   have hnF:(P.I k).nF≤1000000:=by omega
   have hbad:Hid (itB (P.I k)=false→prB P=false):=Wd hkP;have hgood:Hid (itB (P.I k)=true→YZ (k+1) (fun i=>itB (P.I i))=true):=fun h=>Wx ha.out h
   rcases H.out.s with h0|⟨b,off,rfl,h0⟩
   ·omega
   obtain⟨e0,e1,e2,e3,e4,e5,e6⟩:=It.at (z8 (h0 k hkP) hb.out);clear h0;have k0:(0:Int)≤(k:Int):=by omega
   have k1:(k:Int)<(N:Int):=by omega
   generalize P.I k=it at e0 e1 e2 e3 e4 e5 e6 hE hF hcn hnE hnF hbad hgood;generalize L k=lo at e2 e3 hE hF;have hbA:=Hm (zd hb.out (.cells #[.int .i64 it.k,.string ⟨it.n.toArray⟩,.slice lo.aE it.nE lo.cE,.slice lo.aF it.nF lo.cF,.int .i64 it.K,.int .i64 it.lo,.int .i64 it.hi] 38));have hbI:=Hm ((Below.refl wr.heap.size wr).alloc (qp _) (.cells #[.int .i64 it.k,.string ⟨it.n.toArray⟩,.slice lo.aE it.nE lo.cE,.slice lo.aF it.nF lo.cF,.int .i64 it.K,.int .i64 it.lo,.int .i64 it.hi] 38));go_wp2_with fail;clear e0 e1 e2 e3 e4 e5 e6;refine(SF it lo _ (hE.out.below hbI.out) (hF.out.below hbI.out) hnE hnF (HT.out.below hbA.out) (HS.out.below hbA.out)).mono ?_;rintro e w2 ⟨rfl,hb2⟩;have hb3:=Hm (zn hbA.out hb2);clear hb2 hbA hbI hb
   cases hg:itB it with
   |false=>
    have hv:=Hm (hbad.out hg);go_wp2;go_ret;rw[hv.out];exact⟨rfl,hb3.out⟩
   |true=>
    have hv:=Hm (hgood.out hg);go_wp2;exact⟨⟨k+1,by omega,by go_num,hb3,hv⟩,by simp[intOf];omega⟩
  ·obtain rfl:k=N:=by omega
   have k1:decide ((k:Int)<(k:Int))=false:=by simp
   have hv:Hid (prB P=true):=by
    have e1:=HN.out;have e2:=HQ.out;have e3:=ha.out;rw[e1]at e3;unfold Hid prB;rw[e3,←e2,←e1];simp only[Bool.and_true,Bool.and_eq_true,decide_eq_true_eq];exact⟨by omega,hq2⟩
   go_wp2;go_ret;rw[hv.out];exact⟨rfl,hb.out⟩
end Go.Proofs.YtbkajklninmhiaaGreatDoor.Syn
namespace Go.Proofs.YtbkajklninmhiaaGreatDoor.Print
open Go Go.RowKit Mem
def Rb (w:World) (g o n:Nat) (bs:List UInt8):Prop:=n=bs.length∧g<w.heap.size∧∀j u,(Lib.byteCells bs)[j]? =some u→w.cell? ((⟨g,o,none⟩:Addr).add j)=some u
theorem Rb.below {w w':World} {g o n:Nat} {bs:List UInt8} (h:Rb w g o n bs) (hb:Below w.heap.size w w'):Rb w' g o n bs:=
 ⟨h.1,qr h.2.1 hb.size,fun j u hu=>by rw[hb.cell (by rw[Addr.add_mid];exact h.2.1)];exact h.2.2 j u hu⟩
theorem Rb.alloc {w:World} {g o n:Nat} {bs:List UInt8} (h:Rb w g o n bs) (x:Obj):Rb (w.alloc x) g o n bs:=h.below ((Below.refl _ _).alloc (qp _) x)
theorem Rb.new (w:World) (bs:List UInt8) (cs:Array Value) (t:TypeId) (fr:Nat×Nat) (hc:cs=(Lib.byteCells bs).toArray):Rb (w.alloc (.cells cs t fr)) w.heap.size 0 bs.length bs:=by
 subst hc;refine⟨rfl,by simp,fun j u hu=>?_⟩;rw[Addr.add_mid,Nat.zero_add,zb (zo _ _) j];simpa using hu
theorem Own.rb {B:Nat} {w:World} {v:Value} {bs:List UInt8} (h:Own B w v bs) (hp:0<bs.length):∃g o n c,v=.slice (some ⟨g,o,none⟩) n c∧B≤g∧Rb w g o n bs:=by
 obtain⟨g,cap,hv,hg,hc⟩:=Own.form h hp;refine⟨g,0,bs.length,cap,hv,hg,rfl,?_,hc⟩
 cases bs with
 |nil=>simp at hp
 |cons b r=>
  have:=hc 0 _ rfl;rw[Addr.add_mid]at this;exact World.block_lt_of_cell? w _ this
theorem Own.shape {B:Nat} {w:World} {v:Value} {bs:List UInt8} (h:Own B w v bs):∃a c,v=.slice a bs.length c:=by
 rcases Joins.ownsRow_forms h with⟨rfl,h0⟩|⟨g,cap,rfl⟩
 ·exact⟨none,0,by rw[h0]⟩
 ·exact⟨_,_,rfl⟩
theorem own_empty (w:World) (cs:Array Value) (h:cs=#[]):Own w.heap.size (w.alloc (.cells cs 5)) (.slice (some ⟨w.heap.size,0,none⟩) 0 0) []:=by
 have:=RT w [] cs (by rw[h];rfl) (by simp);exact this
end Go.Proofs.YtbkajklninmhiaaGreatDoor.Print
namespace Go.Proofs.YtbkajklninmhiaaGreatDoor.Syn
open Go Go.RowKit Go.Proofs.YtbkajklninmhiaaGreatDoor Mem
open Go.Proofs.YtbkajklninmhiaaGreatDoor.Print (Own Zt byteCells_one)
attribute [local go_sem ↓] Go.wp_at_zero Go.wp_at_succ
theorem WE {i:It} (a:-999999999≤i.lo) (b:i.lo≤999999999) (c:-999999999≤i.hi) (d:i.hi≤999999999):(y8 i).length≤60:=by
 have:=xg a b;have:=xg c d;simp only[y8,qg,qh,qi];omega
theorem nm_len {n:List UInt8} (h:nmB n true=true):n.length≤16:=YD (by simpa[nmB]using h)
theorem Zs {i:It} (h:itB i=true):inR i.k 1 9=true∧nmB i.n (sh i.k.toNat).n=true∧exB i.E i.nE (sh i.k.toNat).e=true∧exB i.F i.nF (sh i.k.toNat).f=true∧zT i.K (sh i.k.toNat).k=true∧zT i.lo (sh i.k.toNat).lo=true∧zT i.hi (sh i.k.toNat).hi=true:=by
 unfold itB at h;simp only[Bool.and_eq_true]at h;exact h
theorem Zg {E:Nat→Po} {n:Nat} (h:exB E n true=true):∃t,stk E n=some [t]:=V6 (by simpa[exB]using h)
theorem QE {x:Int} (h:zT x 1=true):0≤x∧x≤15:=by simpa[zT,inR]using h
theorem QD {x:Int} (h:zT x 2=true):0≤x∧x≤999999999:=by simpa[zT,inR]using h
theorem XW {x:Int} (h:zT x 3=true):-999999999≤x∧x≤999999999:=by simpa[zT,inR]using h
theorem Vz (i:It) (l:Lo) (hv:itB i=true) (hnE:i.nE≤2000) (hnF:i.nF≤2000):
  (itT i).length≤200000∧∀(B:Nat) (bs:List UInt8) (x:Value) (w:World),Ye B w i l→Own B w x bs→B≤w.heap.size→Ps B w→bs.length≤300000000→
  Calls Tryz.prog 16 #[x,.agg #[.int .i64 i.k,.string ⟨i.n.toArray⟩,.slice l.aE i.nE l.cE,.slice l.aF i.nF l.cF,.int .i64 i.K,.int .i64 i.lo,.int .i64 i.hi]] w (App B x w (bs++itT i)):=by
 obtain⟨h0,h1,h2,h3,h4,h5,h6⟩:=Zs hv
 have hk:i.k=1∨i.k=2∨i.k=3∨i.k=4∨i.k=5∨i.k=6∨i.k=7∨i.k=8∨i.k=9:=by
  simp[inR]at h0;omega
 have htl:=tw_len (15+i.k.toNat);rcases hk with e|e|e|e|e|e|e|e|e<;>rw[e]at h1 h2 h3 h4 h5 h6 htl<;>rw[e]<;>clear h0 hv
 ·obtain⟨tE,hE⟩:=Zg h2
  have hn:=nm_len h1;have et:itT i=zG 16++[32]++(i.n++[32,61,32]++tE.txt):=by simp[itT,e,xm hE]
  have:=yt hE;rw[et];refine⟨by simp only[qg,qh,qi];have:=tw_len 16;omega,fun B bs x w a b c d f=>?_⟩;have key:=SP i l B bs x w tE hE hn hnE hnF a b c d f;rwa[ql,ql,←ql (zG 16)]at key
 ·obtain⟨tE,hE⟩:=Zg h2
  have et:itT i=zG 17++[32]++(tE.txt):=by simp[itT,e,xm hE]
  have:=yt hE;rw[et];refine⟨by simp only[qg,qh,qi];have:=tw_len 17;omega,fun B bs x w a b c d f=>?_⟩;have key:=SO i l B bs x w tE hE hnE hnF a b c d f;rwa[ql,ql,←ql (zG 17)]at key
 ·obtain⟨tE,hE⟩:=Zg h2
  have et:itT i=zG 18++[32]++(tE.txt):=by simp[itT,e,xm hE]
  have:=yt hE;rw[et];refine⟨by simp only[qg,qh,qi];have:=tw_len 18;omega,fun B bs x w a b c d f=>?_⟩;have key:=SM i l B bs x w tE hE hnE hnF a b c d f;rwa[ql,ql,←ql (zG 18)]at key
 ·obtain⟨tE,hE⟩:=Zg h2
  obtain⟨k0,k1⟩:=XW h4;obtain⟨l0,l1⟩:=XW h5;obtain⟨u0,u1⟩:=XW h6;have et:itT i=zG 19++[32]++(tE.txt++[32,102,114,111,109]++[32]++Lib.itoa i.K++y8 i):=by simp[itT,e,xm hE]
  have:=yt hE;have:=xg k0 k1;have:=WE l0 l1 u0 u1;rw[et];refine⟨by simp only[qg,qh,qi];have:=tw_len 19;omega,fun B bs x w a b c d f=>?_⟩;have key:=SL i l B bs x w tE hE k0 k1 l0 l1 u0 u1 hnE hnF a b c d f;rwa[ql,ql,←ql (zG 19)]at key
 ·obtain⟨tE,hE⟩:=Zg h2
  obtain⟨tF,hF⟩:=Zg h3;have et:itT i=zG 20++[32]++(tE.txt++[32,116,104,101,110,32]++tF.txt):=by simp[itT,e,xm hE,xm hF]
  have:=yt hE;have:=yt hF;rw[et];refine⟨by simp only[qg,qh,qi];have:=tw_len 20;omega,fun B bs x w a b c d f=>?_⟩;have key:=SK i l B bs x w tE hE tF hF hnE hnF a b c d f;rwa[ql,ql,←ql (zG 20)]at key
 ·obtain⟨k0,k1⟩:=QE h4
  obtain⟨l0,l1⟩:=QE h5;have et:itT i=zG 21++[32]++([yW i.K,32,yW i.lo]):=by simp[itT,e]
  rw[et];refine⟨by simp only[qg,qh,qi];have:=tw_len 21;omega,fun B bs x w a b c d f=>?_⟩;have key:=SJ i l B bs x w k0 k1 l0 l1 hnE hnF a b c d f;rwa[ql,ql,←ql (zG 21)]at key
 ·obtain⟨k0,k1⟩:=QD h4
  have et:itT i=zG 22++[32]++(Lib.itoa i.K):=by simp[itT,e]
  have:=xg (show -999999999≤i.K by omega) k1;rw[et];refine⟨by simp only[qg,qh,qi];have:=tw_len 22;omega,fun B bs x w a b c d f=>?_⟩;have key:=SI i l B bs x w k0 k1 hnE hnF a b c d f;rwa[ql,ql,←ql (zG 22)]at key
 ·obtain⟨tE,hE⟩:=Zg h2
  obtain⟨l0,l1⟩:=XW h5;obtain⟨u0,u1⟩:=XW h6;have et:itT i=zG 23++[32]++(tE.txt++y8 i):=by simp[itT,e,xm hE]
  have:=yt hE;have:=WE l0 l1 u0 u1;rw[et];refine⟨by simp only[qg,qh,qi];have:=tw_len 23;omega,fun B bs x w a b c d f=>?_⟩;have key:=SH i l B bs x w tE hE l0 l1 u0 u1 hnE hnF a b c d f;rwa[ql,ql,←ql (zG 23)]at key
 ·obtain⟨tE,hE⟩:=Zg h2
  obtain⟨k0,k1⟩:=QD h4;have et:itT i=zG 24++[32]++(tE.txt++[32,109,111,115,116]++[32]++Lib.itoa i.K):=by simp[itT,e,xm hE]
  have:=yt hE;have:=xg (show -999999999≤i.K by omega) k1;rw[et];refine⟨by simp only[qg,qh,qi];have:=tw_len 24;omega,fun B bs x w a b c d f=>?_⟩;have key:=SG i l B bs x w tE hE k0 k1 hnE hnF a b c d f;rwa[ql,ql,←ql (zG 24)]at key
def xw (P:Pr):Nat→List UInt8
 |0=>[]
 |k+1=>xw P k++itT (P.I k)++[59,10]
theorem VX (w:World) (o:Obj):Own (w.heap.size+1) ((w.alloc o).alloc (.cells #[] 5)) (.slice (some ⟨w.heap.size+1,0,none⟩) 0 0) []:=by
 have:=Print.own_empty (w.alloc o) _ rfl;rw[World.size_alloc]at this;exact this
theorem prog_len {P:Pr} {k:Nat} (h:∀j,j<k→(itT (P.I j)).length≤200000):(xw P k).length≤200002*k:=by
 induction k with
 |zero=>simp[xw]
 |succ k ih=>
  have h1:=ih fun j hj=>h j (by omega)
  have h2:=h k (by omega);simp only[xw,qg,qh,qi];omega
theorem U0 {n:Nat} {f:Nat→Bool} (h:YZ n f=true) {k:Nat} (hk:k<n):f k=true:=by
 cases hf:f k with
 |true=>rfl
 |false=>rw[XR hk hf]at h;cases h
def Ym (P:Pr):List UInt8:=if prB P=true then xw P P.n else []
theorem RM (P:Pr) (a:Option Addr) (c:Nat) (L:Nat→Lo) (w:World) (h:Yu w a P L) (hn:P.n≤1048576) (hc:cnt P P.n≤1048576) (hT:XT w) (hS:VL w) (hp:Lib.TabIs Tryz.prog w "internal/strconv.uint64pow10" .u64 Lib.pow10Tab):
  Calls Tryz.prog 7 #[.agg #[.slice a P.n c]] w fun e w'=>∃v',e=.returned v'∧Own w.heap.size w' v' (Ym P)∧Below w.heap.size w w':=by
 have H:=Hm h;have HT:=Hm hT;have HP:Hid (Ps w.heap.size w):=⟨fun w' hb=>hT.below hb,Lib.tabBelow_of_tabIs hp⟩;have vOK:=Hm fun w' (hb:Below w.heap.size w w')=>Ri P a c L w' (h.below hb) hn hc (hT.below hb) (hS.below hb)
 clear h hT hS hp;have hB0:=Hm (zd ((Below.refl w.heap.size w).alloc (qp _) (.cells #[.slice a P.n c] 25)) (.cells #[] 5));have ho0:Hid (Own w.heap.size ((w.alloc (.cells #[.slice a P.n c] 25)).alloc (.cells #[] 5)) (.slice (some ⟨w.heap.size+1,0,none⟩) 0 0) []):=Joins.ownsRow_le (VX w _) (Nat.le_succ _);go_enter Tryz.func7,Tryz.ntmps7;go_wp2_with fail;refine(vOK.out _ hB0.out).mono ?_;rintro e w1 ⟨rfl,hb⟩;have HB:=Hm (zn hB0.out hb);have HO:=Hm (zw ho0.out hb);have A1:=Hm (zg (zv (zo w _) _) hb);clear hb hB0 ho0 vOK
 cases hg:prB P with
 |false=>
  have hv:Hid (Ym P=[]):=by unfold Hid Ym;rw[hg];rfl
  go_wp2;go_ret;exact⟨_,rfl,by rw[hv.out];exact HO.out,HB.out⟩
 |true=>
  have hv:Hid (Ym P=xw P P.n):=by unfold Hid Ym;rw[hg];rfl
  have hg':=hg;simp only[prB,Bool.and_eq_true,decide_eq_true_eq]at hg';obtain⟨g1,g2,g3⟩:=hg';have hI:Hid (∀k,k<P.n→itB (P.I k)=true∧(P.I k).nE≤2000∧(P.I k).nF≤2000):=fun k hk=>⟨U0 g3 hk,by have:=XL P hk;omega,by have:=XL P hk;omega⟩
  have x0:=zb A1.out 0;simp only[qm,qn]at x0;obtain⟨N,hN⟩:∃N,N=P.n:=⟨_,rfl⟩;rw[←hN]at x0 g1;have HN:=Hm hN;rw[←hN];clear hN g2 g3 hn hc A1;go_wp2;clear x0;go_loopw [3,14] (fun b i wr=>∃k:Nat,k≤N∧i=.int .i64 (k:Int)∧Hid (Own w.heap.size wr b (xw P k))∧Hid (Below w.heap.size w wr)) (fun _ i _=>N- (intOf i).toNat)
  case atStart=>exact⟨0,Nat.zero_le _,rfl,HO,HB⟩
  case round=>
   obtain⟨k,hk,rfl,ho,hb⟩:=hrel;clear HO HB;by_cases hlt:k<N
   ·have hkP:k<P.n:=by rw[←HN.out];exact hlt
    have hpl:=prog_len (P:=P) (k:=k) fun j hj=>(Vz (P.I j) (L j) (hI.out j (by omega)).1 (hI.out j (by omega)).2.1 (hI.out j (by omega)).2.2).1
    have hA:=Hm (Vz (P.I k) (L k) (hI.out k hkP).1 (hI.out k hkP).2.1 (hI.out k hkP).2.2);have hOn:Hid (Ye w.heap.size wr (P.I k) (L k)):=fun w' h'=>⟨(H.out.e k hkP).below (hb.out.trans h'),(H.out.f k hkP).below (hb.out.trans h')⟩
    have hst:Hid (xw P (k+1)=xw P k++itT (P.I k)++[59,10]):=rfl;rcases H.out.s with h0|⟨b,off,rfl,h0⟩
    ·omega
    obtain⟨e0,e1,e2,e3,e4,e5,e6⟩:=It.at (z8 (h0 k hkP) hb.out);clear h0;have k0:(0:Int)≤(k:Int):=by omega
    have k1:(k:Int)<(N:Int):=by omega
    obtain⟨PT,hPT⟩:∃PT,PT=xw P k:=⟨_,rfl⟩;rw[←hPT]at hpl ho hst;generalize P.I k=it at e0 e1 e2 e3 e4 e5 e6 hA hOn hst;generalize L k=lo at e2 e3 hA hOn;have hBr:=hb.out.size;have hbA:=Hm (zd (Below.refl wr.heap.size wr) (.cells #[.int .i64 it.k,.string ⟨it.n.toArray⟩,.slice lo.aE it.nE lo.cE,.slice lo.aF it.nF lo.cF,.int .i64 it.K,.int .i64 it.lo,.int .i64 it.hi] 38));have HKA:=Hm (hb.out.alloc hBr (.cells #[.int .i64 it.k,.string ⟨it.n.toArray⟩,.slice lo.aE it.nE lo.cE,.slice lo.aF it.nF lo.cF,.int .i64 it.K,.int .i64 it.lo,.int .i64 it.hi] 38));have HOA:=Hm (zw ho.out hbA.out);have hBA:=HKA.out.size;have hil:=hA.out.1;clear hPT ho hbA;go_wp2_with fail;clear e0 e1 e2 e3 e4 e5 e6
    refine(hA.out.2 w.heap.size PT _ _ (hOn.out.on ((Below.refl _ _).alloc hBr _)) HOA.out hBA (HP.out.on HKA.out) (by omega)).mono ?_;rintro e w2 ⟨v2,rfl,ho2,hk2⟩;have HO2:=Hm ho2;have HB2:=Hm (HKA.out.trans hk2.1);have hB2:=HB2.out.size;clear ho2 hk2 HOA HKA;go_wp2_with (at_builtin;refine zQ rfl _ _ rfl w.heap.size _ _ rfl HO2.out [59,10] rfl hB2 (by simp only[qg,qh,qi];omega) ?_);intro v3 w3 ho3 hk3;have HO3:Hid (Own w.heap.size w3 v3 (xw P (k+1))):=by unfold Hid;rw[hst.out,ql];exact ho3
    have HB3:=Hm (HB2.out.trans hk3.1);clear ho3 hk3 hst;refine Hid.out ?_;refine Lib.hid ?_;go_wp2;exact⟨⟨k+1,by omega,by go_num,HO3,HB3⟩,by simp[intOf];omega⟩
   ·obtain rfl:k=N:=by omega
    have k1:decide ((k:Int)<(k:Int))=false:=by simp
    go_wp2;go_ret;exact⟨_,rfl,by rw[hv.out,←HN.out];exact ho.out,hb.out⟩
end Go.Proofs.YtbkajklninmhiaaGreatDoor.Syn
namespace Go.Proofs.YtbkajklninmhiaaGreatDoor.Par
open Go Syn Parse
def imO (i:It):Im:=⟨i.k,i.n,opL i.E i.nE,opL i.F i.nF,i.K,i.lo,i.hi⟩
def yz (i:It):List Kd:=
 if i.k=1 then ⟨2,i.n,0⟩::kT 13::exK i.E i.nE
 else if i.k=4 then exK i.E i.nE++kT 43::(sgK i.K++spK i.lo i.hi)
 else if i.k=5 then exK i.E i.nE++kT 45::exK i.F i.nF
 else if i.k=6 then [tgK i.K,tgK i.lo]
 else if i.k=7 then [nmK i.K]
 else if i.k=8 then exK i.E i.nE++spK i.lo i.hi
 else if i.k=9 then exK i.E i.nE++[kT 46,nmK i.K]
 else exK i.E i.nE
def itK (i:It):List Kd:=kT (15+i.k.toNat)::(yz i++[kT 3])
variable {T:Nat→Tk}
theorem xk (E:Nat→Po):opL E 0=[]:=rfl
theorem QJ (hT:∀i,(T i).k<50) {F:Nat} (hF:∀i o,pxP T F i o≠.out) (i:It) (h:itB i=true) {j o:Nat} (ha:At T j (yz i++[kT 3])) (hc:o+(i.nE+i.nF)≤2000):zY T F i.k.toNat j o=.ok (imO i,j+(yz i).length+1,o+(i.nE+i.nF)):=by
 obtain⟨h0,h1,h2,h3,h4,h5,h6⟩:=Zs h
 have hk:i.k=1∨i.k=2∨i.k=3∨i.k=4∨i.k=5∨i.k=6∨i.k=7∨i.k=8∨i.k=9:=by
  simp[inR]at h0;omega
 obtain⟨k,n,nE,nF,E,F',K,lo,hi⟩:=i;simp only at hk h1 h2 h3 h4 h5 h6 hc;unfold imO;simp only;clear h h0;have hz:(T (j+(yz ⟨k,n,nE,nF,E,F',K,lo,hi⟩).length)).k=3:=ha.right.head.1;have hb:=ha.left;clear ha;rcases hk with rfl|rfl|rfl|rfl|rfl|rfl|rfl|rfl|rfl
 ·have hs:sh (Int.toNat 1)=⟨true,true,false,0,0,0⟩:=rfl
  rw[hs]at h1 h2 h3 h4 h5 h6;simp[nmB,exB,zT,inR]at h1 h2 h3 h4 h5 h6;subst h3 h4 h5 h6;have eb:yz ⟨1,n,nE,0,E,F',0,0,0⟩=⟨2,n,0⟩::kT 13::exK E nE:=rfl;rw[eb]at hz hb ⊢;show zY T F 1 j o=_
  have hz':(T (j+1+1+(exK E nE).length)).k=3:=by
   rw[←hz]
   congr 2
   simp only[qg,qh,qi];omega
  have e2:(T j).k=2:=hb.head.1;have e13:(T (j+1)).k=13:=hb.tail.head.1;unfold zY;rw[if_pos rfl];unfold Wi;rw[yG hT e2,zj,hb.head.2.1,zj];dsimp only;rw[yG hT e13,zj,Y5 hT hF h2 hb.tail.tail (by omega) (Ze hz' (by omega)),zj];dsimp only;rw[yG hT hz',zj,xk]
  congr 2
  congr 1
  all_goals try simp only[qg,qh,qi]
  all_goals omega
 ·have hs:sh (Int.toNat 2)=⟨false,true,false,0,0,0⟩:=rfl
  rw[hs]at h1 h2 h3 h4 h5 h6;simp[nmB,exB,zT,inR]at h1 h2 h3 h4 h5 h6;subst h1 h3 h4 h5 h6;have eb:yz ⟨2,[],nE,0,E,F',0,0,0⟩=exK E nE:=rfl;rw[eb]at hz hb ⊢;show zY T F 2 j o=_;unfold zY;rw[if_neg (by decide),if_pos (by decide),Y5 hT hF h2 hb (by omega) (Ze hz (by omega)),zj];dsimp only;rw[yG hT hz,zj,xk];rfl
 ·have hs:sh (Int.toNat 3)=⟨false,true,false,0,0,0⟩:=rfl
  rw[hs]at h1 h2 h3 h4 h5 h6;simp[nmB,exB,zT,inR]at h1 h2 h3 h4 h5 h6;subst h1 h3 h4 h5 h6;have eb:yz ⟨3,[],nE,0,E,F',0,0,0⟩=exK E nE:=rfl;rw[eb]at hz hb ⊢;show zY T F 3 j o=_;unfold zY;rw[if_neg (by decide),if_pos (by decide),Y5 hT hF h2 hb (by omega) (Ze hz (by omega)),zj];dsimp only;rw[yG hT hz,zj,xk];rfl
 ·have hs:sh (Int.toNat 4)=⟨false,true,false,3,3,3⟩:=rfl
  rw[hs]at h1 h2 h3 h4 h5 h6;simp[nmB,exB,zT,inR]at h1 h2 h3 h4 h5 h6;subst h1 h3;have eb:yz ⟨4,[],nE,0,E,F',K,lo,hi⟩=exK E nE++kT 43::(sgK K++spK lo hi):=rfl;rw[eb]at hz hb ⊢;show zY T F 4 j o=_
  have hz':(T (j+(exK E nE).length+1+(sgK K).length+(spK lo hi).length)).k=3:=by
   rw[←hz]
   congr 2
   simp only[qg,qh,qi];omega
  have e43:(T (j+(exK E nE).length)).k=43:=hb.right.head.1;unfold zY;rw[if_neg (by decide),if_neg (by decide),if_pos rfl,Y5 hT hF h2 hb.left (by omega) (Ze e43 (by omega)),zj];dsimp only;rw[yG hT e43,zj,VP hT hb.right.tail.left,zj];dsimp only;rw[Ux hT hb.right.tail.right,zj];dsimp only;rw[yG hT hz',zj,xk]
  congr 2
  congr 1
  all_goals try simp only[qg,qh,qi]
  all_goals omega
 ·have hs:sh (Int.toNat 5)=⟨false,true,true,0,0,0⟩:=rfl
  rw[hs]at h1 h2 h3 h4 h5 h6;simp[nmB,exB,zT,inR]at h1 h2 h3 h4 h5 h6;subst h1 h4 h5 h6;have eb:yz ⟨5,[],nE,nF,E,F',0,0,0⟩=exK E nE++kT 45::exK F' nF:=rfl;rw[eb]at hz hb ⊢;show zY T F 5 j o=_
  have hz':(T (j+(exK E nE).length+1+(exK F' nF).length)).k=3:=by
   rw[←hz]
   congr 2
   simp only[qg,qh,qi];omega
  have e45:(T (j+(exK E nE).length)).k=45:=hb.right.head.1;unfold zY;rw[if_neg (by decide),if_neg (by decide),if_neg (by decide),if_pos rfl,Y5 hT hF h2 hb.left (by omega) (Ze e45 (by omega)),zj];dsimp only;rw[yG hT e45,zj,Y5 hT hF h3 hb.right.tail (by omega) (Ze hz' (by omega)),zj];dsimp only;rw[yG hT hz',zj]
  congr 2
  congr 1
  all_goals try simp only[qg,qh,qi]
  all_goals omega
 ·have hs:sh (Int.toNat 6)=⟨false,false,false,1,1,0⟩:=rfl
  rw[hs]at h1 h2 h3 h4 h5 h6;simp[nmB,exB,zT,inR]at h1 h2 h3 h4 h5 h6;subst h1 h2 h3 h6;have eb:yz ⟨6,[],0,0,E,F',K,lo,0⟩=[tgK K,tgK lo]:=rfl;rw[eb]at hz hb ⊢;show zY T F 6 j o=_;have hz':(T (j+1+1)).k=3:=hz;unfold zY;rw[if_neg (by decide),if_neg (by decide),if_neg (by decide),if_neg (by decide),if_pos rfl,Wz hT h4.1 h4.2 hb.head.2.1,zj];dsimp only;rw[Wz hT h5.1 h5.2 hb.tail.head.2.1,zj];dsimp only;rw[yG hT hz',zj,xk,xk];rfl
 ·have hs:sh (Int.toNat 7)=⟨false,false,false,2,0,0⟩:=rfl
  rw[hs]at h1 h2 h3 h4 h5 h6;simp[nmB,exB,zT,inR]at h1 h2 h3 h4 h5 h6;subst h1 h2 h3 h5 h6;have eb:yz ⟨7,[],0,0,E,F',K,0,0⟩=[nmK K]:=rfl;rw[eb]at hz hb ⊢;show zY T F 7 j o=_;have hz':(T (j+1)).k=3:=hz;unfold zY;rw[if_neg (by decide),if_neg (by decide),if_neg (by decide),if_neg (by decide),if_neg (by decide),if_pos rfl,WN hT hb,zj];dsimp only;rw[yG hT hz',zj,xk,xk];rfl
 ·have hs:sh (Int.toNat 8)=⟨false,true,false,0,3,3⟩:=rfl
  rw[hs]at h1 h2 h3 h4 h5 h6;simp[nmB,exB,zT,inR]at h1 h2 h3 h4 h5 h6;subst h1 h3 h4;have eb:yz ⟨8,[],nE,0,E,F',0,lo,hi⟩=exK E nE++spK lo hi:=rfl;rw[eb]at hz hb ⊢;show zY T F 8 j o=_
  have hz':(T (j+(exK E nE).length+(spK lo hi).length)).k=3:=by
   rw[←hz]
   congr 2
   simp only[qg,qh,qi];omega
  have e44:(T (j+(exK E nE).length)).k=44:=hb.right.head.1;unfold zY;rw[if_neg (by decide),if_neg (by decide),if_neg (by decide),if_neg (by decide),if_neg (by decide),if_neg (by decide),if_pos rfl,Y5 hT hF h2 hb.left (by omega) (Ze e44 (by omega)),zj];dsimp only;rw[Ux hT hb.right,zj];dsimp only;rw[yG hT hz',zj,xk]
  congr 2
  congr 1
  all_goals try simp only[qg,qh,qi]
  all_goals omega
 ·have hs:sh (Int.toNat 9)=⟨false,true,false,2,0,0⟩:=rfl
  rw[hs]at h1 h2 h3 h4 h5 h6;simp[nmB,exB,zT,inR]at h1 h2 h3 h4 h5 h6;subst h1 h3 h5 h6;have eb:yz ⟨9,[],nE,0,E,F',K,0,0⟩=exK E nE++[kT 46,nmK K]:=rfl;rw[eb]at hz hb ⊢;show zY T F 9 j o=_
  have hz':(T (j+(exK E nE).length+1+1)).k=3:=by
   rw[←hz]
   congr 2
   simp only[qg,qh,qi];omega
  have e46:(T (j+(exK E nE).length)).k=46:=hb.right.head.1;unfold zY;rw[if_neg (by decide),if_neg (by decide),if_neg (by decide),if_neg (by decide),if_neg (by decide),if_neg (by decide),if_neg (by decide),Y5 hT hF h2 hb.left (by omega) (Ze e46 (by omega)),zj];dsimp only;rw[yG hT e46,zj,WN hT hb.right.tail,zj];dsimp only;rw[yG hT hz',zj,xk]
  congr 2
  congr 1
  all_goals try simp only[qg,qh,qi]
  all_goals omega
theorem Qp (hT:∀i,(T i).k<50) {F:Nat} (hF:∀i o,pxP T F i o≠.out) (i:It) (h:itB i=true) {j o:Nat} (ha:At T j (itK i)) (hc:o+(i.nE+i.nF)≤2000):XG T F j o=.ok (imO i,j+(itK i).length,o+(i.nE+i.nF))∧16≤(T j).k∧(T j).k≤24:=by
 have hk:1≤i.k∧i.k≤9:=by have:=(Zs h).1;simpa[inR]using this
 have e:(T j).k=15+i.k.toNat:=ha.head.1;refine⟨?_,by omega,by omega⟩;unfold XG;rw[xd hT,zj,e,Nat.add_sub_cancel_left,QJ hT hF i h ha.tail hc]
 congr 3
 simp[itK];omega
end Go.Proofs.YtbkajklninmhiaaGreatDoor.Par
