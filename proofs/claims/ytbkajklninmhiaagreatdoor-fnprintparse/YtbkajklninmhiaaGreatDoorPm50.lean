import Derived.Test.YtbkajklninmhiaaGreatDoorPm49
import Derived.Test.YtbkajklninmhiaaGreatDoorRows
import Derived.Lib.LaidTab
import Derived.LaidLaws
import Derived.ChangeArms
import Derived.Stop.LaidErr
import Derived.ProofKit
import Derived.OpenShut
import Derived.ChangeOld
import Derived.ChangeVars
import Derived.WideKeyArgs
import Derived.Carry
import Derived.Test.YtbkajklninmhiaaGreatDoorCards
import Derived.Test.YtbkajklninmhiaaGreatDoorTie
import Derived.ChangeSlices
import Derived.ShutString
import Derived.Deep.DeepHandedRow
set_option maxHeartbeats 8000000
set_option maxRecDepth 1000000
set_option linter.unusedVariables false
set_option linter.unusedSimpArgs false
open List renaming getElem_cons_succ → qd, getElem_cons_zero → qe, getElem?_toArray → qm, getElem?_cons_zero → qn
open Nat renaming le_refl → qp, le_trans → qq
namespace Go.Proofs.YtbkajklninmhiaaGreatDoor.Syn
open Go Go.RowKit Mem
attribute [local go_sem ↓] Go.wp_at_zero Go.wp_at_succ
theorem Tj (i:It) (l:Lo) (w:World) (hE:zK w l.aE i.nE 3 (fun j=>(i.E j).cells)) (hF:zK w l.aF i.nF 3 (fun j=>(i.F j).cells)) (hnE:i.nE≤1000000) (hnF:i.nF≤1000000):
  Calls Tryz.prog 14 #[.agg #[.int .i64 i.k,.string ⟨i.n.toArray⟩,.slice l.aE i.nE l.cE,.slice l.aF i.nF l.cF,.int .i64 i.K,.int .i64 i.lo,.int .i64 i.hi]] w fun e w'=>e=.returned (.bool (itB i))∧Below w.heap.size w w':=by
 obtain⟨k,n,nE,nF,E,F,K,lo,hi⟩:=i;obtain⟨aE,aF,cE,cF⟩:=l;simp only at*;by_cases hk:1≤k∧k≤9
 ·have:k=1∨k=2∨k=3∨k=4∨k=5∨k=6∨k=7∨k=8∨k=9:=by omega
  rcases this with rfl|rfl|rfl|rfl|rfl|rfl|rfl|rfl|rfl
  ·exact good1 n nE nF E F K lo hi aE aF cE cF w hE hF hnE hnF
  ·exact good2 n nE nF E F K lo hi aE aF cE cF w hE hF hnE hnF
  ·exact good3 n nE nF E F K lo hi aE aF cE cF w hE hF hnE hnF
  ·exact good4 n nE nF E F K lo hi aE aF cE cF w hE hF hnE hnF
  ·exact good5 n nE nF E F K lo hi aE aF cE cF w hE hF hnE hnF
  ·exact good6 n nE nF E F K lo hi aE aF cE cF w hE hF hnE hnF
  ·exact good7 n nE nF E F K lo hi aE aF cE cF w hE hF hnE hnF
  ·exact good8 n nE nF E F K lo hi aE aF cE cF w hE hF hnE hnF
  ·exact good9 n nE nF E F K lo hi aE aF cE cF w hE hF hnE hnF
 ·have hp:inR k 1 9=false:=by
   cases h:inR k 1 9 with
   |false=>rfl
   |true=>exact absurd ((Xm k 1 9).1 h) hk
  have hv:Hid (itB ⟨k,n,nE,nF,E,F,K,lo,hi⟩=false):=by unfold Hid itB;rw[hp];rfl
  clear hE hF hk;go_enter Tryz.func14,Tryz.ntmps14;go_wp2_with (go_at_call 34;refine(ym _ _ _ _).mono ?_;rintro e w' ⟨rfl,hw⟩;rw[hw];clear hw);go_ret;rw[hv.out];exact⟨rfl,by go_grown⟩
theorem Rh (P:Pr) (a:Option Addr) (c:Nat) (L:Nat→Lo) (w:World) (h:Yu w a P L) (hn:P.n≤1048576) (hc:cnt P P.n≤1048576):
  Calls Tryz.prog 6 #[.agg #[.slice a P.n c]] w fun e w'=>e=.returned (.bool (prB P))∧Below w.heap.size w w':=by
 have H:=Hm h;have HC:Hid (∀k,k<P.n→cnt P k+((P.I k).nE+(P.I k).nF)≤1048576):=fun k hk=>qq (cnt_mono P (show k+1≤P.n from hk)) hc
 have HC2:=Hm hc;clear h hc;obtain⟨N,hN⟩:∃N,N=P.n:=⟨_,rfl⟩;rw[←hN]at hn;have HN:=Hm hN;rw[←hN];clear hN;go_enter Tryz.func6,Tryz.ntmps6;go_wp2;go_loopw [3,4] (fun m i wr=>∃k:Nat,k≤N∧i=.int .i64 (k:Int)∧m=.int .i64 (cnt P k:Int)∧Hid (wr.heap[w.heap.size]? =some (.cells #[.slice a N c] 25))∧Hid (Below w.heap.size w wr)) (fun _ i _=>N- (intOf i).toNat)
 case atStart=>exact⟨0,Nat.zero_le _,rfl,rfl,zo w _,by unfold Hid;go_grown⟩
 case round=>
  obtain⟨k,hk,rfl,rfl,hA,hb⟩:=hrel;have x0:=zb hA.out 0;simp only[qm,qn]at x0;by_cases hlt:k<N
  ·have hkP:k<P.n:=by rw[←HN.out];exact hlt
   rcases H.out.s with h0|⟨b,off,rfl,h0⟩
   ·omega
   obtain⟨e0,e1,e2,e3,e4,e5,e6⟩:=It.at (z8 (h0 k hkP) hb.out);clear h0 e0 e1 e4 e5 e6;have k0:(0:Int)≤(k:Int):=by omega
   have k1:(k:Int)<(N:Int):=by omega
   have hcb:=HC.out k hkP;have hx:Hid (cnt P (k+1)=cnt P k+((P.I k).nE+(P.I k).nF)):=rfl;obtain⟨x,hx1⟩:∃x,x=(P.I k).nE:=⟨_,rfl⟩;obtain⟨y,hy1⟩:∃y,y=(P.I k).nF:=⟨_,rfl⟩;obtain⟨s,hs1⟩:∃s,s=cnt P k:=⟨_,rfl⟩;rw[←hx1]at e2 hcb hx;rw[←hy1]at e3 hcb hx;rw[←hs1]at hcb hx ⊢;clear hx1 hy1 hs1;go_wp2_with fail
   go_quiet (fail)
   go_wp2;exact⟨⟨k+1,by omega,by go_num,by rw[hx.out];congr 1;omega,hA,below_drewN' hb.out _⟩,by simp[intOf];omega⟩
  ·obtain rfl:k=N:=by omega
   have k1:decide ((k:Int)<(k:Int))=false:=by simp
   obtain⟨q,hq⟩:∃q,q=cnt P k:=⟨_,rfl⟩;have HQ:Hid (q=cnt P P.n):=by unfold Hid;rw[hq];exact congrArg (cnt P) HN.out
   have hqb:q≤1048576:=by rw[HQ.out];exact HC2.out
   rw[←hq];clear hq;by_cases h1:(100:Int)<(k:Int)
   ·have hv:Hid (prB P=false):=by unfold Hid prB;rw[←HN.out,show decide (k≤100)=false by simp;omega];rfl
    go_wp2;go_ret;rw[hv.out];exact⟨rfl,hb.out⟩
   have d1:decide ((100:Int)<(k:Int))=false:=by simpa using h1
   by_cases h2:(2000:Int)<(q:Int)
   ·have hv:Hid (prB P=false):=by unfold Hid prB;rw[←HQ.out,show decide (q≤2000)=false by simp;omega];simp
    go_wp2;go_ret;rw[hv.out];exact⟨rfl,hb.out⟩
   have d2:decide ((2000:Int)<(q:Int))=false:=by simpa using h2
   have hq2:q≤2000:=by omega
   have hk100:k≤100:=by omega
   go_wp2;clear x0 k1;go_loopw [5] (fun i wr=>∃j:Nat,j≤k∧i=.int .i64 (j:Int)∧Hid (wr.heap[w.heap.size]? =some (.cells #[.slice a k c] 25))∧Hid (Below w.heap.size w wr)∧Hid (YZ j (fun i=>itB (P.I i))=true)) (fun i _=>k- (intOf i).toNat)
   case atStart=>exact⟨0,Nat.zero_le _,rfl,hA,hb,rfl⟩
   case round=>
    clear hA hb;obtain⟨j,hj,rfl,hA,hb,ha⟩:=hrel;have x0:=zb hA.out 0;simp only[qm,qn]at x0;by_cases hlt:j<k
    ·have hkP:j<P.n:=by rw[←HN.out];exact hlt
     have hE:=Hm ((H.out.e j hkP).below hb.out);have hF:=Hm ((H.out.f j hkP).below hb.out);have hcn:(P.I j).nE+(P.I j).nF≤q:=by rw[HQ.out];exact XL P hkP
     have hnE:(P.I j).nE≤1000000:=by omega
     have hnF:(P.I j).nF≤1000000:=by omega
     have hbad:Hid (itB (P.I j)=false→prB P=false):=Wd hkP;have hgood:Hid (itB (P.I j)=true→YZ (j+1) (fun i=>itB (P.I i))=true):=fun h=>Wx ha.out h
     rcases H.out.s with h0|⟨b,off,rfl,h0⟩
     ·omega
     obtain⟨e0,e1,e2,e3,e4,e5,e6⟩:=It.at (z8 (h0 j hkP) hb.out);clear h0;have k0:(0:Int)≤(j:Int):=by omega
     have k1:(j:Int)<(k:Int):=by omega
     generalize P.I j=it at e0 e1 e2 e3 e4 e5 e6 hE hF hcn hnE hnF hbad hgood;generalize L j=lo at e2 e3 hE hF;go_wp2_with fail;clear e0 e1 e2 e3 e4 e5 e6 x0;refine(Tj it lo _ hE.out hF.out hnE hnF).mono ?_;rintro e w2 ⟨rfl,hb2⟩;have hb3:=Hm (zn hb.out hb2);have hA3:=Hm (zg hA.out hb2);clear hb2 hb hA
     cases hg:itB it with
     |false=>
      have hv:=Hm (hbad.out hg);go_wp2;go_ret;rw[hv.out];exact⟨rfl,hb3.out⟩
     |true=>
      have hv:=Hm (hgood.out hg);go_wp2;exact⟨⟨j+1,by omega,by go_num,hA3,hb3,hv⟩,by simp[intOf];omega⟩
    ·obtain rfl:j=k:=by omega
     have k1:decide ((j:Int)<(j:Int))=false:=by simp
     have hv:Hid (prB P=true):=by
      have e1:=HN.out;have e2:=HQ.out;have e3:=ha.out;rw[e1]at e3;unfold Hid prB;rw[e3,←e2,←e1];simp only[Bool.and_true,Bool.and_eq_true,decide_eq_true_eq];exact⟨by omega,hq2⟩
     go_wp2;go_ret;rw[hv.out];exact⟨rfl,hb.out⟩
end Go.Proofs.YtbkajklninmhiaaGreatDoor.Syn
namespace Go.Proofs.YtbkajklninmhiaaGreatDoor.Pa
open Go Go.RowKit Mem Syn Parse Par Dq
attribute [local go_sem ↓] Go.wp_at_zero Go.wp_at_succ
theorem RR {B:Nat} {w:World} {v:Value} {bs:List UInt8} (h:Print.Own B w v bs):Txt w.heap.size w v bs:=by
 rcases h.2 with⟨hv,h0⟩|⟨g,cap,cur,hv,hg,hblk,hc,-,-,ht⟩
 ·exact⟨none,0,by rw[hv,h0],by omega,Or.inl ⟨rfl,rfl⟩⟩
 ·refine⟨some ⟨g,0,none⟩,cap,hv,hc,Or.inr ⟨g,0,rfl,fun j hj=>⟨zN hblk,?_⟩⟩⟩
  obtain⟨g',cap',e,-,hcl⟩:=Print.Own.form h (by omega);rw[hv]at e;injection e with e1 e2 e3;injection e1 with e1;injection e1 with e1;have:=hcl j (.int .u8 (bs[j].toNat:Int)) (by simp[Lib.byteCells,hj]);rw[←e1,Addr.add_lit]at this;exact this
def RE (P:Pr) (w:World) (e:Ending) (w':World):Prop:=∃a c lo,e=.returned (.agg #[.slice a P.n c])∧Yu w' a P lo∧Below w.heap.size w w'∧Syn.cnt P P.n≤1048576
theorem drawE {B:Nat} {bs:List UInt8} (v:Value) (w:World) (hB:B≤w.heap.size) (ht:Txt B w v bs) (hl:bs.length≤1048576):Calls Tryz.prog 5 #[v] w (RE (Xe (Y8 bs)) w):=by
 refine(Td v w hB ht hl).mono ?_;rintro e w' ⟨iv,X,rfl,hX,hp,hb⟩
 have hx:X.length≤101:=by
  have:=Dq.prog_len bs;rw[←hX,List.length_map]at this;exact this
 have hc:=pg_cnt hp hx;obtain⟨a,c,lo,rfl,hat⟩:=pg_at hp;rw[hX]at hat hc;refine⟨a,c,lo,?_,hat,hb,hc⟩;show _=Ending.returned (.agg #[.slice a (Y8 bs).length c]);rw[←hX,List.length_map]
structure Tbs (w:World):Prop where
 t:XT w
 s:VL w
 p:Lib.TabIs Tryz.prog w "internal/strconv.uint64pow10" .u64 Lib.pow10Tab
theorem Tbs.below {w w':World} (h:Tbs w) (hb:Below w.heap.size w w'):Tbs w':=⟨h.t.below hb,h.s.below hb,(Lib.tabBelow_of_tabIs h.p) w' hb⟩
theorem parseE (P:Pr) (L:List Im) (hP:P=Xe L) (hv:prB P=true) (v:Value) (w:World) (ho:Print.Own w.heap.size w v (Ym P)∨∃B,Print.Own B w v (Ym P)) (hT:Tbs w):∃a n c,v=.slice a n c∧Calls Tryz.prog 8 #[.slice a n c] w fun e w'=>∃b d lo,e=.returned (.agg #[.int .i64 0,.int .i64 0,.slice b P.n d])∧Yu w' b P lo∧Below w.heap.size w w':=by
 have ht:Txt w.heap.size w v (Ym P):=by rcases ho with h|⟨B,h⟩<;>exact RR h
 obtain⟨p,c,rfl,-,-⟩:=id ht;refine⟨p,_,c,rfl,(VV p (Ym P) _ c w rfl ht hT.t.t hT.t.b).mono ?_⟩;rintro e w' ⟨iv,cs,s,rfl,hrow,hits,hb⟩;subst hP;rw[back hv]at hrow hits ⊢;obtain⟨a,d,lo,rfl,hat⟩:=Pb hrow (Qn hits);exact⟨a,d,lo,rfl,hat,hb⟩
theorem lawPR (a:Option Addr) (t:List UInt8) (n c:Nat) (w:World) (hn:n=t.length) (ht:Txt w.heap.size w (.slice a n c) t) (hT:Tbs w):
  Calls Tryz.prog 3 #[.slice a n c] w fun e w'=>e=.returned (.bool true)∧Below w.heap.size w w':=by
 have HN:=Hm hn;have HX:=Hm ht;have HT:=Hm hT;clear hn ht hT;by_cases hbig:1048576<n
 ·have hb':(1048576:Int)<(n:Int):=by omega
  go_enter Tryz.func3,Tryz.ntmps3;go_wp2;go_ret;exact⟨rfl,Below.refl _ _⟩
 have hb':decide ((1048576:Int)<(n:Int))=false:=by simp;omega
 have hl:t.length≤1048576:=by have:=HN.out;omega
 obtain⟨L,hL⟩:∃L,L=Y8 t:=⟨_,rfl⟩;obtain⟨P,hP⟩:∃P,P=Xe L:=⟨_,rfl⟩;have CD:Hid (∀w',Txt w.heap.size w' (.slice a n c) t→w.heap.size≤w'.heap.size→Calls Tryz.prog 5 #[.slice a n c] w' (RE P w')):=fun w' h1 h2=>by rw[hP,hL];exact drawE _ w' h2 h1 hl
 have hPn:P.n≤1048576:=by
  have:=Dq.prog_len t;rw[←hL]at this;rw[hP];show L.length≤1048576;omega
 have HP:=Hm hP;clear hL hP;obtain⟨N,hN⟩:∃N,N=P.n:=⟨_,rfl⟩;have HNN:=Hm hN;go_enter Tryz.func3,Tryz.ntmps3;go_wp2_with fail;refine(CD.out w HX.out (qp _)).mono ?_;rintro e w1 ⟨a1,c1,lo1,rfl,hin,hb1,hcnt⟩;rw[←hN];have HI:=Hm hin;have HB1:=Hm hb1;have HC:=Hm hcnt;have HPN:=Hm hPn;clear hb1 hin hcnt hPn hN;obtain⟨W2,hW2⟩:∃W,W=w1.alloc (.cells #[.slice a1 N c1] 25):=⟨_,rfl⟩;have A2:Hid (Below w1.heap.size w1 W2):=by rw[hW2];exact zd (Below.refl _ _) _
 have X2:Hid (W2.heap[w1.heap.size]? =some (.cells #[.slice a1 N c1] 25)):=by rw[hW2];exact zo _ _
 have HI2:=Hm (HI.out.below A2.out);have HB2:=Hm (zn HB1.out A2.out);clear HI HB1 A2;have CV:=Hm (Rh P a1 c1 lo1 W2 HI2.out HPN.out HC.out);rw[←HNN.out]at CV;go_wp2_with fail;rw[←hW2];clear hW2;refine CV.out.mono ?_;rintro e w3 ⟨rfl,hb3⟩;have HB3:=Hm (zn HB2.out hb3);have X3:=Hm (zg X2.out hb3);have HI3:=Hm (HI2.out.below hb3);clear hb3 X2 HI2 HB2 CV;have r0:=cL0 X3.out;have T3:=Hm (HT.out.below HB3.out);have CR:=Hm (RM P a1 c1 lo1 w3 HI3.out HPN.out HC.out T3.out.t T3.out.s T3.out.p);rw[←HNN.out]at CR
 cases hv:prB P with
 |false=>
  have hz:Ym P=[]:=by unfold Ym;rw[hv];rfl
  rw[hz]at CR;have HV:=Hm hv;clear hz hv;go_wp2_with fail;refine CR.out.mono ?_;rintro e w4 ⟨v,rfl,ho,hb4⟩;obtain⟨az,cz,rfl,-⟩:=zh ho;have HB4:=Hm (zn HB3.out hb4);clear ho hb4 r0;go_wp2;go_ret;exact⟨rfl,HB4.out⟩
 |true=>
  have HV:=Hm hv;clear hv;go_wp2_with fail;refine CR.out.mono ?_;rintro e w4 ⟨v,rfl,ho,hb4⟩;have T4:=T3.out.below hb4;have HB4:=Hm (zn HB3.out hb4);obtain⟨az,nz,cz,rfl,CP⟩:=parseE P L HP.out HV.out v w4 (Or.inr ⟨_,ho⟩) T4;rw[←HNN.out]at CP;have HCP:=Hm CP;clear ho hb4 r0 T4 CP;go_wp2_with fail;refine HCP.out.mono ?_;rintro e w5 ⟨b1,d1,lo5,rfl,hin5,hb5⟩;have HI5:=Hm hin5;have HB5:=Hm (zn HB4.out hb5);clear hin5 hb5 HCP;obtain⟨W6,hW6⟩:∃W,W=w5.alloc (.cells #[.int .i64 0,.int .i64 0,.slice b1 N d1] 30):=⟨_,rfl⟩;have A6:Hid (Below w5.heap.size w5 W6):=by rw[hW6];exact zd (Below.refl _ _) _
  have X6:Hid (W6.heap[w5.heap.size]? =some (.cells #[.int .i64 0,.int .i64 0,.slice b1 N d1] 30)):=by rw[hW6];exact zo _ _
  have HI6:=Hm (HI5.out.below A6.out);have HB6:=Hm (zn HB5.out A6.out);clear HI5 HB5 A6;go_wp2_with fail;rw[←hW6];clear hW6;have y0:W6.cell? ⟨w5.heap.size,0,none⟩=some (.int .i64 0):=(zb X6.out 0).trans rfl;have y1:W6.cell? ⟨w5.heap.size,1,none⟩=some (.int .i64 0):=(zb X6.out 1).trans rfl;have y2:W6.cell? ⟨w5.heap.size,2,none⟩=some (.slice b1 N d1):=(zb X6.out 2).trans rfl;have D6:Hid (Below W6.heap.size W6 W6.drew):=(Below.refl _ _).drew;have HD:=Hm (zn HB6.out D6.out);have HI7:=Hm (HI6.out.below D6.out);have CE:=Hm (CD.out W6.drew (HX.out.below HD.out) HD.out.size)
  have CW:Hid (∀w7 a' c' lo',Yu w7 b1 P lo5→Yu w7 a' P lo'→Calls Tryz.prog 9 #[.agg #[.slice b1 N d1],.agg #[.slice a' N c']] w7 fun e w'=>e=.returned (.bool true)∧Below w7.heap.size w7 w'):=fun w7 a' c' lo' h1 h2=>by rw[HNN.out];exact Qa P b1 a' d1 c' lo5 lo' w7 h1 h2 HPN.out HC.out
  clear HX HT HI6 HB6 D6 CD HB4 T3 HI3 X3 HB3 X6 CR
  go_region_held3 (fun w'=>w'.cell? ⟨w5.heap.size,0,none⟩=some (.int .i64 0)∧w'.cell? ⟨w5.heap.size,1,none⟩=some (.int .i64 0)∧w'.cell? ⟨w5.heap.size,2,none⟩=some (.slice b1 N d1))
   (first|go_keep|((repeat' constructor)<;>first|exact zB hb8 (zB hb7 (by first|assumption|(simp[*];done)))|exact zB hb7 (by first|assumption|(simp[*];done))))
   ((first
    |(go_at_call 5;(with_reducible refine CE.out.mono ?_);rintro e w7 ⟨a7,c7,lo7,rfl,hin7,hb7,-⟩;rw[←HNN.out];have HJ:=Hm (HI7.out.below hb7);have HH:=Hm hin7;clear hin7)
    |(go_at_call 9;(with_reducible refine(CW.out _ a7 c7 lo7 HJ.out HH.out).mono ?_);rintro e w8 ⟨rfl,hb8⟩)))
  have HZ:=Hm (zn (zn HD.out hb7) hb8);clear hb7 hb8 HJ HH;go_wp2;go_ret;exact⟨rfl,HZ.out⟩
end Go.Proofs.YtbkajklninmhiaaGreatDoor.Pa
namespace Go.Proofs.YtbkajklninmhiaaGreatDoor.Pa
open Go Go.RowKit Mem Syn
theorem strs {H:Type} {enc:TypeId×Value→H} {P:Program} {w:World} {base:Nat} {sp:Nat→Bool} {held:Bool} {fuel:Nat} {t e:TypeId} {n:Nat} {cs:List Value} {ds:List (DataW H)} {p:List MemPlace}
  (ht:P.underlying t=some (.array n e)) (he:P.underlying e=some .string) (hce:P.cellsOf e=1) (hct:P.cellsOf t=n)
  (h:DataW.trod enc P w base sp held fuel t cs=some (.agg ds,p)):∀i,i<n→∃s:ByteArray,cs[i]? =some (.string s)∧ds[i]? =some (.lit (.string s.data.toList)):=by
 cases fuel with
 |zero=>simp[DataW.trod]at h
 |succ fuel=>
  simp only[DataW.trod,ht,hce,hct]at h
  split at h
  ·obtain⟨xs,hm,hx⟩:=Option.map_eq_some_iff.1 h
   have hds:ds=xs.map (·.1):=by
    have:=congrArg Prod.fst hx;simp only[DataW.agg.injEq]at this;exact this.symm
   intro i hin;obtain⟨y,hy,hf⟩:=Lib.mapM_at hm i i (by simp[hin]);obtain⟨s,a0,b0,-⟩:=DataW.trod_string he hf;refine⟨s,?_,?_⟩
   ·have:=congrArg (·[0]?) a0
    simpa[List.getElem?_take,List.getElem?_drop]using this
   ·rw[hds,List.getElem?_map,hy,b0]
    rfl
  ·cases h
theorem rows6 {H:Type} {enc:TypeId×Value→H} {P:Program} {w:World} {base:Nat} {sp:Nat→Bool} {held:Bool} {fuel:Nat} {t e tb ti:TypeId} {n:Nat} {f0 f1 f2 f3 f4 f5:Field} {cs:List Value} {ds:List (DataW H)} {p:List MemPlace}
  (ht:P.underlying t=some (.array n e)) (he:P.underlying e=some (.struct #[f0,f1,f2,f3,f4,f5])) (hbt:P.underlying tb=some .bool) (hi:P.underlying ti=some (.int .i64)) (h0:f0.type=tb∧f0.offset=0) (h1:f1.type=tb∧f1.offset=1) (h2:f2.type=tb∧f2.offset=2) (h3:f3.type=ti∧f3.offset=3) (h4:f4.type=ti∧f4.offset=4) (h5:f5.type=ti∧f5.offset=5) (hcb:P.cellsOf tb=1) (hci:P.cellsOf ti=1) (hce:P.cellsOf e=6) (hct:P.cellsOf t=n*6)
  (h:DataW.trod enc P w base sp held fuel t cs=some (.agg ds,p)):∀i,i<n→∃(b0 b1 b2:Bool) (z3 z4 z5:Int),cs[i*6]? =some (.bool b0)∧cs[i*6+1]? =some (.bool b1)∧cs[i*6+2]? =some (.bool b2)∧cs[i*6+3]? =some (.int .i64 z3)∧cs[i*6+4]? =some (.int .i64 z4)∧cs[i*6+5]? =some (.int .i64 z5)∧ds[i]? =some (.agg [.lit (.bool b0),.lit (.bool b1),.lit (.bool b2),.lit (.int .i64 z3),.lit (.int .i64 z4),.lit (.int .i64 z5)]):=by
 cases fuel with
 |zero=>simp[DataW.trod]at h
 |succ fuel=>
  simp only[DataW.trod,ht,hce,hct]at h
  split at h
  ·obtain⟨xs,hm,hx⟩:=Option.map_eq_some_iff.1 h
   have hds:ds=xs.map (·.1):=by
    have:=congrArg Prod.fst hx;simp only[DataW.agg.injEq]at this;exact this.symm
   intro i hin;obtain⟨y,hy,hf⟩:=Lib.mapM_at hm i i (by simp[hin]);obtain⟨ys,m,-,hyx,-,hyl,hff⟩:=DataW.trod_struct he hf;have g0:=(hff 0 f0 rfl).trans (List.getElem?_eq_getElem (show 0<ys.length by rw[hyl];simp));have g1:=(hff 1 f1 rfl).trans (List.getElem?_eq_getElem (show 1<ys.length by rw[hyl];simp));have g2:=(hff 2 f2 rfl).trans (List.getElem?_eq_getElem (show 2<ys.length by rw[hyl];simp));have g3:=(hff 3 f3 rfl).trans (List.getElem?_eq_getElem (show 3<ys.length by rw[hyl];simp));have g4:=(hff 4 f4 rfl).trans (List.getElem?_eq_getElem (show 4<ys.length by rw[hyl];simp));have g5:=(hff 5 f5 rfl).trans (List.getElem?_eq_getElem (show 5<ys.length by rw[hyl];simp));rw[h0.1,h0.2,hcb]at g0;rw[h1.1,h1.2,hcb]at g1;rw[h2.1,h2.2,hcb]at g2;rw[h3.1,h3.2,hci]at g3;rw[h4.1,h4.2,hci]at g4;rw[h5.1,h5.2,hci]at g5
   obtain⟨z0,a0,b0⟩:=DataW.trod_bool hbt g0;obtain⟨z1,a1,b1⟩:=DataW.trod_bool hbt g1;obtain⟨z2,a2,b2⟩:=DataW.trod_bool hbt g2;obtain⟨z3,a3,b3,-⟩:=DataW.trod_int hi g3;obtain⟨z4,a4,b4,-⟩:=DataW.trod_int hi g4;obtain⟨z5,a5,b5,-⟩:=DataW.trod_int hi g5
   have key:∀(j:Nat) (z:Value),j<6→List.take 1 (List.drop j (List.take 6 (List.drop (i*6) cs)))=[z]→cs[i*6+j]? =some z:=fun j z hj ha=>by
    have:=congrArg (·[0]?) ha;simpa[List.getElem?_take,List.getElem?_drop,hj]using this
   refine⟨z0,z1,z2,z3,z4,z5,key 0 _ (by omega) a0,key 1 _ (by omega) a1,key 2 _ (by omega) a2,key 3 _ (by omega) a3,key 4 _ (by omega) a4,key 5 _ (by omega) a5,?_⟩;rw[hds,List.getElem?_map,hy]
   match ys,hyl with
   |[y0,y1,y2,y3,y4,y5],_=>
    simp only[qe,qd]at b0 b1 b2 b3 b4 b5;rw[hyx,b0,b1,b2,b3,b4,b5];rfl
  ·cases h
theorem twData:(Rows.laid_loop_example_s0023_impl_tokenWords:DataW Unit)=.agg (tw.map fun s=>.lit (.string s)):=by kernel_rfl
theorem gTw:Tryz.prog.globalNamed "loop.example/s0023/impl.tokenWords"=some 0:=by kernel_rfl
theorem Qw:(Tryz.prog.globals[0]?).map (·.type)=some 78:=by kernel_rfl
theorem cTwT:Tryz.prog.cellsOf 78=50:=by kernel_rfl
theorem cTw:Tryz.prog.cellsOf 9=1:=by kernel_rfl
theorem tabW {W:World} {rest:List (String×DataW Unit)} (h:laidMet Tryz.prog (("loop.example/s0023/impl.tokenWords",Rows.laid_loop_example_s0023_impl_tokenWords)::rest) W):Xg W:=by
 obtain⟨ps,⟨g',t',cs,fuel,p,q,hg',ht',hvar,hd,_,_⟩,_⟩:=h;obtain rfl:=Option.some.inj (gTw.symm.trans hg');obtain rfl:=Option.some.inj (Qw.symm.trans ht');rw[twData]at hd;intro m hm;obtain⟨s,a0,hz⟩:=strs Tryz.underlying78 Tryz.underlying9 cTw cTwT hd m hm;have hl:m<tw.length:=hm;have hs:zG m=tw[m]:=by unfold zG;simp[List.getD,hl]
 rw[List.getElem?_map,List.getElem?_eq_getElem hl]at hz;simp only[Option.map_some,Option.some.injEq,DataW.lit.injEq,Lit.string.injEq]at hz;have hv:=World.var?_cell gTw hvar m;rw[hv,hs,hz];simp only[Array.getElem?_toList]at a0;rw[a0]
theorem isData:(Rows.laid_loop_example_s0023_impl_itemShapes:DataW Unit)=.agg (Zo.map fun x=>.agg [.lit (.bool x.n),.lit (.bool x.e),.lit (.bool x.f),.lit (.int .i64 x.k),.lit (.int .i64 x.lo),.lit (.int .i64 x.hi)]):=by kernel_rfl
theorem gIs:Tryz.prog.globalNamed "loop.example/s0023/impl.itemShapes"=some 1:=by kernel_rfl
theorem QB:(Tryz.prog.globals[1]?).map (·.type)=some 125:=by kernel_rfl
theorem cIsT:Tryz.prog.cellsOf 125=10*6:=by kernel_rfl
theorem cIs:Tryz.prog.cellsOf 124=6:=by kernel_rfl
theorem cBo:Tryz.prog.cellsOf 4=1:=by kernel_rfl
theorem cIn:Tryz.prog.cellsOf 3=1:=by kernel_rfl
theorem tabS {W:World} {rest:List (String×DataW Unit)} (h:laidMet Tryz.prog (("loop.example/s0023/impl.itemShapes",Rows.laid_loop_example_s0023_impl_itemShapes)::rest) W):VL W:=by
 obtain⟨ps,⟨g',t',cs,fuel,p,q,hg',ht',hvar,hd,_,_⟩,_⟩:=h;obtain rfl:=Option.some.inj (gIs.symm.trans hg');obtain rfl:=Option.some.inj (QB.symm.trans ht');rw[isData]at hd;intro m hm;obtain⟨z0,z1,z2,z3,z4,z5,a0,a1,a2,a3,a4,a5,hz⟩:=rows6 Tryz.underlying125 Tryz.underlying124 Tryz.underlying4 Tryz.underlying3 ⟨rfl,rfl⟩ ⟨rfl,rfl⟩ ⟨rfl,rfl⟩ ⟨rfl,rfl⟩ ⟨rfl,rfl⟩ ⟨rfl,rfl⟩ cBo cIn cIs cIsT hd m hm;have hl:m<Zo.length:=hm;have hs:sh m=Zo[m]:=by unfold sh;simp[List.getD,hl]
 rw[List.getElem?_map,List.getElem?_eq_getElem hl]at hz;simp only[Option.map_some,Option.some.injEq,DataW.agg.injEq,List.cons.injEq,DataW.lit.injEq,Lit.int.injEq,Lit.bool.injEq,true_and,and_true]at hz;obtain⟨q0,q1,q2,q3,q4,q5⟩:=hz;have hv:=fun i=>World.var?_cell gIs hvar i
 simp only[Array.getElem?_toList]at a0 a1 a2 a3 a4 a5;rw[hv,hv,hv,hv,hv,hv,hs,q0,q1,q2,q3,q4,q5];exact⟨a0,a1,a2,a3,a4,a5⟩
theorem gOv:Tryz.prog.globalNamed "loop.example/s0023/impl.opValMax"=some 2:=by kernel_rfl
theorem QA:(Tryz.prog.globals[2]?).map (·.type)=some 187:=by kernel_rfl
theorem cOvT:Tryz.prog.cellsOf 187=11:=by kernel_rfl
theorem cI64:Tryz.prog.cellsOf 2=1:=by kernel_rfl
theorem ovIs:(Rows.laid_loop_example_s0023_impl_opValMax:DataW Unit)=Lib.tabData .i64 [0,999999999,0,12,15,15,1,0,0,7,2]:=by kernel_rfl
theorem tabO {W:World} {rest:List (String×DataW Unit)} (h:laidMet Tryz.prog (("loop.example/s0023/impl.opValMax",Rows.laid_loop_example_s0023_impl_opValMax)::rest) W):Uk W:=by
 rw[ovIs]at h;have ht:=Lib.tabIs_of_head gOv QA Tryz.underlying187 Tryz.underlying2 cI64 cOvT h;intro m hm;rw[ht.cell gOv m hm];have:m=0∨m=1∨m=2∨m=3∨m=4∨m=5∨m=6∨m=7∨m=8∨m=9∨m=10:=by omega
 rcases this with rfl|rfl|rfl|rfl|rfl|rfl|rfl|rfl|rfl|rfl|rfl<;>rfl
theorem gBs:Tryz.prog.globalNamed "loop.example/s0023/impl.binStrengths"=some 3:=by kernel_rfl
theorem QC:(Tryz.prog.globals[3]?).map (·.type)=some 201:=by kernel_rfl
theorem cBsT:Tryz.prog.cellsOf 201=8:=by kernel_rfl
theorem bsIs:(Rows.laid_loop_example_s0023_impl_binStrengths:DataW Unit)=Lib.tabData .i64 [5,4,4,3,3,3,2,1]:=by kernel_rfl
theorem tabB {W:World} {rest:List (String×DataW Unit)} (h:laidMet Tryz.prog (("loop.example/s0023/impl.binStrengths",Rows.laid_loop_example_s0023_impl_binStrengths)::rest) W):ZT W:=by
 rw[bsIs]at h;have ht:=Lib.tabIs_of_head gBs QC Tryz.underlying201 Tryz.underlying3 cIn cBsT h;intro m hm;rw[ht.cell gBs m hm];have:m=0∨m=1∨m=2∨m=3∨m=4∨m=5∨m=6∨m=7:=by omega
 rcases this with rfl|rfl|rfl|rfl|rfl|rfl|rfl|rfl<;>rfl
theorem gTab:Tryz.prog.globalNamed "internal/strconv.uint64pow10"=some 4:=by kernel_rfl
theorem SR:(Tryz.prog.globals[4]?).map (·.type)=some 204:=by kernel_rfl
theorem SZ:Tryz.prog.cellsOf 204=20:=by kernel_rfl
theorem SY:Tryz.prog.cellsOf 176=1:=by kernel_rfl
theorem tabIs:(Rows.laid_internal_strconv_uint64pow10:DataW Unit)=Lib.tabData .u64 Lib.pow10Tab:=by kernel_rfl
theorem tables {W:World} (h:laidMet Tryz.prog Rows.fnPrintParseRow.laid W):Tbs W:=by
 have h0:laidMet Tryz.prog [("math/bits.deBruijn32tab",Rows.laid_math_bits_deBruijn32tab),("math/bits.deBruijn64tab",Rows.laid_math_bits_deBruijn64tab),("internal/strconv.uint64pow10",Rows.laid_internal_strconv_uint64pow10),("loop.example/s0023/impl.tokenWords",Rows.laid_loop_example_s0023_impl_tokenWords),("loop.example/s0023/impl.binStrengths",Rows.laid_loop_example_s0023_impl_binStrengths),("loop.example/s0023/impl.opValMax",Rows.laid_loop_example_s0023_impl_opValMax),("loop.example/s0023/impl.itemShapes",Rows.laid_loop_example_s0023_impl_itemShapes)] W:=h;have h2:=h0.tail.tail;have h3:=h2.tail;have h4:=h3.tail;have h5:=h4.tail;have h6:=h5.tail;refine⟨⟨tabW h3,tabO h5,tabB h4⟩,tabS h6,?_⟩;rw[tabIs]at h2;exact Lib.tabIs_of_head gTab SR Tryz.underlying204 Tryz.underlying176 SY SZ h2
end Go.Proofs.YtbkajklninmhiaaGreatDoor.Pa
namespace Go.Proofs.YtbkajklninmhiaaGreatDoor.RowV
open Go.ChangeShapes Go.WideShapes Go.ChangeAt Go.RowKit
def QT (P:Program) (n:String):Bool:=
 match P.globalNamed n with
 |none=>true
 |some g=>match (P.globals[g]?).map (·.type)with
  |none=>true
  |some t=>P.readableRec t&&decide (t<P.types.size)
theorem var_lt {P:Program} {W:World} {n:String} {g:Nat} {cs:Array Value} (hg:P.globalNamed n=some g) (hv:W.var? P n=some cs):g<W.heap.size:=by
 unfold World.var? at hv;simp only[hg,Option.bind_some]at hv
 split at hv
 ·rename_i h;exact(Array.getElem?_eq_some_iff.1 h).1
 ·cases hv
theorem vars_stay {H:Type} {enc:TypeId×Value→H} {P:Program} (hl:laidOutB P=true) {W W':World} (hb:Below W.heap.size W W'):∀{ns:List String} {gs:List (DataW H)} {q:List MemPlace},DataW.TrodVars enc P W (fun _=>true) ns gs q→ns.all (QT P)=true→DataW.TrodVars enc P W' (fun b=>decide (b<W.heap.size)) ns gs q
 |[],[],q,h,_=>h
 |[],_::_,q,h,_=>by simp[DataW.TrodVars]at h
 |_::_,[],q,h,_=>by simp[DataW.TrodVars]at h
 |n::ns,d::ds,q,h,ha=>by
  obtain⟨g,t,cs,fuel,p,q',h1,h2,h3,h4,h5,h6⟩:=h;rw[List.all_cons,Bool.and_eq_true]at ha;have ok:=ha.1;unfold QT at ok;rw[h1]at ok;simp only[h2,Bool.and_eq_true,decide_eq_true_eq]at ok;have hlt:=DataW.trod_lt fuel _ _ _ h4;refine⟨g,t,cs,fuel,p,q',h1,h2,var?_below hb h1 (var_lt h1 h3) h3,?_,vars_stay hl hb h5 ha.2,h6⟩;exact DataW.trod_stays (Go.kids_book hl ok.1) (Go.book_sized ok.1) (fun h=>by cases h) ⟨ok.2,Go.book_self t⟩ h4 (fun x hx=>hb.same (hlt x hx)) (fun x hx=>by simpa using hlt x hx)
theorem vars_len {H:Type} {enc:TypeId×Value→H} {P:Program} {W:World} {sp:Nat→Bool}:∀{ns:List String} {gs:List (DataW H)} {q:List MemPlace},DataW.TrodVars enc P W sp ns gs q→gs.length=ns.length
 |[],[],q,h=>rfl
 |[],_::_,q,h=>by simp[DataW.TrodVars]at h
 |_::_,[],q,h=>by simp[DataW.TrodVars]at h
 |n::ns,d::ds,q,h=>by
  obtain⟨g,t,cs,fuel,p,q',h1,h2,h3,h4,h5,h6⟩:=h;simp[vars_len h5]
end Go.Proofs.YtbkajklninmhiaaGreatDoor.RowV
namespace Go.Proofs.YtbkajklninmhiaaGreatDoor.fnPrintParse
open Go.ChangeShapes Go.WideShapes Go.ChangeAt Go.RowKit
theorem own:ownKnob Tryz.prog.godebug=none:=by kernel_rfl
theorem laidOut:laidOutB Tryz.prog=true:=by kernel_rfl
theorem cellsB:Tryz.prog.cellsOf 5=1:=by kernel_rfl
theorem S0 {H:Type} {enc:TypeId×Value→H} {W:World} {base:Nat} {v:Value} {d:DataW H} {p:List MemPlace} (hval:Value.okWide Tryz.prog W .any base 22 v) (h:DataW.Trod enc Tryz.prog W 0 (fun _=>true) true 22 v d p):
  ∃(a:Option Addr) (t:List UInt8) (n c:Nat),v=.slice a n c∧n=t.length∧Parse.Txt W.heap.size W (.slice a n c) t:=by
 obtain⟨a1,len,cap,rfl⟩:=okWide_slice Tryz.underlying22 hval;obtain⟨fuel,hf⟩:=h;rcases open_ints Tryz.underlying22 Tryz.underlying5 cellsB hf with⟨hcs,-⟩|⟨a,len',cap',zs,hcs,_,hl,hm,hz,-,hcell,hwz⟩
 ·simp[Value.cells]at hcs
  obtain⟨rfl,rfl,rfl⟩:=hcs;exact⟨none,[],0,0,rfl,rfl,none,0,rfl,qp _,Or.inl ⟨rfl,rfl⟩⟩
 ·simp[Value.cells]at hcs
  obtain⟨rfl,rfl,rfl⟩:=hcs;simp only[if_true]at hz;have hlen:((zs.take len).map fun n=>UInt8.ofNat n.toNat).length=len:=by simp;omega
  obtain⟨ab,ao,spot⟩:=a
  have hspot:spot=none:=by
   simp only[Value.okWide,Tryz.underlying22,Cell.okWide,Cell.ok]at hval;simp[World.has]at hval
   first|exact hval.2.1|(simp_all;done)
  subst hspot
  ·refine⟨some ⟨ab,ao,none⟩,(zs.take len).map fun n=>UInt8.ofNat n.toNat,len,cap,rfl,hlen.symm,some ⟨ab,ao,none⟩,cap,by rw[hlen],by rw[hlen];exact hl,Or.inr ⟨ab,ao,rfl,fun j hj=>?_⟩⟩
   rw[hlen]at hj;have hcj:=hcell j (by omega);rw[Addr.add_lit]at hcj;refine⟨Mem.lt_of_cell hcj,?_⟩;rw[hcj];have hr:=range_u8 hwz j;have hjz:j<zs.length:=by omega
   simp only[List.getElem_map,List.getElem_take];have e:zs.getD j 0=zs[j]:=by simp[List.getD,hjz]
   have hr':0≤zs[j]∧zs[j]≤255:=by simpa[hjz]using hr
   rw[e];generalize zs[j]=z at hr';have hz:(z.toNat:Int)=z:=Int.toNat_of_nonneg hr'.1;have hm:z.toNat % 256=z.toNat:=Nat.mod_eq_of_lt (by omega);simp[hm,hz]
theorem SW (H:Type) (enc:TypeId×Value→H) (W:World) (base:Nat) (args:Array Value) (ds gs:List (DataW H)) (before:List MemPlace)
  (hval:∀(j:Nat) t v,Tryz.f3.params[j]? =some t→args[j]? =some v→Value.okWide Tryz.prog W .any base t v)
  (hW:DataW.Whole enc Tryz.prog Tryz.f3.params.toList Rows.fnPrintParseSpec.vars false W args.toList ds gs before) (hL:laidMetH Tryz.prog Rows.fnPrintParseRow.laid W):
  Calls Tryz.prog 3 args W fun e W'=>∃v,e=.returned v∧Rows.fnPrintParseSpec.post enc Tryz.prog Tryz.f3 false true false false W args v W':=by
 have hW':=hW;obtain⟨p,q,hA0,hV,rfl,hfz,hnd⟩:=hW;have hA:DataW.TrodAll enc Tryz.prog W 0 (fun _=>true) true Tryz.f3.params.toList args.toList ds p:=hA0;rw[Tryz.params3]at hA hval;obtain⟨v0,vs0,d0,ds0,p0,q0,hargs,rfl,rfl,h0,r0⟩:=trodAll_cons hA;obtain⟨rfl,rfl,rfl⟩:=trodAll_nil r0;obtain rfl:args=#[v0]:=by cases args;simp_all
 obtain⟨g1,g2,g3,g4,hgs⟩:∃g1 g2 g3 g4,gs=[g1,g2,g3,g4]:=by
  match gs,RowV.vars_len hV with
  |[g1,g2,g3,g4],_=>exact⟨g1,g2,g3,g4,rfl⟩
 subst hgs;have k0:=h0;have lt0:∀x∈p0,x.block<W.heap.size:=by obtain⟨m,hm⟩:=k0;exact DataW.trod_lt m _ _ _ hm
 obtain⟨a,t,n,c,rfl,hn,hr⟩:=S0 (hval 0 22 v0 rfl rfl) h0;clear hA0;refine(Pa.lawPR a t n c W hn hr (Pa.tables hL)).mono fun e W' ⟨he,bel⟩=>?_
 subst he;exact⟨_,rfl,_,_,_,[],_,_,hW',trodAll_mk1 (shut_bool Tryz.underlying4 _),(trodAll_cons_mk (Below.trod laidOut (by kernel_rfl) (of_decide_eq_true (by kernel_rfl)) k0 bel lt0) trodAll_mk0),RowV.vars_stay laidOut bel hV (by kernel_rfl),bel.frame _,fun h=>by cases h⟩
def Sv:DataW Unit→Value
 |.lit (.int k z)=>Value.int k z
 |.lit (.bool b)=>Value.bool b
 |.lit (.string l)=>Value.string ⟨l.toArray⟩
 |_=>Value.bool false
def Zb:DataW Unit→Array Value
 |.agg l=>(l.flatMap fun
  |.agg m=>m.map Sv
  |d=>[Sv d]).toArray
 |_=>#[]
def VS (h:Array Obj) (i:Nat) (c:Array Value):Array Obj:=h.modify i fun
 |.cells _ t frozen=>.cells c t frozen
 |o=>o
noncomputable def YT (os:Os):World:=
 {World.holding Tryz.prog os ⟨#[],#[],[]⟩with heap:=(VS (VS (VS (VS (VS (VS (VS (World.holding Tryz.prog os ⟨#[],#[],[]⟩).heap 5 (Zb Rows.laid_math_bits_deBruijn32tab)) 6 (Zb Rows.laid_math_bits_deBruijn64tab)) 4 (Zb Rows.laid_internal_strconv_uint64pow10)) 0 (Zb Rows.laid_loop_example_s0023_impl_tokenWords)) 3 (Zb Rows.laid_loop_example_s0023_impl_binStrengths)) 2 (Zb Rows.laid_loop_example_s0023_impl_opValMax)) 1 (Zb Rows.laid_loop_example_s0023_impl_itemShapes))}
theorem Sy (os:Os):laidMet Tryz.prog Rows.fnPrintParseRow.laid ((YT os).forCall (fun _ _=>0) ⟨#[],#[.slice none 0 0],[]⟩).memory:=
 laidMet_of_run' 8 (by kernel_rfl) (by kernel_rfl)
theorem reads (os:Os) {H:Type} (enc:TypeId×Value→H):∃x,DataW.whole enc Tryz.prog ((YT os).forCall (fun _ _=>0) ⟨#[],#[.slice none 0 0],[]⟩).memory Tryz.f3.params.toList Rows.fnPrintParseSpec.vars false #[Value.slice none 0 0].toList 8=some x:=
 Option.isSome_iff_exists.1 (by kernel_rfl)
theorem lifted (os:Os) (started:os.Started) (H:Type) (enc:TypeId×Value→H) (F:Stop.Interp):
  ReturnsInHanded {} Tryz.checked os 3 .any ((OpenSpec.ofChange Rows.fnPrintParseSpec).preRow enc Tryz.prog Tryz.f3 Rows.fnPrintParseRow.domain false Rows.fnPrintParseRow.laid) (((OpenSpec.ofChange Rows.fnPrintParseSpec).at F).post enc Tryz.prog Tryz.f3 false true false false):=by
 obtain⟨x,hx⟩:=reads os enc
 refine returnsInHanded_of_row (C:=Tryz.checked) (s:=OpenSpec.ofChange Rows.fnPrintParseSpec) own started (by kernel_rfl) Tryz.func3
  (witness_row_at (enc:=enc) (C:=Tryz.checked) false (YT os) #[.slice none 0 0] rfl (by kernel_rfl) (by kernel_rfl) (by kernel_rfl)
   (OpenSpec.preRow_of_cond 8 hx (by kernel_rfl) (fun k hk=>by cases hk) (by kernel_rfl) (Sy os))) ?_
 intro W base args ds gs before hval hW _ _ _ hL _ _;exact SW H enc W base args ds gs before hval hW hL
theorem said:Rows.FnPrintParseSaid:=
 OpenClaim.holds_of_cond 3 Tryz.f3 rfl rfl rfl rfl rfl rfl rfl ⟨rfl,rfl,rfl,rfl,rfl⟩ rfl rfl rfl rfl rfl (by kernel_rfl) Tryz.func3 (by kernel_rfl)
  (of_decide_eq_true (by kernel_rfl)) (by unfold Func.isWrapper;first|(rw[if_pos (by decide+kernel)];kernel_rfl)|(rw[if_neg (by decide+kernel)];exact⟨rfl,rfl⟩))
  (fun os started H enc _ F=>by rw[OpenClaim.pre_eq_preRow];exact lifted os started H enc F)
theorem plain (f:FuncId) (fn:Func) (hf:Tryz.pinned.checked.prog.funcNamed "loop.example/s0023/laws.FnPrintParse"=some f) (hfn:Tryz.pinned.checked.prog.funcs[f]? =some fn):
  true=Tryz.pinned.checked.prog.looks []∧∀(j:Nat) t,fn.params[j]? =some t→Tryz.pinned.checked.prog.wantsStandIn t=false:=by
 obtain rfl:f=3:=Option.some.inj ((show Tryz.prog.funcNamed "loop.example/s0023/laws.FnPrintParse"=some 3 by kernel_rfl).symm.trans hf) |>.symm;obtain rfl:fn=Tryz.f3:=(Option.some.inj (Tryz.func3.symm.trans hfn)).symm;refine⟨by kernel_rfl,fun j t ht=>?_⟩;rw[Tryz.params3]at ht;obtain rfl:t=22:=by simpa using Array.mem_of_getElem? ht
 exact(show Tryz.prog.wantsStandIn 22=false by kernel_rfl)
end Go.Proofs.YtbkajklninmhiaaGreatDoor.fnPrintParse
namespace Go.Proofs.YtbkajklninmhiaaGreatDoor
theorem fnPrintParse_card:Rows.FnPrintParseCardSaid:=
 Claim7.holds_tied_plain_at .later [] _ _ _ _ fnPrintParse.said (fun _ h=>by cases h) (by kernel_rfl) (fun _ h=>by cases h) fnPrintParse_row_tie rfl ⟨rfl,rfl⟩ (by kernel_rfl) rfl fnPrintParse.plain (by kernel_rfl)
#print axioms fnPrintParse_card
end Go.Proofs.YtbkajklninmhiaaGreatDoor
