import Derived.Test.YtbdldkpifanaiaaDoorCr47
import Derived.Test.YtbdldkpifanaiaaDoorCr49
import Derived.Test.YtbdldkpifanaiaaDoorRows
import Derived.Lib.LaidTab
import Derived.LaidLaws
import Derived.ChangeArms
import Derived.ProofKit
import Derived.OpenShut
import Derived.ChangeOld
import Derived.ChangeVars
import Derived.WideKeyArgs
import Derived.Carry
import Derived.Test.YtbdldkpifanaiaaDoorCards
import Derived.Test.YtbdldkpifanaiaaDoorTie
import Derived.ShutString
import Derived.ChangeSlices
import Derived.Deep.DeepHandedRow
import Derived.Stop.LaidErr
set_option maxHeartbeats 8000000
set_option maxRecDepth 1000000
set_option linter.unusedVariables false
set_option linter.unusedSimpArgs false
open List renaming getElem_cons_succ → qd, getElem_cons_zero → qe
open Nat renaming le_refl → qn, lt_of_lt_of_le → qp
namespace Go.Proofs.YtbdldkpifanaiaaDoor.Cd
open Go Go.RowKit Mem ValC Enc Dec
attribute [local go_sem ↓] Go.wp_at_zero Go.wp_at_succ
inductive DcR (w w':World) (d:Dc) (e:Ending):Prop
 |mk (a1 a2 a3:Option Addr) (c1 c2 c3:Nat) (he:e=.returned (.agg #[.int .i64 d.R,.int .i64 d.S,.slice a1 d.L1.length c1,.slice a2 d.L2.length c2,.slice a3 d.L3.length c3])) (co:Zl w' a1 a2 a3 d.co) (q1:∀b,a1=some b→b.block<w'.heap.size) (q2:∀b,a2=some b→b.block<w'.heap.size) (q3:∀b,a3=some b→b.block<w'.heap.size) (hb:Below w.heap.size w w'):DcR w w' d e
theorem ZS {B n c:Nat} {w:World} {a:Option Addr} {L:List Is} (h:OI B w (.slice a n c) L):∀b,a=some b→b.block<w.heap.size:=fun b hb=>by subst hb;exact(h.lt b.block rfl).2
theorem UE {w w':World} {k:Kd} {e:Ending} (h:CodeR w w' k e):DcR w w' k.dc e:=by
 obtain⟨a1,a2,a3,c1,c2,c3,rfl,o1,o2,o3,hb⟩:=h;exact .mk a1 a2 a3 c1 c2 c3 rfl (WU o1 o2 o3) (ZS o1) (ZS o2) (ZS o3) hb
theorem Xu {w w':World} {bs:List UInt8} {d:Dc} {e:Ending} (h:DecP w w' bs e) (hd:yq bs=d):DcR w w' d e:=by
 obtain⟨a1,a2,a3,c1,c2,c3,rfl,B1,B2,-,-,-,o1,o2,o3,-,-,-,hb⟩:=h;subst hd;exact .mk a1 a2 a3 c1 c2 c3 rfl ⟨OI.at o1,OI.at o2,OI.at o3⟩ (ZS (L:=(yq bs).L1) o1) (ZS (L:=(yq bs).L2) o2) (ZS (L:=(yq bs).L3) o3) hb
theorem dec_or (bs:List UInt8) (h:yD (yq bs).co=false):yq bs=zc:=by
 by_cases hx:∃d,Shape bs d∧yD d.co=true
 ·obtain⟨d,h1,h2⟩:=hx
  rw[yV h1 h2,h2]at h
  cases h
 ·unfold yq
  rw[dif_neg hx]
theorem Vo (bs:List UInt8):(yq bs).L1.length≤16384∧(yq bs).L2.length≤16384∧(yq bs).L3.length≤16384:=by
 by_cases hx:∃d,Shape bs d∧yD d.co=true
 ·obtain⟨d,h1,h2⟩:=hx
  rw[yV h1 h2];exact h1.2
 ·have:yq bs=zc:=by unfold yq;rw[dif_neg hx]
  rw[this];simp[zc]
theorem lawCodec (a b:Option Addr) (t u:List UInt8) (n c m d:Nat) (w:World) (hn:n=t.length) (hm:m=u.length) (ht:Parse.Txt w.heap.size w (.slice a n c) t) (hu:Parse.Txt w.heap.size w (.slice b m d) u) (hT:YU w):
  Calls Tryd.prog 3 #[.slice a n c,.slice b m d] w fun e w'=>e=.returned (.bool true)∧Below w.heap.size w w':=by
 have HT:=Hm hT;clear hT;by_cases hbig:1048576<n
 ·have hb':(1048576:Int)<(n:Int):=by omega
  go_enter Tryd.func3,Tryd.ntmps3;go_wp2;go_ret;exact⟨rfl,Below.refl _ _⟩
 have hb1:decide ((1048576:Int)<(n:Int))=false:=by simp;omega
 by_cases hbig2:1048576<m
 ·have hb':(1048576:Int)<(m:Int):=by omega
  go_enter Tryd.func3,Tryd.ntmps3;go_wp2;go_ret;exact⟨rfl,Below.refl _ _⟩
 have hb2:decide ((1048576:Int)<(m:Int))=false:=by simp;omega
 obtain⟨K,hK⟩:∃K:Dc,K=(WT t).dc:=⟨_,rfl⟩;have hKl:K.L1.length≤1048576∧K.L2.length≤1048576∧K.L3.length≤1048576:=by rw[hK];exact XW _ _
 have DE:Hid (∀w',Below w.heap.size w w'→Calls Tryd.prog 4 #[.slice a n c] w' fun e w''=>DcR w' w'' K e):=fun w' h=>(Uw _ w' h.size (ht.below h) (by omega)).mono fun e w'' h=>by rw[hK];exact UE h
 obtain⟨r,hr⟩:∃r,r=ZY u:=⟨_,rfl⟩;have hrl:r.length≤1048576:=by rw[hr];exact Wu u
 have DD:Hid (∀w',Below w.heap.size w w'→Calls Tryd.prog 9 #[.slice b m d] w' fun e w''=>TxR w' w'' r e):=fun w' h=>by rw[hr];exact Ux _ w' h.size (hu.below h) (by omega)
 clear hr hK ht hu hn hm;go_enter Tryd.func3,Tryd.ntmps3;go_wp2_with (go_at_call 4;refine(DE.out w (Below.refl _ _)).mono ?_);rintro e w1 ⟨a1,a2,a3,c1,c2,c3,rfl,co1,q1,q2,q3,hb⟩;obtain⟨W1,hW1⟩:∃W,W=w1.alloc (.cells #[.int .i64 K.R,.int .i64 K.S,.slice a1 K.L1.length c1,.slice a2 K.L2.length c2,.slice a3 K.L3.length c3] 25):=⟨_,rfl⟩;have bn:Below w1.heap.size w1 W1:=by rw[hW1];exact zf (Below.refl _ _) _
 have X1:Hid (W1.heap[w1.heap.size]? =some (.cells #[.int .i64 K.R,.int .i64 K.S,.slice a1 K.L1.length c1,.slice a2 K.L2.length c2,.slice a3 K.L3.length c3] 25)):=by unfold Hid;rw[hW1];exact zi _ _
 have B1:=Hm (zg hb bn);have CO:=Hm (co1.below bn);have Q1:Hid ((∀b,a1=some b→b.block<W1.heap.size)∧(∀b,a2=some b→b.block<W1.heap.size)∧(∀b,a3=some b→b.block<W1.heap.size)):=⟨fun x h=>qp (q1 x h) bn.size,fun x h=>qp (q2 x h) bn.size,fun x h=>qp (q3 x h) bn.size⟩;clear hb co1 q1 q2 q3 bn;obtain⟨n1,hn1⟩:∃n,n=K.L1.length:=⟨_,rfl⟩;obtain⟨n2,hn2⟩:∃n,n=K.L2.length:=⟨_,rfl⟩;obtain⟨n3,hn3⟩:∃n,n=K.L3.length:=⟨_,rfl⟩;obtain⟨hK1,hK2,hK3⟩:=hKl;rw[←hn1]at X1 hW1 hK1 ⊢;rw[←hn2]at X1 hW1 hK2 ⊢;rw[←hn3]at X1 hW1 hK3 ⊢;have HN:=Hm (And.intro hn1 (And.intro hn2 hn3))
 have VS:Hid (∀w',Below W1.heap.size W1 w'→Calls Tryd.prog 5 #[.agg #[.int .i64 K.R,.int .i64 K.S,.slice a1 n1 c1,.slice a2 n2 c2,.slice a3 n3 c3]] w' fun e w''=>e=.returned (.bool (yD K.co))∧Below w'.heap.size w' w''):=fun w' h=>by
  rw[hn1,hn2,hn3];exact ValCS.validS a1 a2 a3 c1 c2 c3 K.co w' (CO.out.below h) (by show K.L1.length≤_;omega) (by show K.L2.length≤_;omega) (by show K.L3.length≤_;omega)
 have EI:Hid (∀w',Below W1.heap.size W1 w'→Calls Tryd.prog 8 #[.agg #[.int .i64 K.R,.int .i64 K.S,.slice a1 n1 c1,.slice a2 n2 c2,.slice a3 n3 c3]] w' fun e w''=>∃v,e=.returned v∧Own (w'.heap.size+1) w'' v (answer K.co)∧Below w'.heap.size w' w''):=fun w' h=>by
  rw[hn1,hn2,hn3];exact WR a1 a2 a3 c1 c2 c3 K.co w' (CO.out.below h) (by show K.L1.length≤_;omega) (by show K.L2.length≤_;omega) (by show K.L3.length≤_;omega) (fun b hb=>qp (Q1.out.1 b hb) h.size) (fun b hb=>qp (Q1.out.2.1 b hb) h.size) (fun b hb=>qp (Q1.out.2.2 b hb) h.size) (HT.out.below (zg B1.out h))
 clear hn1 hn2 hn3 CO Q1;go_upto_region 4 with fail;rw[←hW1];clear hW1;go_cut [28] (fun v wx=>v=.bool false∧Hid (Below w.heap.size w wx))
 case first=>
  have e0:=cl0 X1.out;have e1:=cl1 X1.out;have e2:=cl2 X1.out;have e3:=cl3 X1.out;have e4:=cl4 X1.out;go_wp2_with (go_at_call 5;refine(VS.out _ (Below.refl _ _)).mono ?_);clear e0 e1 e2 e3 e4;rintro e w2 ⟨rfl,hb⟩;have B2:=Hm (zg B1.out hb);have H12:=Hm hb;have X2:=Hm (ze X1.out hb);clear hb VS X1 B1
  cases hv:yD K.co with
  |false=>
   go_wp2_with fail;go_meet;exact⟨rfl,B2.out⟩
  |true=>
   have HV:=Hm hv;have HE:Hid (yq (answer K.co)=K):=Tp K hv (small_nums (good_co hv)) (by have:=(good_co hv).b1.len;exact this) (by have:=(good_co hv).b2.len;exact this) (by have:=(good_co hv).b3.len;exact this);clear hv;have e0:=cl0 X2.out;have e1:=cl1 X2.out;have e2:=cl2 X2.out;have e3:=cl3 X2.out;have e4:=cl4 X2.out;go_wp2_with (go_at_call 8;refine(EI.out _ H12.out).mono ?_);clear e0 e1 e2 e3 e4;rintro e w3 ⟨v,rfl,ho,hb⟩;have B3:=Hm (zg B2.out hb);obtain⟨az,cz,hv,hz1,hz2,hz3⟩:=xX ho;subst hv;obtain⟨nz,hnz⟩:∃n,n=(answer K.co).length:=⟨_,rfl⟩;have hzl:nz≤1000000:=by rw[hnz];exact Xy _
   rw[←hnz]at hz2 ⊢;have DI:=Hm (WS (answer K.co) nz az cz w3 hnz hz1 hz2 (by omega) hz3 (HT.out.below B3.out));clear hnz hz1 hz2 hz3 ho hb H12 X2 B2 EI;go_wp2_with (go_at_call 7;refine DI.out.mono ?_);intro e w4 hdp;obtain⟨d1,d2,d3,f1,f2,f3,rfl,co4,-,-,-,hb4⟩:=Xu hdp HE.out;have B4:=Hm (zg B3.out hb4);have CO4:=Hm co4;clear hdp co4 hb4 DI B3;rw[←HN.out.1,←HN.out.2.1,←HN.out.2.2];go_wp2_with (go_at_call 4;refine(DE.out _ B4.out).mono ?_);rintro e w5 ⟨g1,g2,g3,i1,i2,i3,rfl,co5,-,-,-,hb5⟩;have B5:=Hm (zg B4.out hb5);have CO45:=Hm (CO4.out.below hb5);have CO5:=Hm co5;clear co5 hb5 B4 CO4
   have LW:=Hm (Tb d1 d2 d3 g1 g2 g3 f1 f2 f3 i1 i2 i3 K.co w5 CO45.out CO5.out (by show K.L1.length≤_;rw[←HN.out.1];exact hK1) (by show K.L2.length≤_;rw[←HN.out.2.1];exact hK2) (by show K.L3.length≤_;rw[←HN.out.2.2];exact hK3));rw[show K.co.n1=n1 from HN.out.1.symm,show K.co.n2=n2 from HN.out.2.1.symm,show K.co.n3=n3 from HN.out.2.2.symm,show K.co.R=K.R from rfl,show K.co.S=K.S from rfl]at LW;rw[←HN.out.1,←HN.out.2.1,←HN.out.2.2];go_wp2_with (go_at_call 6;refine LW.out.mono ?_);rintro e w6 ⟨rfl,hb6⟩;have B6:=Hm (zg B5.out hb6);clear hb6 B5;go_wp2_with fail;go_meet;exact⟨rfl,B6.out⟩
 case rest=>
  obtain⟨rfl,B2⟩:=hcut;clear VS EI DE X1 B1 HN hK1 hK2 hK3;obtain⟨nr,hnr⟩:∃n,Hid (n=r.length):=⟨_,rfl⟩;go_wp2_with (go_at_call 9;refine(DD.out _ B2.out).mono ?_);rintro e w3 ⟨az,cz,rfl,hz1,hz2,hz3,hb⟩;have B3:=Hm (zg B2.out hb);have R3:=Hm hz1;rw[←hnr.out]at hz2 hrl ⊢;have DI:=Hm (WS r nr az cz w3 hnr.out hz1 hz2 hrl hz3 (HT.out.below B3.out));clear hz1 hz2 hz3 hb B2;go_wp2_with (go_at_call 7;refine DI.out.mono ?_);intro e w4 hdp;obtain⟨x,hx⟩:∃x,x=yq r:=⟨_,rfl⟩;obtain⟨d1,d2,d3,f1,f2,f3,rfl,co4,q1,q2,q3,hb4⟩:=Xu hdp hx.symm;have hxl:x.L1.length≤16384∧x.L2.length≤16384∧x.L3.length≤16384:=by rw[hx];exact Vo r
  have B4:=Hm (zg B3.out hb4);obtain⟨W4,hW4⟩:∃W,W=w4.alloc (.cells #[.int .i64 x.R,.int .i64 x.S,.slice d1 x.L1.length f1,.slice d2 x.L2.length f2,.slice d3 x.L3.length f3] 25):=⟨_,rfl⟩;have bn:Below w4.heap.size w4 W4:=by rw[hW4];exact zf (Below.refl _ _) _
  have X4:Hid (W4.heap[w4.heap.size]? =some (.cells #[.int .i64 x.R,.int .i64 x.S,.slice d1 x.L1.length f1,.slice d2 x.L2.length f2,.slice d3 x.L3.length f3] 25)):=by unfold Hid;rw[hW4];exact zi _ _
  have B4:=Hm (zg B4.out bn);have CO4:=Hm (co4.below bn);have Q4:Hid ((∀b,d1=some b→b.block<W4.heap.size)∧(∀b,d2=some b→b.block<W4.heap.size)∧(∀b,d3=some b→b.block<W4.heap.size)):=⟨fun x h=>qp (q1 x h) bn.size,fun x h=>qp (q2 x h) bn.size,fun x h=>qp (q3 x h) bn.size⟩;have HX:=Hm hx;clear hx hdp co4 q1 q2 q3 hb4 bn DI B3 R3;obtain⟨m1,hm1⟩:∃n,n=x.L1.length:=⟨_,rfl⟩;obtain⟨m2,hm2⟩:∃n,n=x.L2.length:=⟨_,rfl⟩;obtain⟨m3,hm3⟩:∃n,n=x.L3.length:=⟨_,rfl⟩;obtain⟨hx1,hx2,hx3⟩:=hxl;rw[←hm1]at X4 hW4 hx1 ⊢;rw[←hm2]at X4 hW4 hx2 ⊢;rw[←hm3]at X4 hW4 hx3 ⊢;have HM:=Hm (And.intro hm1 (And.intro hm2 hm3))
  have EI:Hid (∀w',Below W4.heap.size W4 w'→Calls Tryd.prog 8 #[.agg #[.int .i64 x.R,.int .i64 x.S,.slice d1 m1 f1,.slice d2 m2 f2,.slice d3 m3 f3]] w' fun e w''=>∃v,e=.returned v∧Own (w'.heap.size+1) w'' v (answer x.co)∧Below w'.heap.size w' w''):=fun w' h=>by
   rw[hm1,hm2,hm3];exact WR d1 d2 d3 f1 f2 f3 x.co w' (CO4.out.below h) (by show x.L1.length≤_;omega) (by show x.L2.length≤_;omega) (by show x.L3.length≤_;omega) (fun b hb=>qp (Q4.out.1 b hb) h.size) (fun b hb=>qp (Q4.out.2.1 b hb) h.size) (fun b hb=>qp (Q4.out.2.2 b hb) h.size) (HT.out.below (zg B4.out h))
  clear CO4 Q4 hm1 hm2 hm3;go_upto_region 8 with fail;rw[←hW4];clear hW4;go_wp2_with (go_at_call 9;refine(DD.out _ B4.out).mono ?_);rintro e w5 ⟨ay,cy,rfl,hy1,hy2,hy3,hb⟩;have B5:=Hm (zg B4.out hb);have H45:=Hm hb;have X5:=Hm (ze X4.out hb);rw[←hnr.out];have DS:=Hm (To r nr ay cy w5 hnr.out hy1 hrl);clear hy1 hy2 hy3 hb B4 X4;go_wp2_with (go_at_call 10;refine DS.out.mono ?_);intro e w6 hdp;obtain⟨g1,g2,g3,i1,i2,i3,rfl,co6,-,-,-,hb6⟩:=Xu hdp HX.out.symm;have B6:=Hm (zg B5.out hb6);have H46:=Hm (zg H45.out hb6);have X6:=Hm (ze X5.out hb6);have VS:=Hm (ValCS.validS g1 g2 g3 i1 i2 i3 x.co w6 co6 (by show x.L1.length≤_;rw[←HM.out.1];omega) (by show x.L2.length≤_;rw[←HM.out.2.1];omega) (by show x.L3.length≤_;rw[←HM.out.2.2];omega))
  rw[show x.co.n1=m1 from HM.out.1.symm,show x.co.n2=m2 from HM.out.2.1.symm,show x.co.n3=m3 from HM.out.2.2.symm,show x.co.R=x.R from rfl,show x.co.S=x.S from rfl]at VS;rw[←HM.out.1,←HM.out.2.1,←HM.out.2.2];clear hdp co6 hb6 B5 H45 X5 DS;go_wp2_with (go_at_call 5;refine VS.out.mono ?_);rintro e w7 ⟨rfl,hb7⟩;have B7:=Hm (zg B6.out hb7);have H47:=Hm (zg H46.out hb7);have X7:=Hm (ze X6.out hb7);clear hb7 B6 H46 X6 VS;have e0:=cl0 X7.out;have e1:=cl1 X7.out;have e2:=cl2 X7.out;have e3:=cl3 X7.out;have e4:=cl4 X7.out
  cases hv:yD x.co with
  |true=>
   have HE:Hid (answer x.co=r):=by unfold Hid;rw[HX.out]at hv ⊢;exact Tn hv
   clear hv;rw[HE.out]at EI;go_wp2_with (go_at_call 8;refine(EI.out _ H47.out).mono ?_);clear e0 e1 e2 e3 e4;rintro e w8 ⟨v,rfl,ho,hb8⟩;have B8:=Hm (zg B7.out hb8);obtain⟨ap,cp,hv,hp1,-,-⟩:=xX ho;subst hv;rw[←hnr.out];have R8:=Hm hp1;clear hp1 ho hb8 B7 H47 X7 EI;go_wp2_with (go_at_call 9;refine(DD.out _ B8.out).mono ?_);rintro e w9 ⟨aq,cq,rfl,hq1,-,-,hb9⟩;have B9:=Hm (zg B8.out hb9);rw[←hnr.out];have LB:=Hm (Ug ap aq nr cp cq r w9 hnr.out (R8.out.below hb9) hq1);clear hq1 hb9 B8 R8;go_wp2_with (go_at_call 11;refine LB.out.mono ?_);rintro e w10 ⟨rfl,hw⟩;rw[hw];go_wp2;go_ret;exact⟨rfl,B9.out⟩
  |false=>
   have hz:x=zc:=by rw[HX.out]at hv ⊢;exact dec_or r hv
   have hz0:x.R=0:=by rw[hz];rfl
   have hz1:x.S=0:=by rw[hz];rfl
   obtain rfl:m1=0:=by rw[HM.out.1,hz];rfl
   obtain rfl:m2=0:=by rw[HM.out.2.1,hz];rfl
   obtain rfl:m3=0:=by rw[HM.out.2.2,hz];rfl
   rw[hz0]at e0;rw[hz1]at e1;clear hv hz hz0 hz1;go_wp2;go_ret;exact⟨rfl,B7.out⟩
end Go.Proofs.YtbdldkpifanaiaaDoor.Cd
namespace Go.Proofs.YtbdldkpifanaiaaDoor.ValC
open Go Go.RowKit Mem
theorem rows3 {H:Type} {enc:TypeId×Value→H} {P:Program} {w:World} {base:Nat} {sp:Nat→Bool} {held:Bool} {fuel:Nat} {t e ti:TypeId} {n:Nat} {f0 f1 f2:Field} {cs:List Value} {ds:List (DataW H)} {p:List MemPlace}
  (ht:P.underlying t=some (.array n e)) (he:P.underlying e=some (.struct #[f0,f1,f2])) (hi:P.underlying ti=some (.int .i64)) (h0:f0.type=ti∧f0.offset=0) (h1:f1.type=ti∧f1.offset=1) (h2:f2.type=ti∧f2.offset=2) (hci:P.cellsOf ti=1) (hce:P.cellsOf e=3) (hct:P.cellsOf t=n*3)
  (h:DataW.trod enc P w base sp held fuel t cs=some (.agg ds,p)):∀i,i<n→∃z0 z1 z2:Int,cs[i*3]? =some (.int .i64 z0)∧cs[i*3+1]? =some (.int .i64 z1)∧cs[i*3+2]? =some (.int .i64 z2)∧ds[i]? =some (.agg [.lit (.int .i64 z0),.lit (.int .i64 z1),.lit (.int .i64 z2)]):=by
 cases fuel with
 |zero=>simp[DataW.trod]at h
 |succ fuel=>
  simp only[DataW.trod,ht,hce,hct]at h
  split at h
  ·obtain⟨xs,hm,hx⟩:=Option.map_eq_some_iff.1 h
   have hds:ds=xs.map (·.1):=by
    have:=congrArg Prod.fst hx;simp only[DataW.agg.injEq]at this;exact this.symm
   intro i hin;obtain⟨y,hy,hf⟩:=Lib.mapM_at hm i i (by simp[hin]);obtain⟨ys,m,-,hyx,-,hyl,hff⟩:=DataW.trod_struct he hf;have g0:=(hff 0 f0 rfl).trans (List.getElem?_eq_getElem (show 0<ys.length by rw[hyl];simp));have g1:=(hff 1 f1 rfl).trans (List.getElem?_eq_getElem (show 1<ys.length by rw[hyl];simp));have g2:=(hff 2 f2 rfl).trans (List.getElem?_eq_getElem (show 2<ys.length by rw[hyl];simp));rw[h0.1,h0.2,hci]at g0;rw[h1.1,h1.2,hci]at g1;rw[h2.1,h2.2,hci]at g2;obtain⟨z0,a0,b0,-⟩:=DataW.trod_int hi g0;obtain⟨z1,a1,b1,-⟩:=DataW.trod_int hi g1;obtain⟨z2,a2,b2,-⟩:=DataW.trod_int hi g2
   have key:∀(j:Nat) (z:Int),j<3→List.take 1 (List.drop j (List.take 3 (List.drop (i*3) cs)))=[Value.int .i64 z]→cs[i*3+j]? =some (.int .i64 z):=fun j z hj ha=>by
    have:=congrArg (·[0]?) ha;simpa[List.getElem?_take,List.getElem?_drop,hj]using this
   refine⟨z0,z1,z2,key 0 z0 (by omega) a0,key 1 z1 (by omega) a1,key 2 z2 (by omega) a2,?_⟩;rw[hds,List.getElem?_map,hy]
   match ys,hyl with
   |[y0,y1,y2],_=>
    simp only[qe,qd]at b0 b1 b2;rw[hyx,b0,b1,b2];rfl
  ·cases h
theorem shData:(Rows.laid_loop_example_s0023_impl_insShapes:DataW Unit)=.agg (Yn.map fun x=>.agg [.lit (.int .i64 x.1),.lit (.int .i64 x.2.1),.lit (.int .i64 x.2.2)]):=by kernel_rfl
theorem gSh:Tryd.prog.globalNamed "loop.example/s0023/impl.insShapes"=some 0:=by kernel_rfl
theorem Tm:(Tryd.prog.globals[0]?).map (·.type)=some 109:=by kernel_rfl
theorem cShT:Tryd.prog.cellsOf 109=21*3:=by kernel_rfl
theorem cSh:Tryd.prog.cellsOf 108=3:=by kernel_rfl
theorem cInt:Tryd.prog.cellsOf 3=1:=by kernel_rfl
theorem tabC {W:World} (h:laidMet Tryd.prog [("loop.example/s0023/impl.insShapes",Rows.laid_loop_example_s0023_impl_insShapes)] W):YU W:=by
 obtain⟨ps,⟨g',t',cs,fuel,p,q,hg',ht',hvar,hd,_,_⟩,_⟩:=h;obtain rfl:=Option.some.inj (gSh.symm.trans hg');obtain rfl:=Option.some.inj (Tm.symm.trans ht');rw[shData]at hd;intro m hm;obtain⟨z0,z1,z2,a0,a1,a2,hz⟩:=rows3 Tryd.underlying109 Tryd.underlying108 Tryd.underlying3 ⟨rfl,rfl⟩ ⟨rfl,rfl⟩ ⟨rfl,rfl⟩ cInt cSh cShT hd m hm;have hl:m<Yn.length:=hm;have hs:sh m=Yn[m]:=by unfold sh;simp[List.getD,hl]
 rw[List.getElem?_map,List.getElem?_eq_getElem hl]at hz;simp only[Option.map_some,Option.some.injEq,DataW.agg.injEq,List.cons.injEq,DataW.lit.injEq,Lit.int.injEq,true_and,and_true]at hz;have hv:=fun i=>World.var?_cell gSh hvar i
 rw[hv,hv,hv,hs,hz.1,hz.2.1,hz.2.2];simp only[Array.getElem?_toList]at a0 a1 a2;exact⟨a0,a1,a2⟩
end Go.Proofs.YtbdldkpifanaiaaDoor.ValC
namespace Go.Proofs.YtbdldkpifanaiaaDoor.RowV
open Go.ChangeShapes Go.WideShapes Go.ChangeAt Go.RowKit
def Ty (P:Program) (n:String):Bool:=
 match P.globalNamed n with
 |none=>true
 |some g=>match (P.globals[g]?).map (·.type)with
  |none=>true
  |some t=>P.readableRec t&&decide (t<P.types.size)
theorem var_lt {P:Program} {W:World} {n:String} {g:Nat} {cs:Array Value} (hg:P.globalNamed n=some g) (hv:W.var? P n=some cs):g<W.heap.size:=by
 unfold World.var? at hv;simp only[hg,Option.bind_some]at hv
 split at hv
 ·rename_i h;exact(Array.getElem?_eq_some_iff.1 h).1
 ·cases hv
theorem vars_stay {H:Type} {enc:TypeId×Value→H} {P:Program} (hl:laidOutB P=true) {W W':World} (hb:Below W.heap.size W W'):∀{ns:List String} {gs:List (DataW H)} {q:List MemPlace},DataW.TrodVars enc P W (fun _=>true) ns gs q→ns.all (Ty P)=true→DataW.TrodVars enc P W' (fun b=>decide (b<W.heap.size)) ns gs q
 |[],[],q,h,_=>h
 |[],_::_,q,h,_=>by simp[DataW.TrodVars]at h
 |_::_,[],q,h,_=>by simp[DataW.TrodVars]at h
 |n::ns,d::ds,q,h,ha=>by
  obtain⟨g,t,cs,fuel,p,q',h1,h2,h3,h4,h5,h6⟩:=h;rw[List.all_cons,Bool.and_eq_true]at ha;have ok:=ha.1;unfold Ty at ok;rw[h1]at ok;simp only[h2,Bool.and_eq_true,decide_eq_true_eq]at ok;have hlt:=DataW.trod_lt fuel _ _ _ h4;refine⟨g,t,cs,fuel,p,q',h1,h2,var?_below hb h1 (var_lt h1 h3) h3,?_,vars_stay hl hb h5 ha.2,h6⟩;exact DataW.trod_stays (Go.kids_book hl ok.1) (Go.book_sized ok.1) (fun h=>by cases h) ⟨ok.2,Go.book_self t⟩ h4 (fun x hx=>hb.same (hlt x hx)) (fun x hx=>by simpa using hlt x hx)
theorem vars_len {H:Type} {enc:TypeId×Value→H} {P:Program} {W:World} {sp:Nat→Bool}:∀{ns:List String} {gs:List (DataW H)} {q:List MemPlace},DataW.TrodVars enc P W sp ns gs q→gs.length=ns.length
 |[],[],q,h=>rfl
 |[],_::_,q,h=>by simp[DataW.TrodVars]at h
 |_::_,[],q,h=>by simp[DataW.TrodVars]at h
 |n::ns,d::ds,q,h=>by
  obtain⟨g,t,cs,fuel,p,q',h1,h2,h3,h4,h5,h6⟩:=h;simp[vars_len h5]
end Go.Proofs.YtbdldkpifanaiaaDoor.RowV
namespace Go.Proofs.YtbdldkpifanaiaaDoor.fnCodec
open Go.ChangeShapes Go.WideShapes Go.ChangeAt Go.RowKit
theorem own:ownKnob Tryd.prog.godebug=none:=by kernel_rfl
theorem laidOut:laidOutB Tryd.prog=true:=by kernel_rfl
theorem cellsB:Tryd.prog.cellsOf 5=1:=by kernel_rfl
theorem Wa {H:Type} {enc:TypeId×Value→H} {W:World} {base:Nat} {v:Value} {d:DataW H} {p:List MemPlace} (hval:Value.okWide Tryd.prog W .any base 22 v) (h:DataW.Trod enc Tryd.prog W 0 (fun _=>true) true 22 v d p):
  ∃(a:Option Addr) (t:List UInt8) (n c:Nat),v=.slice a n c∧n=t.length∧Parse.Txt W.heap.size W (.slice a n c) t:=by
 obtain⟨a1,len,cap,rfl⟩:=okWide_slice Tryd.underlying22 hval;obtain⟨fuel,hf⟩:=h;rcases open_ints Tryd.underlying22 Tryd.underlying5 cellsB hf with⟨hcs,-⟩|⟨a,len',cap',zs,hcs,_,hl,hm,hz,-,hcell,hwz⟩
 ·simp[Value.cells]at hcs
  obtain⟨rfl,rfl,rfl⟩:=hcs;exact⟨none,[],0,0,rfl,rfl,none,0,rfl,qn _,Or.inl ⟨rfl,rfl⟩⟩
 ·simp[Value.cells]at hcs
  obtain⟨rfl,rfl,rfl⟩:=hcs;simp only[if_true]at hz;have hlen:((zs.take len).map fun n=>UInt8.ofNat n.toNat).length=len:=by simp;omega
  obtain⟨ab,ao,spot⟩:=a
  have hspot:spot=none:=by
   simp only[Value.okWide,Tryd.underlying22,Cell.okWide,Cell.ok]at hval;simp[World.has]at hval
   first|exact hval.2.1|(simp_all;done)
  subst hspot
  ·refine⟨some ⟨ab,ao,none⟩,(zs.take len).map fun n=>UInt8.ofNat n.toNat,len,cap,rfl,hlen.symm,some ⟨ab,ao,none⟩,cap,by rw[hlen],by rw[hlen];exact hl,Or.inr ⟨ab,ao,rfl,fun j hj=>?_⟩⟩
   rw[hlen]at hj;have hcj:=hcell j (by omega);rw[Addr.add_lit]at hcj;refine⟨Mem.lt_of_cell hcj,?_⟩;rw[hcj];have hr:=range_u8 hwz j;have hjz:j<zs.length:=by omega
   simp only[List.getElem_map,List.getElem_take];have e:zs.getD j 0=zs[j]:=by simp[List.getD,hjz]
   have hr':0≤zs[j]∧zs[j]≤255:=by simpa[hjz]using hr
   rw[e];generalize zs[j]=z at hr';have hz:(z.toNat:Int)=z:=Int.toNat_of_nonneg hr'.1;have hm:z.toNat % 256=z.toNat:=Nat.mod_eq_of_lt (by omega);simp[hm,hz]
theorem UB (H:Type) (enc:TypeId×Value→H) (W:World) (base:Nat) (args:Array Value) (ds gs:List (DataW H)) (before:List MemPlace)
  (hval:∀(j:Nat) t v,Tryd.f3.params[j]? =some t→args[j]? =some v→Value.okWide Tryd.prog W .any base t v)
  (hW:DataW.Whole enc Tryd.prog Tryd.f3.params.toList Rows.fnCodecSpec.vars false W args.toList ds gs before) (hL:laidMetH Tryd.prog Rows.fnCodecRow.laid W):
  Calls Tryd.prog 3 args W fun e W'=>∃v,e=.returned v∧Rows.fnCodecSpec.post enc Tryd.prog Tryd.f3 false true false false W args v W':=by
 have hW':=hW;obtain⟨p,q,hA0,hV,rfl,hfz,hnd⟩:=hW;have hA:DataW.TrodAll enc Tryd.prog W 0 (fun _=>true) true Tryd.f3.params.toList args.toList ds p:=hA0;rw[Tryd.params3]at hA hval;obtain⟨v0,vs0,d0,ds0,p0,q0,hargs,rfl,rfl,h0,r0⟩:=trodAll_cons hA;obtain⟨v1,vs1,d1,ds1,p1,q1,hargs1,rfl,rfl,h1,r1⟩:=trodAll_cons r0;obtain⟨rfl,rfl,rfl⟩:=trodAll_nil r1;obtain rfl:args=#[v0,v1]:=by cases args;simp_all
 obtain⟨g1,hgs⟩:∃g1,gs=[g1]:=by
  match gs,RowV.vars_len hV with
  |[g1],_=>exact⟨g1,rfl⟩
 subst hgs;have k0:=h0;have k1:=h1;have lt0:∀x∈p0,x.block<W.heap.size:=by obtain⟨m,hm⟩:=k0;exact DataW.trod_lt m _ _ _ hm
 have lt1:∀x∈p1,x.block<W.heap.size:=by obtain⟨m,hm⟩:=k1;exact DataW.trod_lt m _ _ _ hm
 obtain⟨a,t,n,c,rfl,hn,ht⟩:=Wa (hval 0 22 v0 rfl rfl) h0;obtain⟨b,u,m,d,rfl,hm,hu⟩:=Wa (hval 1 22 v1 rfl rfl) h1;clear hA0;refine(Cd.lawCodec a b t u n c m d W hn hm ht hu (ValC.tabC hL)).mono fun e W' ⟨he,bel⟩=>?_
 subst he;exact⟨_,rfl,_,_,_,[],_,_,hW',trodAll_mk1 (shut_bool Tryd.underlying4 _),(trodAll_cons_mk (Below.trod laidOut (by kernel_rfl) (of_decide_eq_true (by kernel_rfl)) k0 bel lt0) (trodAll_cons_mk (Below.trod laidOut (by kernel_rfl) (of_decide_eq_true (by kernel_rfl)) k1 bel lt1) trodAll_mk0)),RowV.vars_stay laidOut bel hV (by kernel_rfl),bel.frame _,fun h=>by cases h⟩
def Uh:DataW Unit→Array Value
 |.agg l=>(l.flatMap fun
  |.agg m=>m.map fun
   |.lit (.int k z)=>Value.int k z
   |_=>Value.bool false
  |_=>[]).toArray
 |_=>#[]
def setB (h:Array Obj) (i:Nat) (c:Array Value):Array Obj:=h.modify i fun
 |.cells _ t frozen=>.cells c t frozen
 |o=>o
noncomputable def ZU (os:Os):World:=
 {World.holding Tryd.prog os ⟨#[],#[],[]⟩with heap:=setB (World.holding Tryd.prog os ⟨#[],#[],[]⟩).heap 0 (Uh Rows.laid_loop_example_s0023_impl_insShapes)}
theorem Uk (os:Os):laidMet Tryd.prog Rows.fnCodecRow.laid ((ZU os).forCall (fun _ _=>0) ⟨#[],#[.slice none 0 0,.slice none 0 0],[]⟩).memory:=
 laidMet_of_run' 8 (by kernel_rfl) (by kernel_rfl)
theorem reads (os:Os) {H:Type} (enc:TypeId×Value→H):∃x,DataW.whole enc Tryd.prog ((ZU os).forCall (fun _ _=>0) ⟨#[],#[.slice none 0 0,.slice none 0 0],[]⟩).memory Tryd.f3.params.toList Rows.fnCodecSpec.vars false #[Value.slice none 0 0,Value.slice none 0 0].toList 8=some x:=
 Option.isSome_iff_exists.1 (by kernel_rfl)
theorem lifted (os:Os) (started:os.Started) (H:Type) (enc:TypeId×Value→H) (F:Stop.Interp):
  ReturnsInHanded {} Tryd.checked os 3 .any ((OpenSpec.ofChange Rows.fnCodecSpec).preRow enc Tryd.prog Tryd.f3 Rows.fnCodecRow.domain false Rows.fnCodecRow.laid) (((OpenSpec.ofChange Rows.fnCodecSpec).at F).post enc Tryd.prog Tryd.f3 false true false false):=by
 obtain⟨x,hx⟩:=reads os enc
 refine returnsInHanded_of_row (C:=Tryd.checked) (s:=OpenSpec.ofChange Rows.fnCodecSpec) own started (by kernel_rfl) Tryd.func3
  (witness_row_at (enc:=enc) (C:=Tryd.checked) false (ZU os) #[.slice none 0 0,.slice none 0 0] rfl (by kernel_rfl) (by kernel_rfl) (by kernel_rfl)
   (OpenSpec.preRow_of_cond 8 hx (by kernel_rfl) (fun k hk=>by cases hk) (by kernel_rfl) (Uk os))) ?_
 intro W base args ds gs before hval hW _ _ _ hL _ _;exact UB H enc W base args ds gs before hval hW hL
theorem said:Rows.FnCodecSaid:=
 OpenClaim.holds_of_cond 3 Tryd.f3 rfl rfl rfl rfl rfl rfl rfl ⟨rfl,rfl,rfl,rfl,rfl⟩ rfl rfl rfl rfl rfl (by kernel_rfl) Tryd.func3 (by kernel_rfl)
  (of_decide_eq_true (by kernel_rfl)) (by unfold Func.isWrapper;first|(rw[if_pos (by decide+kernel)];kernel_rfl)|(rw[if_neg (by decide+kernel)];exact⟨rfl,rfl⟩))
  (fun os started H enc _ F=>by rw[OpenClaim.pre_eq_preRow];exact lifted os started H enc F)
theorem plain (f:FuncId) (fn:Func) (hf:Tryd.pinned.checked.prog.funcNamed "loop.example/s0023/laws.FnCodec"=some f) (hfn:Tryd.pinned.checked.prog.funcs[f]? =some fn):
  false=Tryd.pinned.checked.prog.looks []∧∀(j:Nat) t,fn.params[j]? =some t→Tryd.pinned.checked.prog.wantsStandIn t=false:=by
 obtain rfl:f=3:=Option.some.inj ((show Tryd.prog.funcNamed "loop.example/s0023/laws.FnCodec"=some 3 by kernel_rfl).symm.trans hf) |>.symm;obtain rfl:fn=Tryd.f3:=(Option.some.inj (Tryd.func3.symm.trans hfn)).symm;refine⟨by kernel_rfl,fun j t ht=>?_⟩;rw[Tryd.params3]at ht;obtain rfl:t=22:=by simpa using Array.mem_of_getElem? ht
 exact(show Tryd.prog.wantsStandIn 22=false by kernel_rfl)
end Go.Proofs.YtbdldkpifanaiaaDoor.fnCodec
namespace Go.Proofs.YtbdldkpifanaiaaDoor
theorem fnCodec_card:Rows.FnCodecCardSaid:=
 Claim7.holds_tied_plain_at .later [] _ _ _ _ fnCodec.said (fun _ h=>by cases h) (by kernel_rfl) (fun _ h=>by cases h) fnCodec_row_tie rfl ⟨rfl,rfl⟩ (by kernel_rfl) rfl fnCodec.plain (by kernel_rfl)
#print axioms fnCodec_card
end Go.Proofs.YtbdldkpifanaiaaDoor
