import Derived.Test.YtbdldkpifanaiaaDoorCr41
import Derived.Test.YtbdldkpifanaiaaDoorCr42
import Derived.Test.YtbdldkpifanaiaaDoorCr43
import Derived.Test.YtbdldkpifanaiaaDoorCr44
set_option maxHeartbeats 3200000
set_option maxRecDepth 1000000
set_option linter.unusedVariables false
set_option linter.unusedSimpArgs false
open List renaming length_append → qg, getElem?_toArray → qk, getElem?_cons_zero → ql, getElem?_cons_succ → qm
open Nat renaming le_refl → qn, le_of_lt → qq
namespace Go.Proofs.YtbdldkpifanaiaaDoor.Cd
open Go Go.RowKit Mem Syn Par Dq Draw
attribute [local go_sem ↓] Go.wp_at_zero Go.wp_at_succ
variable {B g:Nat} {w0 w w':World} {bs:List UInt8} {D:Sr} {s s':DS} {x0:Nat} {cs0:Array Value}
theorem spoilC (K:Kd) (v1 v2 v3:Value) (C0:Cu B g w0 w bs D s) (hq0:w0.heap.size≤x0) (hql:w.heap[x0]? =some (.cells cs0 25)) (h1:OI w0.heap.size w v1 K.L1) (h2:OI w0.heap.size w v2 K.L2) (h3:OI w0.heap.size w v3 K.L3) (ha2:Apt v1 v2) (ha3:Apt v1 v3) (hl1:K.L1.length≤1000000) (hl2:K.L2.length≤1000000):
  Calls Tryd.prog 29 #[.pointer (some ⟨g,0,none⟩),.agg #[.int .i64 K.R,.int .i64 K.S,v1,v2,v3]] w (SplP B g w0 bs D x0 cs0 (zZ D K s)):=by
 obtain⟨k,s',hk⟩:∃k s',D.bel s 14=(k,s'):=⟨_,_,rfl⟩
 have hlt:k<14:=by
  have h:=C0.hb s 14;rw[hk]at h;have h2:=congrArg Prod.fst h;rw[show k=_ from h2];exact ZK _ _ (by decide)
 by_cases h100:k=0
 ·subst h100;exact spl0 K v1 v2 v3 C0 hq0 hql h1 h2 h3 hk
 by_cases h101:k=1
 ·subst h101;exact spl1 K v1 v2 v3 C0 hq0 hql h1 h2 h3 hk
 by_cases h102:k=2
 ·subst h102;exact spl2 K v1 v2 v3 C0 hq0 hql h1 h2 h3 hk
 by_cases h103:k=3
 ·subst h103;exact spl3 K v1 v2 v3 C0 hq0 hql h1 h2 h3 hk ha2 ha3 hl1
 by_cases h104:k=4
 ·subst h104;exact spl4 K v1 v2 v3 C0 hq0 hql h1 h2 h3 hk hl2
 by_cases h105:k=5
 ·subst h105;exact spl5 K v1 v2 v3 C0 hq0 hql h1 h2 h3 hk hl2
 by_cases h106:k=6
 ·subst h106;exact spl6 K v1 v2 v3 C0 hq0 hql h1 h2 h3 hk hl2
 by_cases h107:k=7
 ·subst h107;exact spl7 K v1 v2 v3 C0 hq0 hql h1 h2 h3 hk hl2
 by_cases h108:k=8
 ·subst h108;exact spl8 K v1 v2 v3 C0 hq0 hql h1 h2 h3 hk hl2
 by_cases h109:k=9
 ·subst h109;exact spl9 K v1 v2 v3 C0 hq0 hql h1 h2 h3 hk hl2
 by_cases h110:k=10
 ·subst h110;exact spl10 K v1 v2 v3 C0 hq0 hql h1 h2 h3 hk hl2
 by_cases h111:k=11
 ·subst h111;exact spl11 K v1 v2 v3 C0 hq0 hql h1 h2 h3 hk hl2
 by_cases h112:k=12
 ·subst h112;exact spl12 K v1 v2 v3 C0 hq0 hql h1 h2 h3 hk hl2
 by_cases h113:k=13
 ·subst h113;exact spl13 K v1 v2 v3 C0 hq0 hql h1 h2 h3 hk hl2
 omega
end Go.Proofs.YtbdldkpifanaiaaDoor.Cd
namespace Go.Proofs.YtbdldkpifanaiaaDoor.Cd
open Go Go.RowKit Mem Syn Par Dq Draw
attribute [local go_sem ↓] Go.wp_at_zero Go.wp_at_succ
variable {B g:Nat} {w0 w w':World} {bs:List UInt8} {D:Sr} {s s':DS}
theorem Xf (P:Pr):(y8 P).L1.length≤1000000∧(y8 P).L2.length≤1000000:=by
 by_cases h:xR P=0
 ·have ok:=Xw h
  have hn:=ok.n;have h1:=ZE P P.n;have h2:=Ze P ok (reg P P.n) P.n (qn _);rw[YN h];dsimp only;rw[xr];omega
 ·have:y8 P=⟨0,0,[],[],[]⟩:=by unfold y8;rw[if_pos h]
  rw[this];simp
inductive AnyP (B g:Nat) (w0:World) (bs:List UInt8) (D:Sr) (r:Kd×DS) (e:Ending) (w':World):Prop
 |mk (v1 v2 v3:Value) (he:e=.returned (.agg #[.int .i64 r.1.R,.int .i64 r.1.S,v1,v2,v3])) (o1:OI w0.heap.size w' v1 r.1.L1) (o2:OI w0.heap.size w' v2 r.1.L2) (o3:OI w0.heap.size w' v3 r.1.L3) (c:Cu B g w0 w' bs D r.2):AnyP B g w0 bs D r e w'
theorem Wt {W V:World} {r:Nat} {o:Obj} (h:W.grownBy V (some g)) (hr:W.heap[r]? =some o) (hne:r≠g):V.heap[r]? =some o:=by
 rw[h.block r (zu hr) (fun e=>hne (Option.some.inj e))];exact hr
def YM (D:Sr) (s:DS) (z:Nat):Kd×DS:=
 match dSP D s z with
 |(X,s1)=>match D.once s1 3 with
  |(b,s2)=>if b then zZ D (y8 (prK X)) s2 else (y8 (prK X),s2)
theorem Wd (p:Option Addr) (n c:Nat) (hn:n≤1048576) (C0:Cu B g w w bs D s):Calls Tryd.prog 13 #[.pointer (some ⟨g,0,none⟩),.slice p n c] w (AnyP B g w bs D (YM D s (xp n 5))):=by
 have hlg:=C0.lg;obtain⟨RR,hRR⟩:∃r,r=YM D s (xp n 5):=⟨_,rfl⟩;rw[←hRR];have HRR:=Hm hRR;clear hRR;obtain⟨W1,hW1⟩:∃W,W=w.alloc (.cells #[.int .i64 0,.int .i64 0,.slice none 0 0,.slice none 0 0,.slice none 0 0] 25):=⟨_,rfl⟩;have R1:Hid (W1.heap[w.heap.size]? =some (.cells #[.int .i64 0,.int .i64 0,.slice none 0 0,.slice none 0 0,.slice none 0 0] 25)):=by unfold Hid;rw[hW1];exact zi _ _
 have C1:Hid (Cu B g w W1 bs D s):=by rw[hW1];exact C0.al _
 clear C0;go_enter Tryd.func13,Tryd.ntmps13;go_upto_region 1 with fail;rw[←hW1];clear hW1;go_wp2_with (go_at_call 27;refine(Wj p n c hn C1.out.self).mono ?_);rintro e w1 ⟨iv,X,rfl,hX,hpg,hc,hl⟩;obtain⟨a,cc,rfl,hat,hcap⟩:=pgo_at hpg;have hPn:(prK (X.map Xi.im)).n=X.length:=by simp[prK]
 have hcn:=WC hpg X.length (qn _);have HC:=Hm (UC (prK (X.map Xi.im)) a cc _ w1 hat (by omega) (by rw[hPn];omega) hcap);rw[hPn]at HC;have hr1:=zu R1.out;have hws:=hc.size;have E2:=Hm hc;obtain⟨K,hK⟩:∃k,k=y8 (prK (X.map Xi.im)):=⟨_,rfl⟩;rw[←hK]at HC;have hkl:=Xf (prK (X.map Xi.im));rw[←hK]at hkl;have HX:=Hm hX;have HKK:=Hm hK;clear hK hat hcap hc hpg hX hcn hPn;go_wp2_with (go_at_call 26;refine HC.out.mono ?_);rintro e w2 ⟨v1,v2,v3,rfl,o1,o2,o3,p1,p2,p3,hb⟩;obtain⟨a1,c1,hv⟩:=o1.shape;subst hv;obtain⟨a2,c2,hv⟩:=o2.shape;subst hv;obtain⟨a3,c3,hv⟩:=o3.shape;subst hv;obtain⟨n1,hn1⟩:∃n,n=K.L1.length:=⟨_,rfl⟩;obtain⟨n2,hn2⟩:∃n,n=K.L2.length:=⟨_,rfl⟩;obtain⟨n3,hn3⟩:∃n,n=K.L3.length:=⟨_,rfl⟩
 rw[←hn1]at o1 p1 p2 ⊢;rw[←hn2]at o2 p1 p3 ⊢;rw[←hn3]at o3 p2 p3 ⊢;clear hn1 hn2 hn3;obtain⟨W2,hW2⟩:∃W,W=w2.alloc (.cells #[.int .i64 K.R,.int .i64 K.S,.slice a1 n1 c1,.slice a2 n2 c2,.slice a3 n3 c3] 25):=⟨_,rfl⟩;have bn:Below w2.heap.size w2 W2:=by rw[hW2];exact zf (Below.refl _ _) _
 have X2:Hid (W2.heap[w2.heap.size]? =some (.cells #[.int .i64 K.R,.int .i64 K.S,.slice a1 n1 c1,.slice a2 n2 c2,.slice a3 n3 c3] 25)):=by unfold Hid;rw[hW2];exact zi _ _
 have hw12:=hb.size;have E2:=Hm ((E2.out.below hb).below bn);have O1:=Hm ((o1.mono hws).kept bn);have O2:=Hm ((o2.mono hws).kept bn);have O3:=Hm ((o3.mono hws).kept bn);have hw2:w.heap.size<w2.heap.size:=by omega
 have hw3:W1.heap.size≤w2.heap.size:=by omega
 clear o1 o2 o3 hb HC;go_upto_region 2 with fail;rw[←hW2];clear hW2 bn;go_wp2_with (go_at_call 28;refine(Zo E2.out 3 (by omega) (by omega)).mono ?_);rintro e w3 ⟨b,s2,hq,rfl,hc3,hg⟩;have X3:=Hm (Cu.blk E2.out hw3 X2.out hg);have R3:=Hm (Wt hc3.gb R1.out (by omega));have O1:=Hm (OI.cur O1.out E2.out hg);have O2:=Hm (OI.cur O2.out E2.out hg);have O3:=Hm (OI.cur O3.out E2.out hg);have E3:=Hm hc3
 have HD:Hid (RR=if b then zZ D K s2 else (K,s2)):=by
  unfold Hid;rw[HRR.out,HKK.out,HX.out];simp only[YM,hq]
 clear hc3 hg E2 X2 hq
 cases b
 ·have HFIN:Hid (RR=(K,s2)):=by unfold Hid;rw[HD.out];rfl
  clear HD;have C3:=Hm (C1.out.in' E3.out);have O1:=Hm (O1.out.mono (qq hr1));have O2:=Hm (O2.out.mono (qq hr1));have O3:=Hm (O3.out.mono (qq hr1));have e0:=za X3.out 0;have e1:=za X3.out 1;have e2:=za X3.out 2;have e3:=za X3.out 3;have e4:=za X3.out 4;have g0:=za R3.out 0;have g1:=za R3.out 1;have g2:=za R3.out 2;have g3:=za R3.out 3;have g4:=za R3.out 4;have f0:=zb R3.out 0;have f1:=zb R3.out 1;have f2:=zb R3.out 2;have f3:=zb R3.out 3;have f4:=zb R3.out 4;simp only[qk,ql,qm]at e0 e1 e2 e3 e4 g0 g1 g2 g3 g4;go_wp2
  obtain⟨Z,hZ,RZ,CZ,OZ⟩:=zN R3.out (.int .i64 (K.R)) (.int .i64 (K.S)) (.slice a1 n1 c1) (.slice a2 n2 c2) (.slice a3 n3 c3) C3.out (by omega);rw[hZ];have z0:=za RZ 0;have z1:=za RZ 1;have z2:=za RZ 2;have z3:=za RZ 3;have z4:=za RZ 4;simp only[qk,ql,qm]at z0 z1 z2 z3 z4;refine bodyPost_ret (v:=.agg #[.int .i64 (K.R),.int .i64 (K.S),.slice a1 n1 c1,.slice a2 n2 c2,.slice a3 n3 c3]) (by simp[results,Tryd.results13,go_sem,z0,z1,z2,z3,z4];try rfl) rfl ?_;rw[HFIN.out];exact .mk _ _ _ rfl (OZ _ _ _ O1.out) (OZ _ _ _ O2.out) (OZ _ _ _ O3.out) CZ
 ·obtain⟨M,s4,hM⟩:∃M s4,zZ D K s2=(M,s4):=⟨_,_,rfl⟩
  have HFIN:Hid (RR=(M,s4)):=by unfold Hid;rw[HD.out,←hM];rfl
  have HS:=Hm (spoilC K _ _ _ E3.out hw3 X3.out O1.out O2.out O3.out p1 p2 hkl.1 hkl.2);rw[hM]at HS;have e0:=za X3.out 0;have e1:=za X3.out 1;have e2:=za X3.out 2;have e3:=za X3.out 3;have e4:=za X3.out 4;simp only[qk,ql,qm]at e0 e1 e2 e3 e4;clear HD hM O1 O2 O3 p1 p2 p3;go_wp2_with (go_at_call 29;refine HS.out.mono ?_);clear e0 e1 e2 e3 e4 X3 R3 E3 HS;rintro e w4 ⟨d1,d2,d3,rfl,o1,o2,o3,hc4,hq4⟩;dsimp only at o1 o2 o3 hc4 ⊢;obtain⟨a4,c4,hv⟩:=o1.shape;subst hv;obtain⟨a5,c5,hv⟩:=o2.shape;subst hv;obtain⟨a6,c6,hv⟩:=o3.shape;subst hv;obtain⟨m1,hm1⟩:∃n,n=M.L1.length:=⟨_,rfl⟩;obtain⟨m2,hm2⟩:∃n,n=M.L2.length:=⟨_,rfl⟩;obtain⟨m3,hm3⟩:∃n,n=M.L3.length:=⟨_,rfl⟩;rw[←hm1]at o1 ⊢
  rw[←hm2]at o2 ⊢;rw[←hm3]at o3 ⊢;clear hm1 hm2 hm3;have R4:=Hm (Wt hc4.gb R1.out (by omega));obtain⟨Z4,hZ4,XZ,-,OZ⟩:=Dec.put5 hq4 (.int .i64 M.R) (.int .i64 M.S) (.slice a4 m1 c4) (.slice a5 m2 c5) (.slice a6 m3 c6);have X5:=Hm XZ;have hw5:w.heap.size≤w2.heap.size:=qq hw2;have hw6:w.heap.size≠w2.heap.size:=Nat.ne_of_lt hw2;have C4:=C1.out.in' hc4;have C5:Hid (Cu B g w Z4 bs D s4):=by rw[←hZ4];exact Cu.set (Cu.set (Cu.set (Cu.set (Cu.set C4 hw5) hw5) hw5) hw5) hw5
  have R5:Hid (Z4.heap[w.heap.size]? =some (.cells #[.int .i64 0,.int .i64 0,.slice none 0 0,.slice none 0 0,.slice none 0 0] 25)):=by rw[←hZ4];exact zd (zd (zd (zd (zd R4.out hw6 _) hw6 _) hw6 _) hw6 _) hw6 _
  have P1:Hid (OI w.heap.size Z4 (.slice a4 m1 c4) M.L1):=OZ _ _ _ _ _ _ (by decide) (o1.mono (qq hr1));have P2:Hid (OI w.heap.size Z4 (.slice a5 m2 c5) M.L2):=OZ _ _ _ _ _ _ (by decide) (o2.mono (qq hr1));have P3:Hid (OI w.heap.size Z4 (.slice a6 m3 c6) M.L3):=OZ _ _ _ _ _ _ (by decide) (o3.mono (qq hr1));have X4:=Hm hq4;have HZ4:=Hm hZ4;clear hZ4 OZ XZ hq4 o1 o2 o3 hc4 C4 R4;have f0:=zb X4.out 0;have f1:=zb X4.out 1;have f2:=zb X4.out 2;have f3:=zb X4.out 3;have f4:=zb X4.out 4;have e0:=za X4.out 0;have e1:=za X4.out 1;have e2:=za X4.out 2;have e3:=za X4.out 3;have e4:=za X4.out 4;simp only[qk,ql,qm]at e0 e1 e2 e3 e4;go_upto_region 4 with fail;rw[HZ4.out]
  clear HZ4 f0 f1 f2 f3 f4 e0 e1 e2 e3 e4 X4;have e0:=za X5.out 0;have e1:=za X5.out 1;have e2:=za X5.out 2;have e3:=za X5.out 3;have e4:=za X5.out 4;have g0:=za R5.out 0;have g1:=za R5.out 1;have g2:=za R5.out 2;have g3:=za R5.out 3;have g4:=za R5.out 4;have f0:=zb R5.out 0;have f1:=zb R5.out 1;have f2:=zb R5.out 2;have f3:=zb R5.out 3;have f4:=zb R5.out 4;simp only[qk,ql,qm]at e0 e1 e2 e3 e4 g0 g1 g2 g3 g4;go_wp2;obtain⟨Z,hZ,RZ,CZ,OZ⟩:=zN R5.out (.int .i64 (M.R)) (.int .i64 (M.S)) (.slice a4 m1 c4) (.slice a5 m2 c5) (.slice a6 m3 c6) C5.out (by omega);rw[hZ];have z0:=za RZ 0;have z1:=za RZ 1;have z2:=za RZ 2;have z3:=za RZ 3
  have z4:=za RZ 4;simp only[qk,ql,qm]at z0 z1 z2 z3 z4;refine bodyPost_ret (v:=.agg #[.int .i64 (M.R),.int .i64 (M.S),.slice a4 m1 c4,.slice a5 m2 c5,.slice a6 m3 c6]) (by simp[results,Tryd.results13,go_sem,z0,z1,z2,z3,z4];try rfl) rfl ?_;rw[HFIN.out];exact .mk _ _ _ rfl (OZ _ _ _ P1.out) (OZ _ _ _ P2.out) (OZ _ _ _ P3.out) CZ
end Go.Proofs.YtbdldkpifanaiaaDoor.Cd
namespace Go.Proofs.YtbdldkpifanaiaaDoor.Dec
open Go Go.RowKit Mem ValC Enc
theorem US (n:Int):unz (zig n)=n:=by
 unfold unz zig
 split<;>split<;>omega
theorem UP (z:Nat):zig (unz z)=z:=by
 unfold zig unz
 split<;>split<;>omega
def Cn:List UInt8→Prop
 |[]=>False
 |[c]=>c.toNat<128
 |c::d::r=>128≤c.toNat∧Cn (d::r)∧((d::r).length=1→d.toNat≠0)
theorem VC (z:Nat) (h:z<128):(UInt8.ofNat z).toNat=z:=by simp;omega
theorem TA (z:Nat):(UInt8.ofNat (128+z % 128)).toNat=128+z % 128:=by simp;omega
theorem grp_cn (z:Nat):Cn (grp z)∧yg (grp z)=z∧(0<z→(grp z).length=1→(grp z).getD 0 0≠0)∧grp z≠[]:=by
 induction z using Nat.strongRecOn with
 |ind z ih=>
  by_cases h:z<128
  ·rw[xP h]
   refine⟨by show(UInt8.ofNat z).toNat<128;rw[VC z h];exact h,by simp only[yg];rw[VC z h];omega,fun h0 _ e=>?_,by simp⟩;have:(UInt8.ofNat z).toNat=0:=by have:=congrArg UInt8.toNat e;simpa using this
   rw[VC z h]at this;omega
  ·obtain⟨h1,h2,h3,h4⟩:=ih (z / 128) (by omega)
   rw[ZV h];have hz:0<z / 128:=by omega
   have h3':=h3 hz;generalize grp (z / 128)=L at*
   match L,h4 with
   |d::r,_=>
    refine⟨⟨by rw[TA];omega,h1,fun e=>?_⟩,?_,fun _ e=>by simp at e,by simp⟩
    ·have:=h3' e
     intro h0;apply this;simp only[List.getD_cons_zero];exact UInt8.toNat_inj.1 (by simpa using h0)
    ·simp only[yg]at h2 ⊢
     rw[TA,h2];omega
theorem UG:∀(L r:List UInt8),Cn L→hib (L++r)=L.length-1
 |[],r,h=>h.elim
 |[c],r,h=>by
  have h:c.toNat<128:=h;simp only[List.cons_append,List.nil_append,hib];rw[if_neg (by omega)];rfl
 |c::d::s,r,h=>by
  have:=UG (d::s) r h.2.1;simp only[List.cons_append]at this ⊢;rw[hib,if_pos h.1,this];simp
theorem WW:∀(L r:List UInt8),Cn L→1<L.length→((L++r).getD (L.length-1) 0).toNat≠0
 |[],r,h,_=>h.elim
 |[c],r,h,hl=>by simp at hl
 |[c,d],r,h,_=>by simpa using h.2.2 rfl
 |c::d::e::s,r,h,_=>by
  have:=WW (d::e::s) r h.2.1 (by simp);simpa using this
theorem U9 (z:Nat) (r:List UInt8) (h:(grp z).length≤5):one (grp z++r)=some (unz z,r):=by
 obtain⟨h1,h2,-,h4⟩:=grp_cn z;have hh:=UG (grp z) r h1;have hp:0<(grp z).length:=List.length_pos_iff.2 h4;have hl:(grp z++r).length=(grp z).length+r.length:=qg;unfold one;have hcond:(grp z).length-1<(grp z++r).length∧(grp z).length-1<5∧¬(0<(grp z).length-1∧((grp z++r).getD ((grp z).length-1) 0).toNat=0):=⟨by omega,by omega,fun hc=>WW (grp z) r h1 (by omega) hc.2⟩;rw[hh,if_pos hcond,show(grp z).length-1+1=(grp z).length by omega,List.take_left,List.drop_left,h2]
theorem V9 (l:List Int) (h:∀n∈l,-1000000000≤n∧n≤1000000000):nums (vrs l)=some l:=by
 induction l with
 |nil=>rw[vrs,xH]
 |cons n r ih=>
  have h0:=h n (List.mem_cons_self ..);rw[vrs,vr,Zg (U9 (zig n) (vrs r) (Xk h0.1 h0.2)),US,ih (fun m hm=>h m (List.mem_cons_of_mem _ hm))];rfl
theorem UH:∀(L:List UInt8),Cn L→grp (yg L)=L
 |[],h=>h.elim
 |[c],h=>by
  have h:c.toNat<128:=h;have e:yg [c]=c.toNat:=by simp only[yg];omega
  rw[e,xP h];simp
 |c::d::s,h=>by
  have ih:=UH (d::s) h.2.1;have hv:yg (c::d::s)=c.toNat % 128+128*yg (d::s):=rfl;have hc:c.toNat<256:=UInt8.toNat_lt c
  have hpos:0<yg (d::s):=by
   rcases Nat.eq_zero_or_pos (yg (d::s))with h0|h0
   ·exfalso
    rw[h0,xP (by omega)]at ih;injection ih with i1 i2;have:=h.2.2 (by rw[←i2];rfl);apply this;rw[←i1];rfl
   ·exact h0
  have hne:¬yg (c::d::s)<128:=by rw[hv];omega
  rw[ZV hne,hv];have e1:(c.toNat % 128+128*yg (d::s)) / 128=yg (d::s):=by omega
  have e2:(c.toNat % 128+128*yg (d::s)) % 128=c.toNat % 128:=by omega
  rw[e1,e2,ih]
  congr 1
  apply UInt8.toNat_inj.1;have:=h.1;rw[show(UInt8.ofNat (128+c.toNat % 128)).toNat=128+c.toNat % 128 by simp;omega];omega
theorem WV:∀(b:List UInt8),hib b<b.length→¬(0<hib b∧(b.getD (hib b) 0).toNat=0)→Cn (b.take (hib b+1))
 |[],h,_=>by simp at h
 |c::r,h,hn=>by
  by_cases hc:128≤c.toNat
  ·have e:hib (c::r)=hib r+1:=by rw[hib,if_pos hc]
   rw[e]at h hn ⊢;have hr:hib r<r.length:=by simpa using h
   have hn2:(r.getD (hib r) 0).toNat≠0:=fun h0=>hn ⟨by omega,by simpa using h0⟩
   have ih:=WV r hr (fun hh=>hn2 hh.2);rw[List.take_succ_cons]
   cases r with
   |nil=>simp at hr
   |cons d s=>
    rw[List.take_succ_cons]at ih ⊢;refine⟨hc,ih,fun hl=>?_⟩
    have:hib (d::s)=0:=by
     have hl':((d::s).take (hib (d::s)+1)).length=1:=by rw[List.take_succ_cons];exact hl
     rw[List.length_take]at hl';omega
    rw[this]at hn2;simpa using hn2
  ·have e:hib (c::r)=0:=by rw[hib,if_neg hc]
   rw[e];show c.toNat<128;omega
theorem VZ {b r:List UInt8} {n:Int} (h:one b=some (n,r)):b=vr n++r:=by
 unfold one at h
 split at h
 ·rename_i hc
  injection h with h;injection h with h1 h2;rw[vr,←h1,UP,UH _ (WV b hc.1 hc.2.2),←h2,List.take_append_drop]
 ·cases h
theorem Vy:∀(k:Nat) (b:List UInt8) (l:List Int),b.length≤k→nums b=some l→vrs l=b:=by
 intro k
 induction k with
 |zero=>
  intro b l hb h;obtain rfl:b=[]:=List.eq_nil_of_length_eq_zero (by omega);rw[xH]at h;injection h with h;rw[←h];rfl
 |succ k ih=>
  intro b l hb h;by_cases e:b=[]
  ·subst e
   rw[xH]at h;injection h with h;rw[←h];rfl
  ·cases ho:one b with
   |none=>rw[Zh e ho]at h;cases h
   |some x=>
    obtain⟨n,r⟩:=x;rw[Zg ho]at h
    cases hr:nums r with
    |none=>rw[hr]at h;cases h
    |some m=>
     rw[hr]at h;injection h with h;have hs:=Y5 ho;rw[←h,vrs,ih r m (by omega) hr,←VZ ho]
theorem lis_get (L:List Is):lis (fun i=>L.getD i ⟨0,0,0,0⟩) L.length=L:=by
 apply List.ext_getElem
 ·simp[lis]
 ·intro i h1 h2
  simp[lis,List.getD_eq_getElem?_getD,List.getElem?_eq_getElem h2]
theorem WH (d:Dc):xI d.co=d.all:=by
 rw[xI,Dc.all,xK,xK,xK];simp only[Dc.co,xm];rw[lis_get,lis_get,lis_get];rfl
theorem Tp (d:Dc) (hv:yD d.co=true) (hb:∀n∈xI d.co,-1000000000≤n∧n≤1000000000) (h1:d.L1.length≤16384) (h2:d.L2.length≤16384) (h3:d.L3.length≤16384):yq (answer d.co)=d:=by
 refine yV ⟨?_,h1,h2,h3⟩ hv;unfold answer;rw[if_pos hv,encB,V9 _ hb,WH]
theorem Tn {b:List UInt8} (hv:yD (yq b).co=true):answer (yq b).co=b:=by
 by_cases hx:∃d,Shape b d∧yD d.co=true
 ·obtain⟨d,hs,ho⟩:=hx
  rw[yV hs ho];unfold answer;rw[if_pos ho,encB,WH];exact Vy b.length b _ (qn _) hs.1
 ·exfalso
  have:yq b=zc:=by unfold yq;rw[dif_neg hx]
  rw[this]at hv;revert hv
  decide
end Go.Proofs.YtbdldkpifanaiaaDoor.Dec
namespace Go.Proofs.YtbdldkpifanaiaaDoor.Cd
open Go Go.RowKit Mem Syn Parse Par Dq Draw
attribute [local go_sem ↓] Go.wp_at_zero Go.wp_at_succ
variable {B g:Nat} {w0 w w':World} {bs:List UInt8} {D:Sr} {s s':DS}
theorem Wv (P:Pr):(y8 P).L3.length≤1000000:=by
 by_cases h:xR P=0
 ·have ok:=Xw h
  have hn:=ok.n;have h2:=ZH P ok (reg P P.n) P.n (qn _);rw[YN h];dsimp only;rw[xr];omega
 ·have:y8 P=⟨0,0,[],[],[]⟩:=by unfold y8;rw[if_pos h]
  rw[this];simp
theorem Uz (K:Kd) (s:DS):(zZ D K s).1.L1.length≤K.L1.length+1∧(zZ D K s).1.L2.length=K.L2.length∧(zZ D K s).1.L3=K.L3:=by
 unfold zZ
 split
 split
 ·exact⟨Nat.le_succ _,rfl,rfl⟩
 split
 ·exact⟨Nat.le_succ _,rfl,rfl⟩
 split
 ·split
  split
  exact⟨Nat.le_succ _,rfl,rfl⟩
 split
 ·refine⟨?_,rfl,rfl⟩
  simp
 split
 ·exact⟨Nat.le_succ _,rfl,rfl⟩
 split
 refine⟨Nat.le_succ _,?_,rfl⟩;simp
theorem XW (s:DS) (z:Nat):(YM D s z).1.L1.length≤1048576∧(YM D s z).1.L2.length≤1048576∧(YM D s z).1.L3.length≤1048576:=by
 unfold YM
 split
 rename_i X s1 _
 split
 have h1:=Xf (prK X);have h3:=Wv (prK X)
 split
 ·rename_i s2 _ _
  obtain⟨q1,q2,q3⟩:=Uz (D:=D) (y8 (prK X)) s2;rw[q2,q3];omega
 ·dsimp only;omega
def Kd.dc (K:Kd):Dec.Dc:=⟨K.R,K.S,K.L1,K.L2,K.L3⟩
theorem OI.at {B':Nat} {a:Option Addr} {n c:Nat} {L:List Is} (h:OI B' w (.slice a n c) L):zq w a L.length 4 (fun i=>(L.getD i ⟨0,0,0,0⟩).cells):=by
 obtain⟨a',c',h1,-,h2⟩:=h.rd;injection h1 with h1 _ _;subst h1;rcases h2 with⟨-,-,h2⟩|⟨g,off,rfl,h2⟩
 ·exact Or.inl (by rw[h2];rfl)
 ·refine Or.inr ⟨g,off,rfl,fun i hi j u hu=>?_⟩
  have hj:j<4:=by
   have:=(List.getElem?_eq_some_iff.1 hu).1;rw[Is.len]at this;exact this
  have:=h2 (i*4+j) u (by unfold isC;rw[Dec.flat_get L i j hi hj];exact hu);rw[←Nat.add_assoc]at this;exact this
theorem WU {B':Nat} {a1 a2 a3:Option Addr} {n1 n2 n3 c1 c2 c3:Nat} {K:Kd} (h1:OI B' w (.slice a1 n1 c1) K.L1) (h2:OI B' w (.slice a2 n2 c2) K.L2) (h3:OI B' w (.slice a3 n3 c3) K.L3):Zl w a1 a2 a3 K.dc.co:=⟨h1.at,h2.at,h3.at⟩
def WT (bs:List UInt8):Kd:=(YM ⟨yf bs,Zb bs⟩ ⟨0,y9 bs.length bs⟩ (xp bs.length 5)).1
inductive CodeR (w w':World) (k:Kd) (r:Ending):Prop
 |mk (a1 a2 a3:Option Addr) (c1 c2 c3:Nat) (he:r=.returned (.agg #[.int .i64 k.R,.int .i64 k.S,.slice a1 k.L1.length c1,.slice a2 k.L2.length c2,.slice a3 k.L3.length c3])) (o1:OI w.heap.size w' (.slice a1 k.L1.length c1) k.L1) (o2:OI w.heap.size w' (.slice a2 k.L2.length c2) k.L2) (o3:OI w.heap.size w' (.slice a3 k.L3.length c3) k.L3) (hb:Below w.heap.size w w'):CodeR w w' k r
theorem Uw (v:Value) (w:World) (hBs:B≤w.heap.size) (ht:Txt B w v bs) (hl:bs.length≤1048576):Calls Tryd.prog 4 #[v] w (fun e w'=>CodeR w w' (WT bs) e):=by
 obtain⟨D,hD⟩:∃D:Sr,D=⟨yf bs,Zb bs⟩:=⟨_,rfl⟩;have hDb:Hid (∀s n,D.bel s n=yf bs s n):=fun s n=>by rw[hD]
 have hDo:Hid (∀s n,D.once s n=Zb bs s n):=fun s n=>by rw[hD]
 obtain⟨s0,hs0⟩:∃s0:DS,s0=⟨0,y9 bs.length bs⟩:=⟨_,rfl⟩;obtain⟨z,hz⟩:∃z,z=xp bs.length 5:=⟨_,rfl⟩;obtain⟨M,s9,hM⟩:∃M s9,YM D s0 z=(M,s9):=⟨_,_,rfl⟩;have hmm:WT bs=M:=by unfold WT;rw[←hD,←hs0,←hz,hM]
 rw[hmm];obtain⟨p,c,hv,-,-,-⟩:=ht.rd;subst hv;obtain⟨nb,hnb⟩:∃n,n=bs.length:=⟨_,rfl⟩;obtain⟨w1,hW1⟩:∃W,W=w.alloc (.cells #[.int .i64 0,.int .i64 0,.slice none 0 0,.slice none 0 0,.slice none 0 0] 25):=⟨_,rfl⟩;have hz2:w.heap.size<w1.heap.size:=by rw[hW1];simp
 have A1:Hid (Below w.heap.size w w1):=by rw[hW1];exact zf (Below.refl _ _) _
 have K1:Hid (w1.heap[w.heap.size]? =some (.cells #[.int .i64 0,.int .i64 0,.slice none 0 0,.slice none 0 0,.slice none 0 0] 25)):=by rw[hW1];exact zi _ _
 have CN:Hid (Calls Tryd.prog 12 #[.slice p nb c] w1 fun e w'=>∃g,e=.returned (.pointer (some ⟨g,0,none⟩))∧w1.heap.size≤g∧DC B g w' bs s0∧Below w1.heap.size w1 w'):=by
  rw[hs0,hnb];exact newD B _ bs w1 (by omega) (ht.below (A1.out.mono hBs)) hl
 have CA:Hid (∀g w',Cu B g w' w' bs D s0→Calls Tryd.prog 13 #[.pointer (some ⟨g,0,none⟩),.slice p nb c] w' (AnyP B g w' bs D (M,s9))):=fun g w' h=>by
  have:=Wd p nb c (by omega) h;rw[hnb,←hz,hM]at this;rw[hnb];exact this
 rw[←hnb];clear hs0 hz hM hmm ht hD hnb;go_enter Tryd.func4,Tryd.ntmps4;go_upto_region 1 with fail;rw[←hW1];clear hW1;go_wp2_with (go_at_call 12;refine CN.out.mono ?_);rintro e w2 ⟨g,rfl,hg,hd,hb⟩;have hz3:=hd.lt;have C2:=Hm (⟨hd,World.grownBy.refl _ _,by omega,hz3,hl,hDb.out,hDo.out⟩:Cu B g w2 w2 bs D s0);have B2:=Hm (zg A1.out hb);have K2:=Hm (ze K1.out hb);clear hd hb A1 K1 CN;refine Hid.out ?_;refine Lib.hid ?_;go_wp2_with (go_at_call 13;refine(CA.out _ _ C2.out).mono ?_);rintro e w3 ⟨v1,v2,v3,rfl,o1,o2,o3,hc⟩;dsimp only at o1 o2 o3 hc ⊢;obtain⟨a1,c1,hv⟩:=o1.shape;subst hv;obtain⟨a2,c2,hv⟩:=o2.shape;subst hv;obtain⟨a3,c3,hv⟩:=o3.shape;subst hv;have hws:=B2.out.size;have hne:w.heap.size≠g:=by omega
 have K3:=Hm (Wt hc.gb K2.out hne);have B3:=Hm (B2.out.grown hc.gb B2.out.size (fun k hk=>by injection hk with hk;omega));have O1:=Hm (o1.mono hws);have O2:=Hm (o2.mono hws);have O3:=Hm (o3.mono hws);clear o1 o2 o3 hc K2 B2;have g0:=za K3.out 0;have g1:=za K3.out 1;have g2:=za K3.out 2;have g3:=za K3.out 3;have g4:=za K3.out 4;have f0:=zb K3.out 0;have f1:=zb K3.out 1;have f2:=zb K3.out 2;have f3:=zb K3.out 3;have f4:=zb K3.out 4;simp only[qk,ql,qm]at g0 g1 g2 g3 g4;obtain⟨n1,hn1⟩:∃n,n=M.L1.length:=⟨_,rfl⟩;obtain⟨n2,hn2⟩:∃n,n=M.L2.length:=⟨_,rfl⟩;obtain⟨n3,hn3⟩:∃n,n=M.L3.length:=⟨_,rfl⟩;rw[←hn1]at O1 ⊢
 rw[←hn2]at O2 ⊢;rw[←hn3]at O3 ⊢;have HN:=Hm (And.intro hn1 (And.intro hn2 hn3));clear hn1 hn2 hn3;go_wp2;obtain⟨Z,hZ,RZ,QZ,OZ⟩:=Dec.put5 K3.out (.int .i64 M.R) (.int .i64 M.S) (.slice a1 n1 c1) (.slice a2 n2 c2) (.slice a3 n3 c3);rw[hZ];have z0:=za RZ 0;have z1:=za RZ 1;have z2:=za RZ 2;have z3:=za RZ 3;have z4:=za RZ 4;simp only[qk,ql,qm]at z0 z1 z2 z3 z4;refine bodyPost_ret (v:=.agg #[.int .i64 M.R,.int .i64 M.S,.slice a1 n1 c1,.slice a2 n2 c2,.slice a3 n3 c3]) (by simp[results,Tryd.results4,go_sem,z0,z1,z2,z3,z4];try rfl) rfl ?_;obtain⟨q1,q2,q3⟩:=HN.out;subst q1;subst q2;subst q3
 exact .mk _ _ _ _ _ _ rfl (OZ _ _ _ _ _ _ (by decide) O1.out) (OZ _ _ _ _ _ _ (by decide) O2.out) (OZ _ _ _ _ _ _ (by decide) O3.out) (xL B3.out QZ (qn _))
end Go.Proofs.YtbdldkpifanaiaaDoor.Cd
