import Derived.Test.YtbdldkpifanaiaaDoorCr17
set_option maxHeartbeats 6400000
set_option maxRecDepth 100000
set_option linter.unusedVariables false
set_option linter.unusedSimpArgs false
open List renaming length_append → qg, getElem?_toArray → qk, getElem?_cons_zero → ql, getElem?_cons_succ → qm
namespace Go.Proofs.YtbdldkpifanaiaaDoor.Cd
open Go Go.RowKit Mem Syn
attribute [local go_sem ↓] Go.wp_at_zero Go.wp_at_succ
def leafI (nr:List UInt8→Nat) (o:Po) (t:Int):Is:=
 if o.k=1∨o.k=6 then ⟨1,t,o.v,0⟩else if o.k=2 then ⟨2,t,(nr o.n:Int),0⟩else if o.k=3 then ⟨2,t,o.v,0⟩else if o.k=4 then ⟨13,t,o.v,0⟩else ⟨14,t,o.v,0⟩
def gen (nr:List UInt8→Nat):Tr→Int→List Is
 |.leaf o,t=>[leafI nr o t]
 |.pre o a,t=>gen nr a t++[⟨if o.k=7 then 3 else 4,t,t,0⟩]
 |.bin o a b,t=>if o.v=6∨o.v=7 then gen nr a t++([⟨if o.v=7 then 16 else 15,t,((gen nr b t).length:Int)+1,0⟩]++gen nr b t)else gen nr a t++(gen nr b (t+1)++[⟨5+o.v,t,t,t+1⟩])
 |.two o a b,t=>gen nr a t++(gen nr b (t+1)++[⟨11+o.v,t,t,t+1⟩])
 |.three o a b c,t=>gen nr a t++([⟨15,t,((gen nr b t).length:Int)+2,0⟩]++(gen nr b t++([⟨17,0,((gen nr c t).length:Int)+1,0⟩]++gen nr c t)))
theorem zT (nr:List UInt8→Nat):∀(t:Tr) (r:Int),(gen nr t r).length≤2*(pf t).length
 |.leaf o,r=>by simp[gen,pf]
 |.pre o a,r=>by have:=zT nr a r;simp[gen,pf];omega
 |.bin o a b,r=>by
  have:=zT nr a r;have:=zT nr b r;have:=zT nr b (r+1);simp only[gen,pf];split<;>simp<;>omega
 |.two o a b,r=>by
  have:=zT nr a r;have:=zT nr b (r+1);simp[gen,pf];omega
 |.three o a b c,r=>by
  have:=zT nr a r;have:=zT nr b r;have:=zT nr c r;simp[gen,pf];omega
inductive GenP (w w':World) (L:List Is) (r:Ending):Prop
 |mk (v:Value) (he:r=.returned v) (ho:OI w.heap.size w' v L) (hb:Below w.heap.size w w'):GenP w w' L r
theorem GenP.of {w w':World} {L M:List Is} {r:Ending} (h:GenP w w' L r) (e:M=L):GenP w w' M r:=by rw[e];exact h
def xE (P:Pr) (a:Option Addr) (c:Nat) (L:Nat→Lo) (t:Tr):Prop:=
 ∀(r:Int) (b off n cap:Nat) (w:World),yr w a P L→RdP w b off (pf t)→n=(pf t).length→n≤cap→n≤100000→0≤r→r+n≤200000→
  Calls Tryd.prog 45 #[.agg #[.slice a P.n c],.slice (some ⟨b,off,none⟩) n cap,.int .i64 r] w fun e w'=>GenP w w' (gen (zG P) t r) e
theorem gl1 (P:Pr) (a:Option Addr) (c:Nat) (L:Nat→Lo) (hPn:P.n≤1048576) (nm:List UInt8) (v:Int) (A:List Po) (r:Int) (b off m cap:Nat) (w:World) (hP:yr w a P L) (hr:RdP w b off (A++[⟨1,v,nm⟩])) (hm:m=A.length) (hcap:m+1≤cap) (hmb:m+1≤100000) (hr0:0≤r) (hr1:r+(m+1:Nat)≤200000):
  Calls Tryd.prog 45 #[.agg #[.slice a P.n c],.slice (some ⟨b,off,none⟩) (m+1) cap,.int .i64 r] w fun e w'=>GenP w w' ([⟨1,r,v,0⟩]) e:=by
 obtain⟨c0,c1,c2⟩:=hr m (by rw[qg,←hm];simp);have eo:(A++[(⟨1,v,nm⟩:Po)]).getD m ⟨0,0,[]⟩=⟨1,v,nm⟩:=by rw[List.getD_eq_getElem?_getD,List.getElem?_append_right (by omega),hm];simp
 rw[eo]at c0 c1 c2;dsimp only at c0 c1 c2;clear eo;obtain⟨V,hV⟩:∃V,V=w.alloc (.cells #[.slice a P.n c] 54):=⟨_,rfl⟩;have d0:V.cell? ⟨b,off+m*3,none⟩=some (.int .i64 1):=by rw[hV];exact zr c0 _
 have d1:V.cell? ⟨b,off+m*3+1,none⟩=some (.int .i64 v):=by rw[hV];exact zr c1 _
 have d2:V.cell? ⟨b,off+m*3+2,none⟩=some (.string ⟨nm.toArray⟩):=by rw[hV];exact zr c2 _
 obtain⟨W1,hW1⟩:∃W1,W1=V.alloc (.cells #[.int .i64 1,.int .i64 v,.string ⟨nm.toArray⟩] 97):=⟨_,rfl⟩;have B1:Hid (Below w.heap.size w W1):=by rw[hW1,hV];exact zf (zf (Below.refl _ _) _) _
 have P1:Hid (W1.heap[w.heap.size]? =some (.cells #[.slice a P.n c] 54)):=by rw[hW1,hV];exact zh (zi _ _) _
 have O1:Hid (W1.heap[w.heap.size+1]? =some (.cells #[.int .i64 1,.int .i64 v,.string ⟨nm.toArray⟩] 97)):=by rw[hW1,hV];exact zx _ _ _
 have hVs:V.heap.size=w.heap.size+1:=by rw[hV];simp
 have HP:=Hm hP;have HR:=Hm hr;have HM:=Hm hm;clear hP hr hm c0 c1 c2;have t1:IntKind.i64.wrap (((m+1:Nat):Int) -1)=(m:Int):=by rw[show((m+1:Nat):Int) -1=(m:Int) by omega];exact wrap_small _ (by omega) (by omega)
 have t2:IntKind.i64.wrap ((m:Int)+1-1)=(m:Int):=by rw[show(m:Int)+1-1=(m:Int) by omega];exact wrap_small _ (by omega) (by omega)
 have m0:(0:Int)≤(m:Int):=by omega
 have m1:(m:Int)<(m:Int)+1:=by omega
 have m2:(m:Int)≤(cap:Int):=by omega
 have m3:(m:Int)+1≤(cap:Int):=by omega
 have HV:=Hm hV;have HW:=Hm hW1;have HVS:=Hm hVs;clear hV hW1 hVs;go_enter Tryd.func45,Tryd.ntmps45;go_upto_region 1 with fail;rw[←HV.out];go_upto_region 2 with fail;rw[HVS.out,←HW.out];clear HV HW HVS d0 d1 d2;have x0:=za P1.out 0;have y0:=za O1.out 0;have y1:=za O1.out 1;have y2:=za O1.out 2;simp only[qk,ql,qm]at x0 y0 y1 y2;go_wp2_with (go_at_call 58;refine(yp _ _ _ _ _).mono ?_);rintro e w2 ⟨v2,rfl,ho,hb⟩;have B2:=Hm (zg B1.out hb);have O2:=Hm (ho.mono B1.out.size);clear hb ho x0 y0 y1 y2;go_wp2;go_ret;exact .mk _ rfl O2.out B2.out
theorem gl6 (P:Pr) (a:Option Addr) (c:Nat) (L:Nat→Lo) (hPn:P.n≤1048576) (nm:List UInt8) (v:Int) (A:List Po) (r:Int) (b off m cap:Nat) (w:World) (hP:yr w a P L) (hr:RdP w b off (A++[⟨6,v,nm⟩])) (hm:m=A.length) (hcap:m+1≤cap) (hmb:m+1≤100000) (hr0:0≤r) (hr1:r+(m+1:Nat)≤200000):
  Calls Tryd.prog 45 #[.agg #[.slice a P.n c],.slice (some ⟨b,off,none⟩) (m+1) cap,.int .i64 r] w fun e w'=>GenP w w' ([⟨1,r,v,0⟩]) e:=by
 obtain⟨c0,c1,c2⟩:=hr m (by rw[qg,←hm];simp);have eo:(A++[(⟨6,v,nm⟩:Po)]).getD m ⟨0,0,[]⟩=⟨6,v,nm⟩:=by rw[List.getD_eq_getElem?_getD,List.getElem?_append_right (by omega),hm];simp
 rw[eo]at c0 c1 c2;dsimp only at c0 c1 c2;clear eo;obtain⟨V,hV⟩:∃V,V=w.alloc (.cells #[.slice a P.n c] 54):=⟨_,rfl⟩;have d0:V.cell? ⟨b,off+m*3,none⟩=some (.int .i64 6):=by rw[hV];exact zr c0 _
 have d1:V.cell? ⟨b,off+m*3+1,none⟩=some (.int .i64 v):=by rw[hV];exact zr c1 _
 have d2:V.cell? ⟨b,off+m*3+2,none⟩=some (.string ⟨nm.toArray⟩):=by rw[hV];exact zr c2 _
 obtain⟨W1,hW1⟩:∃W1,W1=V.alloc (.cells #[.int .i64 6,.int .i64 v,.string ⟨nm.toArray⟩] 97):=⟨_,rfl⟩;have B1:Hid (Below w.heap.size w W1):=by rw[hW1,hV];exact zf (zf (Below.refl _ _) _) _
 have P1:Hid (W1.heap[w.heap.size]? =some (.cells #[.slice a P.n c] 54)):=by rw[hW1,hV];exact zh (zi _ _) _
 have O1:Hid (W1.heap[w.heap.size+1]? =some (.cells #[.int .i64 6,.int .i64 v,.string ⟨nm.toArray⟩] 97)):=by rw[hW1,hV];exact zx _ _ _
 have hVs:V.heap.size=w.heap.size+1:=by rw[hV];simp
 have HP:=Hm hP;have HR:=Hm hr;have HM:=Hm hm;clear hP hr hm c0 c1 c2;have t1:IntKind.i64.wrap (((m+1:Nat):Int) -1)=(m:Int):=by rw[show((m+1:Nat):Int) -1=(m:Int) by omega];exact wrap_small _ (by omega) (by omega)
 have t2:IntKind.i64.wrap ((m:Int)+1-1)=(m:Int):=by rw[show(m:Int)+1-1=(m:Int) by omega];exact wrap_small _ (by omega) (by omega)
 have m0:(0:Int)≤(m:Int):=by omega
 have m1:(m:Int)<(m:Int)+1:=by omega
 have m2:(m:Int)≤(cap:Int):=by omega
 have m3:(m:Int)+1≤(cap:Int):=by omega
 have HV:=Hm hV;have HW:=Hm hW1;have HVS:=Hm hVs;clear hV hW1 hVs;go_enter Tryd.func45,Tryd.ntmps45;go_upto_region 1 with fail;rw[←HV.out];go_upto_region 2 with fail;rw[HVS.out,←HW.out];clear HV HW HVS d0 d1 d2;have x0:=za P1.out 0;have y0:=za O1.out 0;have y1:=za O1.out 1;have y2:=za O1.out 2;simp only[qk,ql,qm]at x0 y0 y1 y2;go_wp2_with (go_at_call 58;refine(yp _ _ _ _ _).mono ?_);rintro e w2 ⟨v2,rfl,ho,hb⟩;have B2:=Hm (zg B1.out hb);have O2:=Hm (ho.mono B1.out.size);clear hb ho x0 y0 y1 y2;go_wp2;go_ret;exact .mk _ rfl O2.out B2.out
theorem gl3 (P:Pr) (a:Option Addr) (c:Nat) (L:Nat→Lo) (hPn:P.n≤1048576) (nm:List UInt8) (v:Int) (A:List Po) (r:Int) (b off m cap:Nat) (w:World) (hP:yr w a P L) (hr:RdP w b off (A++[⟨3,v,nm⟩])) (hm:m=A.length) (hcap:m+1≤cap) (hmb:m+1≤100000) (hr0:0≤r) (hr1:r+(m+1:Nat)≤200000):
  Calls Tryd.prog 45 #[.agg #[.slice a P.n c],.slice (some ⟨b,off,none⟩) (m+1) cap,.int .i64 r] w fun e w'=>GenP w w' ([⟨2,r,v,0⟩]) e:=by
 obtain⟨c0,c1,c2⟩:=hr m (by rw[qg,←hm];simp);have eo:(A++[(⟨3,v,nm⟩:Po)]).getD m ⟨0,0,[]⟩=⟨3,v,nm⟩:=by rw[List.getD_eq_getElem?_getD,List.getElem?_append_right (by omega),hm];simp
 rw[eo]at c0 c1 c2;dsimp only at c0 c1 c2;clear eo;obtain⟨V,hV⟩:∃V,V=w.alloc (.cells #[.slice a P.n c] 54):=⟨_,rfl⟩;have d0:V.cell? ⟨b,off+m*3,none⟩=some (.int .i64 3):=by rw[hV];exact zr c0 _
 have d1:V.cell? ⟨b,off+m*3+1,none⟩=some (.int .i64 v):=by rw[hV];exact zr c1 _
 have d2:V.cell? ⟨b,off+m*3+2,none⟩=some (.string ⟨nm.toArray⟩):=by rw[hV];exact zr c2 _
 obtain⟨W1,hW1⟩:∃W1,W1=V.alloc (.cells #[.int .i64 3,.int .i64 v,.string ⟨nm.toArray⟩] 97):=⟨_,rfl⟩;have B1:Hid (Below w.heap.size w W1):=by rw[hW1,hV];exact zf (zf (Below.refl _ _) _) _
 have P1:Hid (W1.heap[w.heap.size]? =some (.cells #[.slice a P.n c] 54)):=by rw[hW1,hV];exact zh (zi _ _) _
 have O1:Hid (W1.heap[w.heap.size+1]? =some (.cells #[.int .i64 3,.int .i64 v,.string ⟨nm.toArray⟩] 97)):=by rw[hW1,hV];exact zx _ _ _
 have hVs:V.heap.size=w.heap.size+1:=by rw[hV];simp
 have HP:=Hm hP;have HR:=Hm hr;have HM:=Hm hm;clear hP hr hm c0 c1 c2;have t1:IntKind.i64.wrap (((m+1:Nat):Int) -1)=(m:Int):=by rw[show((m+1:Nat):Int) -1=(m:Int) by omega];exact wrap_small _ (by omega) (by omega)
 have t2:IntKind.i64.wrap ((m:Int)+1-1)=(m:Int):=by rw[show(m:Int)+1-1=(m:Int) by omega];exact wrap_small _ (by omega) (by omega)
 have m0:(0:Int)≤(m:Int):=by omega
 have m1:(m:Int)<(m:Int)+1:=by omega
 have m2:(m:Int)≤(cap:Int):=by omega
 have m3:(m:Int)+1≤(cap:Int):=by omega
 have HV:=Hm hV;have HW:=Hm hW1;have HVS:=Hm hVs;clear hV hW1 hVs;go_enter Tryd.func45,Tryd.ntmps45;go_upto_region 1 with fail;rw[←HV.out];go_upto_region 2 with fail;rw[HVS.out,←HW.out];clear HV HW HVS d0 d1 d2;have x0:=za P1.out 0;have y0:=za O1.out 0;have y1:=za O1.out 1;have y2:=za O1.out 2;simp only[qk,ql,qm]at x0 y0 y1 y2;go_wp2_with (go_at_call 58;refine(yp _ _ _ _ _).mono ?_);rintro e w2 ⟨v2,rfl,ho,hb⟩;have B2:=Hm (zg B1.out hb);have O2:=Hm (ho.mono B1.out.size);clear hb ho x0 y0 y1 y2;go_wp2;go_ret;exact .mk _ rfl O2.out B2.out
theorem gl4 (P:Pr) (a:Option Addr) (c:Nat) (L:Nat→Lo) (hPn:P.n≤1048576) (nm:List UInt8) (v:Int) (A:List Po) (r:Int) (b off m cap:Nat) (w:World) (hP:yr w a P L) (hr:RdP w b off (A++[⟨4,v,nm⟩])) (hm:m=A.length) (hcap:m+1≤cap) (hmb:m+1≤100000) (hr0:0≤r) (hr1:r+(m+1:Nat)≤200000):
  Calls Tryd.prog 45 #[.agg #[.slice a P.n c],.slice (some ⟨b,off,none⟩) (m+1) cap,.int .i64 r] w fun e w'=>GenP w w' ([⟨13,r,v,0⟩]) e:=by
 obtain⟨c0,c1,c2⟩:=hr m (by rw[qg,←hm];simp);have eo:(A++[(⟨4,v,nm⟩:Po)]).getD m ⟨0,0,[]⟩=⟨4,v,nm⟩:=by rw[List.getD_eq_getElem?_getD,List.getElem?_append_right (by omega),hm];simp
 rw[eo]at c0 c1 c2;dsimp only at c0 c1 c2;clear eo;obtain⟨V,hV⟩:∃V,V=w.alloc (.cells #[.slice a P.n c] 54):=⟨_,rfl⟩;have d0:V.cell? ⟨b,off+m*3,none⟩=some (.int .i64 4):=by rw[hV];exact zr c0 _
 have d1:V.cell? ⟨b,off+m*3+1,none⟩=some (.int .i64 v):=by rw[hV];exact zr c1 _
 have d2:V.cell? ⟨b,off+m*3+2,none⟩=some (.string ⟨nm.toArray⟩):=by rw[hV];exact zr c2 _
 obtain⟨W1,hW1⟩:∃W1,W1=V.alloc (.cells #[.int .i64 4,.int .i64 v,.string ⟨nm.toArray⟩] 97):=⟨_,rfl⟩;have B1:Hid (Below w.heap.size w W1):=by rw[hW1,hV];exact zf (zf (Below.refl _ _) _) _
 have P1:Hid (W1.heap[w.heap.size]? =some (.cells #[.slice a P.n c] 54)):=by rw[hW1,hV];exact zh (zi _ _) _
 have O1:Hid (W1.heap[w.heap.size+1]? =some (.cells #[.int .i64 4,.int .i64 v,.string ⟨nm.toArray⟩] 97)):=by rw[hW1,hV];exact zx _ _ _
 have hVs:V.heap.size=w.heap.size+1:=by rw[hV];simp
 have HP:=Hm hP;have HR:=Hm hr;have HM:=Hm hm;clear hP hr hm c0 c1 c2;have t1:IntKind.i64.wrap (((m+1:Nat):Int) -1)=(m:Int):=by rw[show((m+1:Nat):Int) -1=(m:Int) by omega];exact wrap_small _ (by omega) (by omega)
 have t2:IntKind.i64.wrap ((m:Int)+1-1)=(m:Int):=by rw[show(m:Int)+1-1=(m:Int) by omega];exact wrap_small _ (by omega) (by omega)
 have m0:(0:Int)≤(m:Int):=by omega
 have m1:(m:Int)<(m:Int)+1:=by omega
 have m2:(m:Int)≤(cap:Int):=by omega
 have m3:(m:Int)+1≤(cap:Int):=by omega
 have HV:=Hm hV;have HW:=Hm hW1;have HVS:=Hm hVs;clear hV hW1 hVs;go_enter Tryd.func45,Tryd.ntmps45;go_upto_region 1 with fail;rw[←HV.out];go_upto_region 2 with fail;rw[HVS.out,←HW.out];clear HV HW HVS d0 d1 d2;have x0:=za P1.out 0;have y0:=za O1.out 0;have y1:=za O1.out 1;have y2:=za O1.out 2;simp only[qk,ql,qm]at x0 y0 y1 y2;go_wp2_with (go_at_call 58;refine(yp _ _ _ _ _).mono ?_);rintro e w2 ⟨v2,rfl,ho,hb⟩;have B2:=Hm (zg B1.out hb);have O2:=Hm (ho.mono B1.out.size);clear hb ho x0 y0 y1 y2;go_wp2;go_ret;exact .mk _ rfl O2.out B2.out
theorem gl5 (P:Pr) (a:Option Addr) (c:Nat) (L:Nat→Lo) (hPn:P.n≤1048576) (nm:List UInt8) (v:Int) (A:List Po) (r:Int) (b off m cap:Nat) (w:World) (hP:yr w a P L) (hr:RdP w b off (A++[⟨5,v,nm⟩])) (hm:m=A.length) (hcap:m+1≤cap) (hmb:m+1≤100000) (hr0:0≤r) (hr1:r+(m+1:Nat)≤200000):
  Calls Tryd.prog 45 #[.agg #[.slice a P.n c],.slice (some ⟨b,off,none⟩) (m+1) cap,.int .i64 r] w fun e w'=>GenP w w' ([⟨14,r,v,0⟩]) e:=by
 obtain⟨c0,c1,c2⟩:=hr m (by rw[qg,←hm];simp);have eo:(A++[(⟨5,v,nm⟩:Po)]).getD m ⟨0,0,[]⟩=⟨5,v,nm⟩:=by rw[List.getD_eq_getElem?_getD,List.getElem?_append_right (by omega),hm];simp
 rw[eo]at c0 c1 c2;dsimp only at c0 c1 c2;clear eo;obtain⟨V,hV⟩:∃V,V=w.alloc (.cells #[.slice a P.n c] 54):=⟨_,rfl⟩;have d0:V.cell? ⟨b,off+m*3,none⟩=some (.int .i64 5):=by rw[hV];exact zr c0 _
 have d1:V.cell? ⟨b,off+m*3+1,none⟩=some (.int .i64 v):=by rw[hV];exact zr c1 _
 have d2:V.cell? ⟨b,off+m*3+2,none⟩=some (.string ⟨nm.toArray⟩):=by rw[hV];exact zr c2 _
 obtain⟨W1,hW1⟩:∃W1,W1=V.alloc (.cells #[.int .i64 5,.int .i64 v,.string ⟨nm.toArray⟩] 97):=⟨_,rfl⟩;have B1:Hid (Below w.heap.size w W1):=by rw[hW1,hV];exact zf (zf (Below.refl _ _) _) _
 have P1:Hid (W1.heap[w.heap.size]? =some (.cells #[.slice a P.n c] 54)):=by rw[hW1,hV];exact zh (zi _ _) _
 have O1:Hid (W1.heap[w.heap.size+1]? =some (.cells #[.int .i64 5,.int .i64 v,.string ⟨nm.toArray⟩] 97)):=by rw[hW1,hV];exact zx _ _ _
 have hVs:V.heap.size=w.heap.size+1:=by rw[hV];simp
 have HP:=Hm hP;have HR:=Hm hr;have HM:=Hm hm;clear hP hr hm c0 c1 c2;have t1:IntKind.i64.wrap (((m+1:Nat):Int) -1)=(m:Int):=by rw[show((m+1:Nat):Int) -1=(m:Int) by omega];exact wrap_small _ (by omega) (by omega)
 have t2:IntKind.i64.wrap ((m:Int)+1-1)=(m:Int):=by rw[show(m:Int)+1-1=(m:Int) by omega];exact wrap_small _ (by omega) (by omega)
 have m0:(0:Int)≤(m:Int):=by omega
 have m1:(m:Int)<(m:Int)+1:=by omega
 have m2:(m:Int)≤(cap:Int):=by omega
 have m3:(m:Int)+1≤(cap:Int):=by omega
 have HV:=Hm hV;have HW:=Hm hW1;have HVS:=Hm hVs;clear hV hW1 hVs;go_enter Tryd.func45,Tryd.ntmps45;go_upto_region 1 with fail;rw[←HV.out];go_upto_region 2 with fail;rw[HVS.out,←HW.out];clear HV HW HVS d0 d1 d2;have x0:=za P1.out 0;have y0:=za O1.out 0;have y1:=za O1.out 1;have y2:=za O1.out 2;simp only[qk,ql,qm]at x0 y0 y1 y2;go_wp2_with (go_at_call 58;refine(yp _ _ _ _ _).mono ?_);rintro e w2 ⟨v2,rfl,ho,hb⟩;have B2:=Hm (zg B1.out hb);have O2:=Hm (ho.mono B1.out.size);clear hb ho x0 y0 y1 y2;go_wp2;go_ret;exact .mk _ rfl O2.out B2.out
theorem gl2 (P:Pr) (a:Option Addr) (c:Nat) (L:Nat→Lo) (hPn:P.n≤1048576) (nm:List UInt8) (v:Int) (A:List Po) (r:Int) (b off m cap:Nat) (w:World) (hP:yr w a P L) (hr:RdP w b off (A++[⟨2,v,nm⟩])) (hm:m=A.length) (hcap:m+1≤cap) (hmb:m+1≤100000) (hr0:0≤r) (hr1:r+(m+1:Nat)≤200000):
  Calls Tryd.prog 45 #[.agg #[.slice a P.n c],.slice (some ⟨b,off,none⟩) (m+1) cap,.int .i64 r] w fun e w'=>GenP w w' ([⟨2,r,(zG P nm:Int),0⟩]) e:=by
 obtain⟨c0,c1,c2⟩:=hr m (by rw[qg,←hm];simp);have eo:(A++[(⟨2,v,nm⟩:Po)]).getD m ⟨0,0,[]⟩=⟨2,v,nm⟩:=by rw[List.getD_eq_getElem?_getD,List.getElem?_append_right (by omega),hm];simp
 rw[eo]at c0 c1 c2;dsimp only at c0 c1 c2;clear eo;obtain⟨V,hV⟩:∃V,V=w.alloc (.cells #[.slice a P.n c] 54):=⟨_,rfl⟩;have d0:V.cell? ⟨b,off+m*3,none⟩=some (.int .i64 2):=by rw[hV];exact zr c0 _
 have d1:V.cell? ⟨b,off+m*3+1,none⟩=some (.int .i64 v):=by rw[hV];exact zr c1 _
 have d2:V.cell? ⟨b,off+m*3+2,none⟩=some (.string ⟨nm.toArray⟩):=by rw[hV];exact zr c2 _
 obtain⟨W1,hW1⟩:∃W1,W1=V.alloc (.cells #[.int .i64 2,.int .i64 v,.string ⟨nm.toArray⟩] 97):=⟨_,rfl⟩;have B1:Hid (Below w.heap.size w W1):=by rw[hW1,hV];exact zf (zf (Below.refl _ _) _) _
 have P1:Hid (W1.heap[w.heap.size]? =some (.cells #[.slice a P.n c] 54)):=by rw[hW1,hV];exact zh (zi _ _) _
 have O1:Hid (W1.heap[w.heap.size+1]? =some (.cells #[.int .i64 2,.int .i64 v,.string ⟨nm.toArray⟩] 97)):=by rw[hW1,hV];exact zx _ _ _
 have hVs:V.heap.size=w.heap.size+1:=by rw[hV];simp
 have HP:=Hm hP;have HR:=Hm hr;have HM:=Hm hm;clear hP hr hm c0 c1 c2;have t1:IntKind.i64.wrap (((m+1:Nat):Int) -1)=(m:Int):=by rw[show((m+1:Nat):Int) -1=(m:Int) by omega];exact wrap_small _ (by omega) (by omega)
 have t2:IntKind.i64.wrap ((m:Int)+1-1)=(m:Int):=by rw[show(m:Int)+1-1=(m:Int) by omega];exact wrap_small _ (by omega) (by omega)
 have m0:(0:Int)≤(m:Int):=by omega
 have m1:(m:Int)<(m:Int)+1:=by omega
 have m2:(m:Int)≤(cap:Int):=by omega
 have m3:(m:Int)+1≤(cap:Int):=by omega
 have HV:=Hm hV;have HW:=Hm hW1;have HVS:=Hm hVs;clear hV hW1 hVs;go_enter Tryd.func45,Tryd.ntmps45;go_upto_region 1 with fail;rw[←HV.out];go_upto_region 2 with fail;rw[HVS.out,←HW.out];clear HV HW HVS d0 d1 d2;have x0:=za P1.out 0;have y0:=za O1.out 0;have y1:=za O1.out 1;have y2:=za O1.out 2;simp only[qk,ql,qm]at x0 y0 y1 y2;go_wp2_with (go_at_call 61;refine(Ud P a c nm L _ (HP.out.below B1.out) hPn).mono ?_);rintro e w1 ⟨rfl,hb1⟩;have B1':=Hm (zg B1.out hb1);clear hb1 x0 y0 y1 y2 B1 P1 O1;go_wp2_with (go_at_call 58;refine(yp _ _ _ _ _).mono ?_);rintro e w2 ⟨v2,rfl,ho,hb⟩;have B2:=Hm (zg B1'.out hb);have O2:=Hm (ho.mono B1'.out.size);clear hb ho;go_wp2;go_ret;exact .mk _ rfl O2.out B2.out
end Go.Proofs.YtbdldkpifanaiaaDoor.Cd
