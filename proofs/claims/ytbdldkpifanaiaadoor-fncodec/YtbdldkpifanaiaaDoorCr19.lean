import Derived.Test.YtbdldkpifanaiaaDoorCr18
set_option maxHeartbeats 6400000
set_option maxRecDepth 100000
set_option linter.unusedVariables false
set_option linter.unusedSimpArgs false
open List renaming length_append → qg, append_assoc → qj, getElem?_toArray → qk, getElem?_cons_zero → ql, getElem?_cons_succ → qm
namespace Go.Proofs.YtbdldkpifanaiaaDoor.Cd
open Go Go.RowKit Mem Syn
attribute [local go_sem ↓] Go.wp_at_zero Go.wp_at_succ
theorem OI.shape {B:Nat} {w:World} {v:Value} {L:List Is} (h:OI B w v L):∃a c,v=.slice a L.length c:=by
 obtain⟨a,c,e,-⟩:=ya h;exact⟨a,c,e⟩
theorem xk (w:World) (x:Is) (t:TypeId):∀j u,(isC [x])[j]? =some u→(w.alloc (.cells #[.int .i64 x.p,.int .i64 x.a,.int .i64 x.b,.int .i64 x.c] t)).cell? ((⟨w.heap.size,0,none⟩:Addr).add j)=some u:=fun j u h=>by
 rw[Addr.add_lit,Nat.zero_add,za (zi w _) j];simpa[isC,Is.cells]using h
theorem OI.snoc {B:Nat} {w:World} {v:Value} {L:List Is} {x:Is} {n:Nat} (hn:n=L.length) (h:w.ownsRow B 60 4 v (n+1) (isC L++isC [x])):OI B w v (L++[x]):=by
 unfold OI;rw[qg,Xs,List.length_singleton,←hn];exact h
theorem cells3 {w:World} {g:Nat} {x y z:Value} {t:TypeId} (h:w.heap[g]? =some (.cells #[x,y,z] t)):∀i,i<3→w.cell? ⟨g,i,none⟩=some ([x,y,z].getD i x):=fun i hi=>by
 have:i=0∨i=1∨i=2:=by omega
 rcases this with rfl|rfl|rfl<;>exact za h _
theorem cells5 {w:World} {g:Nat} {x y z u v:Value} {t:TypeId} (h:w.heap[g]? =some (.cells #[x,y,z,u,v] t)):∀i,i<5→w.cell? ⟨g,i,none⟩=some ([x,y,z,u,v].getD i x):=fun i hi=>by
 have:i=0∨i=1∨i=2∨i=3∨i=4:=by omega
 rcases this with rfl|rfl|rfl|rfl|rfl<;>exact za h _
theorem rd3 {w:World} {x y z:Value} {A B C:List Is} (h1:RdL w x A) (h2:RdL w y B) (h3:RdL w z C):∀i,i<3→RdL w ([x,y,z].getD i x) ([A,B,C].getD i []):=fun i hi=>by
 have:i=0∨i=1∨i=2:=by omega
 rcases this with rfl|rfl|rfl
 ·exact h1
 ·exact h2
 ·exact h3
theorem rd5 {w:World} {x y z u v:Value} {A B C D E:List Is} (h1:RdL w x A) (h2:RdL w y B) (h3:RdL w z C) (h4:RdL w u D) (h5:RdL w v E):∀i,i<5→RdL w ([x,y,z,u,v].getD i x) ([A,B,C,D,E].getD i []):=fun i hi=>by
 have:i=0∨i=1∨i=2∨i=3∨i=4:=by omega
 rcases this with rfl|rfl|rfl|rfl|rfl
 ·exact h1
 ·exact h2
 ·exact h3
 ·exact h4
 ·exact h5
theorem Tc {A B C:List Is} {M:Nat} (h1:A.length≤M) (h2:B.length≤M) (h3:C.length≤M):∀i,i<3→([A,B,C].getD i []).length≤M:=fun i hi=>by
 have:i=0∨i=1∨i=2:=by omega
 rcases this with rfl|rfl|rfl<;>assumption
theorem len5 {A B C D E:List Is} {M:Nat} (h1:A.length≤M) (h2:B.length≤M) (h3:C.length≤M) (h4:D.length≤M) (h5:E.length≤M):∀i,i<5→([A,B,C,D,E].getD i []).length≤M:=fun i hi=>by
 have:i=0∨i=1∨i=2∨i=3∨i=4:=by omega
 rcases this with rfl|rfl|rfl|rfl|rfl<;>assumption
theorem gp7 (P:Pr) (a:Option Addr) (c:Nat) (L:Nat→Lo) (hPn:P.n≤1048576) (nm:List UInt8) (v:Int) (ta:Tr) (ih:xE P a c L ta) (r:Int) (b off m cap:Nat) (w:World) (hP:yr w a P L) (hr:RdP w b off (pf ta++[⟨7,v,nm⟩])) (hm:m=(pf ta).length) (hcap:m+1≤cap) (hmb:m+1≤100000) (hr0:0≤r) (hr1:r+(m+1:Nat)≤200000):
  Calls Tryd.prog 45 #[.agg #[.slice a P.n c],.slice (some ⟨b,off,none⟩) (m+1) cap,.int .i64 r] w fun e w'=>GenP w w' (gen (zG P) ta r++[⟨3,r,r,0⟩]) e:=by
 obtain⟨c0,c1,c2⟩:=hr m (by rw[qg,←hm];simp);have eo:(pf ta++[(⟨7,v,nm⟩:Po)]).getD m ⟨0,0,[]⟩=⟨7,v,nm⟩:=by rw[List.getD_eq_getElem?_getD,List.getElem?_append_right (by omega),hm];simp
 rw[eo]at c0 c1 c2;dsimp only at c0 c1 c2;clear eo;obtain⟨V,hV⟩:∃V,V=w.alloc (.cells #[.slice a P.n c] 54):=⟨_,rfl⟩;have d0:V.cell? ⟨b,off+m*3,none⟩=some (.int .i64 7):=by rw[hV];exact zr c0 _
 have d1:V.cell? ⟨b,off+m*3+1,none⟩=some (.int .i64 v):=by rw[hV];exact zr c1 _
 have d2:V.cell? ⟨b,off+m*3+2,none⟩=some (.string ⟨nm.toArray⟩):=by rw[hV];exact zr c2 _
 obtain⟨W1,hW1⟩:∃W1,W1=V.alloc (.cells #[.int .i64 7,.int .i64 v,.string ⟨nm.toArray⟩] 97):=⟨_,rfl⟩;have B1:Hid (Below w.heap.size w W1):=by rw[hW1,hV];exact zf (zf (Below.refl _ _) _) _
 have P1:Hid (W1.heap[w.heap.size]? =some (.cells #[.slice a P.n c] 54)):=by rw[hW1,hV];exact zh (zi _ _) _
 have O1:Hid (W1.heap[w.heap.size+1]? =some (.cells #[.int .i64 7,.int .i64 v,.string ⟨nm.toArray⟩] 97)):=by rw[hW1,hV];exact zx _ _ _
 have hVs:V.heap.size=w.heap.size+1:=by rw[hV];simp
 have HP:=Hm hP;have HR:=Hm hr;have HM:=Hm hm;clear hP hr hm c0 c1 c2;have t1:IntKind.i64.wrap (((m+1:Nat):Int) -1)=(m:Int):=by rw[show((m+1:Nat):Int) -1=(m:Int) by omega];exact wrap_small _ (by omega) (by omega)
 have t2:IntKind.i64.wrap ((m:Int)+1-1)=(m:Int):=by rw[show(m:Int)+1-1=(m:Int) by omega];exact wrap_small _ (by omega) (by omega)
 have m0:(0:Int)≤(m:Int):=by omega
 have m1:(m:Int)<(m:Int)+1:=by omega
 have m2:(m:Int)≤(cap:Int):=by omega
 have m3:(m:Int)+1≤(cap:Int):=by omega
 have HV:=Hm hV;have HW:=Hm hW1;have HVS:=Hm hVs;clear hV hW1 hVs;obtain⟨i0,hi,hz0,hz1,hz2⟩:=info_parts yI;have IH:=Hm (ih r b off m cap W1 (HP.out.below B1.out) (HR.out.left.below B1.out) HM.out (by omega) (by omega) hr0 (by omega));have hgl:=zT (zG P) ta r;obtain⟨G,hG⟩:∃G,G=gen (zG P) ta r:=⟨_,rfl⟩;rw[←hG]at IH hgl ⊢;clear hG;rw[←HM.out]at hgl;go_enter Tryd.func45,Tryd.ntmps45;go_upto_region 1 with fail;rw[←HV.out];go_upto_region 2 with fail;rw[HVS.out,←HW.out];clear HV HW HVS d0 d1 d2;have x0:=za P1.out 0;have y0:=za O1.out 0;have y1:=za O1.out 1;have y2:=za O1.out 2;simp only[qk,ql,qm]at x0 y0 y1 y2;go_wp2_with (go_at_call 45;refine IH.out.mono ?_);rintro e w2 ⟨v2,rfl,ho,hb⟩
 obtain⟨a2,c2,rfl⟩:=ho.shape;have B2:=Hm (zg B1.out hb);have O2:=Hm (ho.mono B1.out.size);have hgl2:G.length≤1000000:=by omega
 clear hb ho x0 y0 y1 y2 hgl;obtain⟨n2,hn2⟩:∃n,n=G.length:=⟨_,rfl⟩;rw[←hn2]at O2 hgl2 ⊢;have HN2:=Hm hn2;clear hn2;refine Hid.out ?_;refine Lib.hid ?_;go_wp2_with (go_at_call 39;refine(Dec.insS 3 r r 0 _).mono ?_);rintro e w3 ⟨rfl,hb3⟩;have B3:=Hm (zg B2.out hb3)
 have O3:Hid (w3.ownsRow w.heap.size 60 4 (.slice a2 n2 c2) n2 (isC G)):=by
  have:=O2.out.kept hb3;unfold OI at this;rw[←HN2.out]at this;exact this
 have hsz3:=B3.out.size;clear hb3;refine Hid.out ?_;refine Lib.hid ?_;go_wp2_with (at_builtin;refine wpList_append_own _ rfl _ _ 23 rfl w.heap.size 60 i0 (.agg #[.int .i64 0,.int .i64 0,.int .i64 0,.int .i64 0]) 4 32 Tryd.underlying23 hi hz0 hz1 hz2 rfl (by decide) _ _ _ rfl (O3.out.alloc _) ⟨w3.heap.size,0,none⟩ 1 1 (isC [⟨3,r,r,0⟩]) rfl rfl (xk w3 ⟨3,r,r,0⟩ 60) (ym _) (by unfold maxLen;omega) (by omega) (by simp;omega) ?_);intro v4 w4 hown hgrow _;have O4:=Hm (OI.snoc (x:=⟨3,r,r,0⟩) HN2.out hown);have hbZ:=Hm (zf B3.out (.cells #[.int .i64 3,.int .i64 r,.int .i64 r,.int .i64 0] 60));have B4:Hid (Below w.heap.size w w4):=hbZ.out.grown hgrow hbZ.out.size (fun k hk=>(O3.out.lt k hk).1);clear hown hgrow hbZ;refine Hid.out ?_;refine Lib.hid ?_;go_wp2;go_ret;exact .mk _ rfl O4.out B4.out
theorem gp8 (P:Pr) (a:Option Addr) (c:Nat) (L:Nat→Lo) (hPn:P.n≤1048576) (nm:List UInt8) (v:Int) (ta:Tr) (ih:xE P a c L ta) (r:Int) (b off m cap:Nat) (w:World) (hP:yr w a P L) (hr:RdP w b off (pf ta++[⟨8,v,nm⟩])) (hm:m=(pf ta).length) (hcap:m+1≤cap) (hmb:m+1≤100000) (hr0:0≤r) (hr1:r+(m+1:Nat)≤200000):
  Calls Tryd.prog 45 #[.agg #[.slice a P.n c],.slice (some ⟨b,off,none⟩) (m+1) cap,.int .i64 r] w fun e w'=>GenP w w' (gen (zG P) ta r++[⟨4,r,r,0⟩]) e:=by
 obtain⟨c0,c1,c2⟩:=hr m (by rw[qg,←hm];simp);have eo:(pf ta++[(⟨8,v,nm⟩:Po)]).getD m ⟨0,0,[]⟩=⟨8,v,nm⟩:=by rw[List.getD_eq_getElem?_getD,List.getElem?_append_right (by omega),hm];simp
 rw[eo]at c0 c1 c2;dsimp only at c0 c1 c2;clear eo;obtain⟨V,hV⟩:∃V,V=w.alloc (.cells #[.slice a P.n c] 54):=⟨_,rfl⟩;have d0:V.cell? ⟨b,off+m*3,none⟩=some (.int .i64 8):=by rw[hV];exact zr c0 _
 have d1:V.cell? ⟨b,off+m*3+1,none⟩=some (.int .i64 v):=by rw[hV];exact zr c1 _
 have d2:V.cell? ⟨b,off+m*3+2,none⟩=some (.string ⟨nm.toArray⟩):=by rw[hV];exact zr c2 _
 obtain⟨W1,hW1⟩:∃W1,W1=V.alloc (.cells #[.int .i64 8,.int .i64 v,.string ⟨nm.toArray⟩] 97):=⟨_,rfl⟩;have B1:Hid (Below w.heap.size w W1):=by rw[hW1,hV];exact zf (zf (Below.refl _ _) _) _
 have P1:Hid (W1.heap[w.heap.size]? =some (.cells #[.slice a P.n c] 54)):=by rw[hW1,hV];exact zh (zi _ _) _
 have O1:Hid (W1.heap[w.heap.size+1]? =some (.cells #[.int .i64 8,.int .i64 v,.string ⟨nm.toArray⟩] 97)):=by rw[hW1,hV];exact zx _ _ _
 have hVs:V.heap.size=w.heap.size+1:=by rw[hV];simp
 have HP:=Hm hP;have HR:=Hm hr;have HM:=Hm hm;clear hP hr hm c0 c1 c2;have t1:IntKind.i64.wrap (((m+1:Nat):Int) -1)=(m:Int):=by rw[show((m+1:Nat):Int) -1=(m:Int) by omega];exact wrap_small _ (by omega) (by omega)
 have t2:IntKind.i64.wrap ((m:Int)+1-1)=(m:Int):=by rw[show(m:Int)+1-1=(m:Int) by omega];exact wrap_small _ (by omega) (by omega)
 have m0:(0:Int)≤(m:Int):=by omega
 have m1:(m:Int)<(m:Int)+1:=by omega
 have m2:(m:Int)≤(cap:Int):=by omega
 have m3:(m:Int)+1≤(cap:Int):=by omega
 have HV:=Hm hV;have HW:=Hm hW1;have HVS:=Hm hVs;clear hV hW1 hVs;obtain⟨i0,hi,hz0,hz1,hz2⟩:=info_parts yI;have IH:=Hm (ih r b off m cap W1 (HP.out.below B1.out) (HR.out.left.below B1.out) HM.out (by omega) (by omega) hr0 (by omega));have hgl:=zT (zG P) ta r;obtain⟨G,hG⟩:∃G,G=gen (zG P) ta r:=⟨_,rfl⟩;rw[←hG]at IH hgl ⊢;clear hG;rw[←HM.out]at hgl;go_enter Tryd.func45,Tryd.ntmps45;go_upto_region 1 with fail;rw[←HV.out];go_upto_region 2 with fail;rw[HVS.out,←HW.out];clear HV HW HVS d0 d1 d2;have x0:=za P1.out 0;have y0:=za O1.out 0;have y1:=za O1.out 1;have y2:=za O1.out 2;simp only[qk,ql,qm]at x0 y0 y1 y2;go_wp2_with (go_at_call 45;refine IH.out.mono ?_);rintro e w2 ⟨v2,rfl,ho,hb⟩
 obtain⟨a2,c2,rfl⟩:=ho.shape;have B2:=Hm (zg B1.out hb);have O2:=Hm (ho.mono B1.out.size);have hgl2:G.length≤1000000:=by omega
 clear hb ho x0 y0 y1 y2 hgl;obtain⟨n2,hn2⟩:∃n,n=G.length:=⟨_,rfl⟩;rw[←hn2]at O2 hgl2 ⊢;have HN2:=Hm hn2;clear hn2;refine Hid.out ?_;refine Lib.hid ?_;go_wp2_with (go_at_call 39;refine(Dec.insS 4 r r 0 _).mono ?_);rintro e w3 ⟨rfl,hb3⟩;have B3:=Hm (zg B2.out hb3)
 have O3:Hid (w3.ownsRow w.heap.size 60 4 (.slice a2 n2 c2) n2 (isC G)):=by
  have:=O2.out.kept hb3;unfold OI at this;rw[←HN2.out]at this;exact this
 have hsz3:=B3.out.size;clear hb3;refine Hid.out ?_;refine Lib.hid ?_;go_wp2_with (at_builtin;refine wpList_append_own _ rfl _ _ 23 rfl w.heap.size 60 i0 (.agg #[.int .i64 0,.int .i64 0,.int .i64 0,.int .i64 0]) 4 32 Tryd.underlying23 hi hz0 hz1 hz2 rfl (by decide) _ _ _ rfl (O3.out.alloc _) ⟨w3.heap.size,0,none⟩ 1 1 (isC [⟨4,r,r,0⟩]) rfl rfl (xk w3 ⟨4,r,r,0⟩ 60) (ym _) (by unfold maxLen;omega) (by omega) (by simp;omega) ?_);intro v4 w4 hown hgrow _;have O4:=Hm (OI.snoc (x:=⟨4,r,r,0⟩) HN2.out hown);have hbZ:=Hm (zf B3.out (.cells #[.int .i64 4,.int .i64 r,.int .i64 r,.int .i64 0] 60));have B4:Hid (Below w.heap.size w w4):=hbZ.out.grown hgrow hbZ.out.size (fun k hk=>(O3.out.lt k hk).1);clear hown hgrow hbZ;refine Hid.out ?_;refine Lib.hid ?_;go_wp2;go_ret;exact .mk _ rfl O4.out B4.out
theorem gb6 (P:Pr) (a:Option Addr) (c:Nat) (L:Nat→Lo) (hPn:P.n≤1048576) (nm:List UInt8) (ta tb:Tr) (hwa:ta.wf) (hwb:tb.wf) (hops:∀o∈pf ta++pf tb++[(⟨9,6,nm⟩:Po)],opB o=true) (iha:xE P a c L ta) (ihb:xE P a c L tb) (r:Int) (b off m cap:Nat) (w:World) (hP:yr w a P L) (hr:RdP w b off (pf ta++pf tb++[⟨9,6,nm⟩])) (hm:m=(pf ta++pf tb).length) (hcap:m+1≤cap) (hmb:m+1≤100000) (hr0:0≤r) (hr1:r+(m+1:Nat)≤200000):
  Calls Tryd.prog 45 #[.agg #[.slice a P.n c],.slice (some ⟨b,off,none⟩) (m+1) cap,.int .i64 r] w fun e w'=>GenP w w' (gen (zG P) ta r++([⟨15,r,((gen (zG P) tb r).length:Int)+1,0⟩]++gen (zG P) tb r)) e:=by
 obtain⟨c0,c1,c2⟩:=hr m (by rw[qg,←hm];simp);have eo:(pf ta++pf tb++[(⟨9,6,nm⟩:Po)]).getD m ⟨0,0,[]⟩=⟨9,6,nm⟩:=by rw[List.getD_eq_getElem?_getD,List.getElem?_append_right (by omega),hm];simp
 rw[eo]at c0 c1 c2;dsimp only at c0 c1 c2;clear eo;obtain⟨V,hV⟩:∃V,V=w.alloc (.cells #[.slice a P.n c] 54):=⟨_,rfl⟩;have d0:V.cell? ⟨b,off+m*3,none⟩=some (.int .i64 9):=by rw[hV];exact zr c0 _
 have d1:V.cell? ⟨b,off+m*3+1,none⟩=some (.int .i64 6):=by rw[hV];exact zr c1 _
 have d2:V.cell? ⟨b,off+m*3+2,none⟩=some (.string ⟨nm.toArray⟩):=by rw[hV];exact zr c2 _
 obtain⟨W1,hW1⟩:∃W1,W1=V.alloc (.cells #[.int .i64 9,.int .i64 6,.string ⟨nm.toArray⟩] 97):=⟨_,rfl⟩;have B1:Hid (Below w.heap.size w W1):=by rw[hW1,hV];exact zf (zf (Below.refl _ _) _) _
 have P1:Hid (W1.heap[w.heap.size]? =some (.cells #[.slice a P.n c] 54)):=by rw[hW1,hV];exact zh (zi _ _) _
 have O1:Hid (W1.heap[w.heap.size+1]? =some (.cells #[.int .i64 9,.int .i64 6,.string ⟨nm.toArray⟩] 97)):=by rw[hW1,hV];exact zx _ _ _
 have hVs:V.heap.size=w.heap.size+1:=by rw[hV];simp
 have HP:=Hm hP;have HR:=Hm hr;have HM:=Hm hm;clear hP hr hm c0 c1 c2;have t1:IntKind.i64.wrap (((m+1:Nat):Int) -1)=(m:Int):=by rw[show((m+1:Nat):Int) -1=(m:Int) by omega];exact wrap_small _ (by omega) (by omega)
 have t2:IntKind.i64.wrap ((m:Int)+1-1)=(m:Int):=by rw[show(m:Int)+1-1=(m:Int) by omega];exact wrap_small _ (by omega) (by omega)
 have m0:(0:Int)≤(m:Int):=by omega
 have m1:(m:Int)<(m:Int)+1:=by omega
 have m2:(m:Int)≤(cap:Int):=by omega
 have m3:(m:Int)+1≤(cap:Int):=by omega
 have HV:=Hm hV;have HW:=Hm hW1;have HVS:=Hm hVs;clear hV hW1 hVs;have hp:(pf ta).length≤m:=by rw[HM.out,qg];omega
 have hpz:=(xg hwa).z;have hqz:=(xg hwb).z;have hpq:m=(pf ta).length+(pf tb).length:=by rw[HM.out,qg]
 obtain⟨p,hpp⟩:∃p,p=(pf ta).length:=⟨_,rfl⟩;have FR:=Hm (Xb (pf ta++pf tb) (pf ta) (pf tb) b off m cap W1 rfl (xg hwb) (HR.out.left.below B1.out) (fun o ho=>hops o (List.mem_append_left _ ho)) HM.out (by omega));have RA:Hid (RdP w b off (pf ta)):=HR.out.left.left;have RB:Hid (RdP w b (off+p*3) (pf tb)):=HR.out.left.right hpp;have hql:m-p=(pf tb).length:=by omega
 have hal:=zT (zG P) ta r;have hbl:=zT (zG P) tb (r);have IA:Hid (∀W,Below w.heap.size w W→Calls Tryd.prog 45 #[.agg #[.slice a P.n c],.slice (some ⟨b,off,none⟩) p cap,.int .i64 r] W fun e w'=>GenP W w' (gen (zG P) ta r) e):=fun W hW=>iha r b off p cap W (HP.out.below hW) (RA.out.below hW) hpp (by omega) (by omega) hr0 (by omega)
 have IB:Hid (∀W,Below w.heap.size w W→Calls Tryd.prog 45 #[.agg #[.slice a P.n c],.slice (some ⟨b,off+p*3,none⟩) (m-p) (cap-p),.int .i64 (r)] W fun e w'=>GenP W w' (gen (zG P) tb (r)) e):=fun W hW=>ihb (r) b (off+p*3) (m-p) (cap-p) W (HP.out.below hW) (RB.out.below hW) hql (by omega) (by omega) (by omega) (by omega)
 rw[←hpp]at FR hp hpz hpq hal;obtain⟨GA,hGA⟩:∃G,G=gen (zG P) ta r:=⟨_,rfl⟩;obtain⟨GB,hGB⟩:∃G,G=gen (zG P) tb (r):=⟨_,rfl⟩;rw[←hGA]at IA hal ⊢;rw[←hGB]at IB hbl ⊢;clear hGA hGB hpp;have hla:GA.length≤1000000:=by omega
 have hlb:GB.length≤1000000:=by omega
 clear hal hbl hql hpq hops hwa hwb;have p0:(0:Int)≤(p:Int):=by omega
 have p1:(p:Int)≤(m:Int):=by omega
 have p2:(p:Int)≤(cap:Int):=by omega
 have p3:¬cap=p:=by omega
 go_enter Tryd.func45,Tryd.ntmps45;go_upto_region 1 with fail;rw[←HV.out];go_upto_region 2 with fail;rw[HVS.out,←HW.out];clear HV HW HVS d0 d1 d2;have x0:=za P1.out 0;have y0:=za O1.out 0;have y1:=za O1.out 1;have y2:=za O1.out 2;simp only[qk,ql,qm]at x0 y0 y1 y2;go_wp2_with (go_at_call 62;refine FR.out.mono ?_);rintro e w2 ⟨rfl,hb⟩;have B2:=Hm (zg B1.out hb);have P2:=Hm (ze P1.out hb);have O2:=Hm (ze O1.out hb);clear hb x0 y0 y1 y2 B1 P1 O1;have x0:=za P2.out 0;have y0:=za O2.out 0;have y1:=za O2.out 1;simp only[qk,ql,qm]at x0 y0 y1;go_wp2_with fail;go_still_tail 5,(by kernel_rfl);go_wp2_with (go_at_call 45;refine(IA.out _ B2.out.drew).mono ?_)
 rintro e w3 ⟨v3,rfl,ho3,hb3⟩;obtain⟨a3,c3,rfl⟩:=ho3.shape;have B3:=Hm (zg B2.out.drew hb3);have P3:=Hm (ze (ze P2.out (Below.refl _ _).drew) hb3);have O3:=Hm (ze (ze O2.out (Below.refl _ _).drew) hb3);have RD3:=Hm ho3.rd;clear hb3 ho3 x0 y0 y1 B2 P2 O2;have x0:=za P3.out 0;have y0:=za O3.out 0;have y1:=za O3.out 1;simp only[qk,ql,qm]at x0 y0 y1;refine Hid.out ?_;refine Lib.hid ?_;go_wp2_with fail;go_still_tail 5,(by kernel_rfl);go_wp2_with (go_at_call 45;refine(IB.out _ B3.out.drew).mono ?_);rintro e w4 ⟨v4,rfl,ho4,hb4⟩;obtain⟨a4,c4,rfl⟩:=ho4.shape;have B4:=Hm (zg B3.out.drew hb4);have O4:=Hm (ze (ze O3.out (Below.refl _ _).drew) hb4)
 have RD3':=Hm ((RD3.out.below (Below.refl _ _).drew).below hb4);have RD4:=Hm ho4.rd;clear hb4 ho4 x0 y0 y1 B3 P3 O3 RD3;have y0:=za O4.out 0;have y1:=za O4.out 1;simp only[qk,ql,qm]at y0 y1;obtain⟨na,hna⟩:∃n,n=GA.length:=⟨_,rfl⟩;obtain⟨nb,hnb⟩:∃n,n=GB.length:=⟨_,rfl⟩;rw[←hna]at hla RD3' ⊢;rw[←hnb]at hlb RD4 ⊢;have HNA:=Hm hna;have HNB:=Hm hnb;clear hna hnb;have u1:IntKind.i64.wrap ((nb:Int)+1)=(nb:Int)+1:=wrap_small _ (by omega) (by omega);refine Hid.out ?_;refine Lib.hid ?_;go_wp2_with (go_at_call 58;refine(yp 15 r ((nb:Int)+1) 0 _).mono ?_);rintro e w5 ⟨v5,rfl,ho5,hb5⟩;obtain⟨a5,c5,rfl⟩:=ho5.shape;have B5:=Hm (zg B4.out hb5);have RA5:=Hm (RD3'.out.below hb5)
 have RB5:=Hm (RD4.out.below hb5);have RO5:=Hm ho5.rd;clear hb5 ho5 y0 y1 B4 O4 RD3' RD4;refine Hid.out ?_;refine Lib.hid ?_;obtain⟨W6,hW6⟩:∃W,W=w5.alloc (.cells #[.slice a3 na c3,.slice a5 1 c5,.slice a4 nb c4] 23):=⟨_,rfl⟩;have B6:Hid (Below w5.heap.size w5 W6):=by rw[hW6];exact zf (Below.refl _ _) _
 have K6:Hid (W6.heap[w5.heap.size]? =some (.cells #[.slice a3 na c3,.slice a5 1 c5,.slice a4 nb c4] 23)):=by rw[hW6];exact zi _ _
 have SQ:=Hm (seqG w5.heap.size 3 3 _ _ W6 (by omega) (cells3 K6.out) (rd3 (RA5.out.below B6.out) (RO5.out.below B6.out) (RB5.out.below B6.out)) (Tc (by rw[←HNA.out];omega) (by simp) (by rw[←HNB.out];omega)));have B7:=Hm (zg B5.out B6.out);have HW6:=Hm hW6;clear hW6 B5 RA5 RB5 RO5 K6 B6;go_wp2_with (go_at_call 37;rw[←HW6.out];refine SQ.out.mono ?_);rintro e w8 ⟨v8,rfl,ho8,hb8⟩;have B8:=Hm (zg B7.out hb8);have O8:=Hm (ho8.mono B7.out.size);clear ho8 hb8;go_wp2;go_ret;exact .mk _ rfl (by have:=O8.out;simp only[catL,List.getD_cons_zero,List.getD_cons_succ,List.nil_append]at this;rw[qj]at this;simpa[HNB.out]using this) B8.out
theorem gb7 (P:Pr) (a:Option Addr) (c:Nat) (L:Nat→Lo) (hPn:P.n≤1048576) (nm:List UInt8) (ta tb:Tr) (hwa:ta.wf) (hwb:tb.wf) (hops:∀o∈pf ta++pf tb++[(⟨9,7,nm⟩:Po)],opB o=true) (iha:xE P a c L ta) (ihb:xE P a c L tb) (r:Int) (b off m cap:Nat) (w:World) (hP:yr w a P L) (hr:RdP w b off (pf ta++pf tb++[⟨9,7,nm⟩])) (hm:m=(pf ta++pf tb).length) (hcap:m+1≤cap) (hmb:m+1≤100000) (hr0:0≤r) (hr1:r+(m+1:Nat)≤200000):
  Calls Tryd.prog 45 #[.agg #[.slice a P.n c],.slice (some ⟨b,off,none⟩) (m+1) cap,.int .i64 r] w fun e w'=>GenP w w' (gen (zG P) ta r++([⟨16,r,((gen (zG P) tb r).length:Int)+1,0⟩]++gen (zG P) tb r)) e:=by
 obtain⟨c0,c1,c2⟩:=hr m (by rw[qg,←hm];simp);have eo:(pf ta++pf tb++[(⟨9,7,nm⟩:Po)]).getD m ⟨0,0,[]⟩=⟨9,7,nm⟩:=by rw[List.getD_eq_getElem?_getD,List.getElem?_append_right (by omega),hm];simp
 rw[eo]at c0 c1 c2;dsimp only at c0 c1 c2;clear eo;obtain⟨V,hV⟩:∃V,V=w.alloc (.cells #[.slice a P.n c] 54):=⟨_,rfl⟩;have d0:V.cell? ⟨b,off+m*3,none⟩=some (.int .i64 9):=by rw[hV];exact zr c0 _
 have d1:V.cell? ⟨b,off+m*3+1,none⟩=some (.int .i64 7):=by rw[hV];exact zr c1 _
 have d2:V.cell? ⟨b,off+m*3+2,none⟩=some (.string ⟨nm.toArray⟩):=by rw[hV];exact zr c2 _
 obtain⟨W1,hW1⟩:∃W1,W1=V.alloc (.cells #[.int .i64 9,.int .i64 7,.string ⟨nm.toArray⟩] 97):=⟨_,rfl⟩;have B1:Hid (Below w.heap.size w W1):=by rw[hW1,hV];exact zf (zf (Below.refl _ _) _) _
 have P1:Hid (W1.heap[w.heap.size]? =some (.cells #[.slice a P.n c] 54)):=by rw[hW1,hV];exact zh (zi _ _) _
 have O1:Hid (W1.heap[w.heap.size+1]? =some (.cells #[.int .i64 9,.int .i64 7,.string ⟨nm.toArray⟩] 97)):=by rw[hW1,hV];exact zx _ _ _
 have hVs:V.heap.size=w.heap.size+1:=by rw[hV];simp
 have HP:=Hm hP;have HR:=Hm hr;have HM:=Hm hm;clear hP hr hm c0 c1 c2;have t1:IntKind.i64.wrap (((m+1:Nat):Int) -1)=(m:Int):=by rw[show((m+1:Nat):Int) -1=(m:Int) by omega];exact wrap_small _ (by omega) (by omega)
 have t2:IntKind.i64.wrap ((m:Int)+1-1)=(m:Int):=by rw[show(m:Int)+1-1=(m:Int) by omega];exact wrap_small _ (by omega) (by omega)
 have m0:(0:Int)≤(m:Int):=by omega
 have m1:(m:Int)<(m:Int)+1:=by omega
 have m2:(m:Int)≤(cap:Int):=by omega
 have m3:(m:Int)+1≤(cap:Int):=by omega
 have HV:=Hm hV;have HW:=Hm hW1;have HVS:=Hm hVs;clear hV hW1 hVs;have hp:(pf ta).length≤m:=by rw[HM.out,qg];omega
 have hpz:=(xg hwa).z;have hqz:=(xg hwb).z;have hpq:m=(pf ta).length+(pf tb).length:=by rw[HM.out,qg]
 obtain⟨p,hpp⟩:∃p,p=(pf ta).length:=⟨_,rfl⟩;have FR:=Hm (Xb (pf ta++pf tb) (pf ta) (pf tb) b off m cap W1 rfl (xg hwb) (HR.out.left.below B1.out) (fun o ho=>hops o (List.mem_append_left _ ho)) HM.out (by omega));have RA:Hid (RdP w b off (pf ta)):=HR.out.left.left;have RB:Hid (RdP w b (off+p*3) (pf tb)):=HR.out.left.right hpp;have hql:m-p=(pf tb).length:=by omega
 have hal:=zT (zG P) ta r;have hbl:=zT (zG P) tb (r);have IA:Hid (∀W,Below w.heap.size w W→Calls Tryd.prog 45 #[.agg #[.slice a P.n c],.slice (some ⟨b,off,none⟩) p cap,.int .i64 r] W fun e w'=>GenP W w' (gen (zG P) ta r) e):=fun W hW=>iha r b off p cap W (HP.out.below hW) (RA.out.below hW) hpp (by omega) (by omega) hr0 (by omega)
 have IB:Hid (∀W,Below w.heap.size w W→Calls Tryd.prog 45 #[.agg #[.slice a P.n c],.slice (some ⟨b,off+p*3,none⟩) (m-p) (cap-p),.int .i64 (r)] W fun e w'=>GenP W w' (gen (zG P) tb (r)) e):=fun W hW=>ihb (r) b (off+p*3) (m-p) (cap-p) W (HP.out.below hW) (RB.out.below hW) hql (by omega) (by omega) (by omega) (by omega)
 rw[←hpp]at FR hp hpz hpq hal;obtain⟨GA,hGA⟩:∃G,G=gen (zG P) ta r:=⟨_,rfl⟩;obtain⟨GB,hGB⟩:∃G,G=gen (zG P) tb (r):=⟨_,rfl⟩;rw[←hGA]at IA hal ⊢;rw[←hGB]at IB hbl ⊢;clear hGA hGB hpp;have hla:GA.length≤1000000:=by omega
 have hlb:GB.length≤1000000:=by omega
 clear hal hbl hql hpq hops hwa hwb;have p0:(0:Int)≤(p:Int):=by omega
 have p1:(p:Int)≤(m:Int):=by omega
 have p2:(p:Int)≤(cap:Int):=by omega
 have p3:¬cap=p:=by omega
 go_enter Tryd.func45,Tryd.ntmps45;go_upto_region 1 with fail;rw[←HV.out];go_upto_region 2 with fail;rw[HVS.out,←HW.out];clear HV HW HVS d0 d1 d2;have x0:=za P1.out 0;have y0:=za O1.out 0;have y1:=za O1.out 1;have y2:=za O1.out 2;simp only[qk,ql,qm]at x0 y0 y1 y2;go_wp2_with (go_at_call 62;refine FR.out.mono ?_);rintro e w2 ⟨rfl,hb⟩;have B2:=Hm (zg B1.out hb);have P2:=Hm (ze P1.out hb);have O2:=Hm (ze O1.out hb);clear hb x0 y0 y1 y2 B1 P1 O1;have x0:=za P2.out 0;have y0:=za O2.out 0;have y1:=za O2.out 1;simp only[qk,ql,qm]at x0 y0 y1;go_wp2_with fail;go_still_tail 5,(by kernel_rfl);go_wp2_with (go_at_call 45;refine(IA.out _ B2.out.drew).mono ?_)
 rintro e w3 ⟨v3,rfl,ho3,hb3⟩;obtain⟨a3,c3,rfl⟩:=ho3.shape;have B3:=Hm (zg B2.out.drew hb3);have P3:=Hm (ze (ze P2.out (Below.refl _ _).drew) hb3);have O3:=Hm (ze (ze O2.out (Below.refl _ _).drew) hb3);have RD3:=Hm ho3.rd;clear hb3 ho3 x0 y0 y1 B2 P2 O2;have x0:=za P3.out 0;have y0:=za O3.out 0;have y1:=za O3.out 1;simp only[qk,ql,qm]at x0 y0 y1;refine Hid.out ?_;refine Lib.hid ?_;go_wp2_with fail;go_still_tail 5,(by kernel_rfl);go_wp2_with (go_at_call 45;refine(IB.out _ B3.out.drew).mono ?_);rintro e w4 ⟨v4,rfl,ho4,hb4⟩;obtain⟨a4,c4,rfl⟩:=ho4.shape;have B4:=Hm (zg B3.out.drew hb4);have O4:=Hm (ze (ze O3.out (Below.refl _ _).drew) hb4)
 have RD3':=Hm ((RD3.out.below (Below.refl _ _).drew).below hb4);have RD4:=Hm ho4.rd;clear hb4 ho4 x0 y0 y1 B3 P3 O3 RD3;have y0:=za O4.out 0;have y1:=za O4.out 1;simp only[qk,ql,qm]at y0 y1;obtain⟨na,hna⟩:∃n,n=GA.length:=⟨_,rfl⟩;obtain⟨nb,hnb⟩:∃n,n=GB.length:=⟨_,rfl⟩;rw[←hna]at hla RD3' ⊢;rw[←hnb]at hlb RD4 ⊢;have HNA:=Hm hna;have HNB:=Hm hnb;clear hna hnb;have u1:IntKind.i64.wrap ((nb:Int)+1)=(nb:Int)+1:=wrap_small _ (by omega) (by omega);refine Hid.out ?_;refine Lib.hid ?_;go_wp2_with (go_at_call 58;refine(yp 16 r ((nb:Int)+1) 0 _).mono ?_);rintro e w5 ⟨v5,rfl,ho5,hb5⟩;obtain⟨a5,c5,rfl⟩:=ho5.shape;have B5:=Hm (zg B4.out hb5);have RA5:=Hm (RD3'.out.below hb5)
 have RB5:=Hm (RD4.out.below hb5);have RO5:=Hm ho5.rd;clear hb5 ho5 y0 y1 B4 O4 RD3' RD4;refine Hid.out ?_;refine Lib.hid ?_;obtain⟨W6,hW6⟩:∃W,W=w5.alloc (.cells #[.slice a3 na c3,.slice a5 1 c5,.slice a4 nb c4] 23):=⟨_,rfl⟩;have B6:Hid (Below w5.heap.size w5 W6):=by rw[hW6];exact zf (Below.refl _ _) _
 have K6:Hid (W6.heap[w5.heap.size]? =some (.cells #[.slice a3 na c3,.slice a5 1 c5,.slice a4 nb c4] 23)):=by rw[hW6];exact zi _ _
 have SQ:=Hm (seqG w5.heap.size 3 3 _ _ W6 (by omega) (cells3 K6.out) (rd3 (RA5.out.below B6.out) (RO5.out.below B6.out) (RB5.out.below B6.out)) (Tc (by rw[←HNA.out];omega) (by simp) (by rw[←HNB.out];omega)));have B7:=Hm (zg B5.out B6.out);have HW6:=Hm hW6;clear hW6 B5 RA5 RB5 RO5 K6 B6;go_wp2_with (go_at_call 37;rw[←HW6.out];refine SQ.out.mono ?_);rintro e w8 ⟨v8,rfl,ho8,hb8⟩;have B8:=Hm (zg B7.out hb8);have O8:=Hm (ho8.mono B7.out.size);clear ho8 hb8;go_wp2;go_ret;exact .mk _ rfl (by have:=O8.out;simp only[catL,List.getD_cons_zero,List.getD_cons_succ,List.nil_append]at this;rw[qj]at this;simpa[HNB.out]using this) B8.out
theorem gbo (P:Pr) (a:Option Addr) (c:Nat) (L:Nat→Lo) (hPn:P.n≤1048576) (nm:List UInt8) (v:Int) (hv0:0≤v) (hv1:v≤5) (ta tb:Tr) (hwa:ta.wf) (hwb:tb.wf) (hops:∀o∈pf ta++pf tb++[(⟨9,v,nm⟩:Po)],opB o=true) (iha:xE P a c L ta) (ihb:xE P a c L tb) (r:Int) (b off m cap:Nat) (w:World) (hP:yr w a P L) (hr:RdP w b off (pf ta++pf tb++[⟨9,v,nm⟩])) (hm:m=(pf ta++pf tb).length) (hcap:m+1≤cap) (hmb:m+1≤100000) (hr0:0≤r) (hr1:r+(m+1:Nat)≤200000):
  Calls Tryd.prog 45 #[.agg #[.slice a P.n c],.slice (some ⟨b,off,none⟩) (m+1) cap,.int .i64 r] w fun e w'=>GenP w w' (gen (zG P) ta r++(gen (zG P) tb (r+1)++[⟨5+v,r,r,r+1⟩])) e:=by
 obtain⟨c0,c1,c2⟩:=hr m (by rw[qg,←hm];simp);have eo:(pf ta++pf tb++[(⟨9,v,nm⟩:Po)]).getD m ⟨0,0,[]⟩=⟨9,v,nm⟩:=by rw[List.getD_eq_getElem?_getD,List.getElem?_append_right (by omega),hm];simp
 rw[eo]at c0 c1 c2;dsimp only at c0 c1 c2;clear eo;obtain⟨V,hV⟩:∃V,V=w.alloc (.cells #[.slice a P.n c] 54):=⟨_,rfl⟩;have d0:V.cell? ⟨b,off+m*3,none⟩=some (.int .i64 9):=by rw[hV];exact zr c0 _
 have d1:V.cell? ⟨b,off+m*3+1,none⟩=some (.int .i64 v):=by rw[hV];exact zr c1 _
 have d2:V.cell? ⟨b,off+m*3+2,none⟩=some (.string ⟨nm.toArray⟩):=by rw[hV];exact zr c2 _
 obtain⟨W1,hW1⟩:∃W1,W1=V.alloc (.cells #[.int .i64 9,.int .i64 v,.string ⟨nm.toArray⟩] 97):=⟨_,rfl⟩;have B1:Hid (Below w.heap.size w W1):=by rw[hW1,hV];exact zf (zf (Below.refl _ _) _) _
 have P1:Hid (W1.heap[w.heap.size]? =some (.cells #[.slice a P.n c] 54)):=by rw[hW1,hV];exact zh (zi _ _) _
 have O1:Hid (W1.heap[w.heap.size+1]? =some (.cells #[.int .i64 9,.int .i64 v,.string ⟨nm.toArray⟩] 97)):=by rw[hW1,hV];exact zx _ _ _
 have hVs:V.heap.size=w.heap.size+1:=by rw[hV];simp
 have HP:=Hm hP;have HR:=Hm hr;have HM:=Hm hm;clear hP hr hm c0 c1 c2;have t1:IntKind.i64.wrap (((m+1:Nat):Int) -1)=(m:Int):=by rw[show((m+1:Nat):Int) -1=(m:Int) by omega];exact wrap_small _ (by omega) (by omega)
 have t2:IntKind.i64.wrap ((m:Int)+1-1)=(m:Int):=by rw[show(m:Int)+1-1=(m:Int) by omega];exact wrap_small _ (by omega) (by omega)
 have m0:(0:Int)≤(m:Int):=by omega
 have m1:(m:Int)<(m:Int)+1:=by omega
 have m2:(m:Int)≤(cap:Int):=by omega
 have m3:(m:Int)+1≤(cap:Int):=by omega
 have HV:=Hm hV;have HW:=Hm hW1;have HVS:=Hm hVs;clear hV hW1 hVs;have u0:IntKind.i64.wrap (r+1)=r+1:=wrap_small _ (by omega) (by omega);have u1:IntKind.i64.wrap (5+v)=5+v:=wrap_small _ (by omega) (by omega);have v6:(v==6)=false:=by simp;omega
 have v7:(v==7)=false:=by simp;omega
 have hp:(pf ta).length≤m:=by rw[HM.out,qg];omega
 have hpz:=(xg hwa).z;have hqz:=(xg hwb).z;have hpq:m=(pf ta).length+(pf tb).length:=by rw[HM.out,qg]
 obtain⟨p,hpp⟩:∃p,p=(pf ta).length:=⟨_,rfl⟩;have FR:=Hm (Xb (pf ta++pf tb) (pf ta) (pf tb) b off m cap W1 rfl (xg hwb) (HR.out.left.below B1.out) (fun o ho=>hops o (List.mem_append_left _ ho)) HM.out (by omega));have RA:Hid (RdP w b off (pf ta)):=HR.out.left.left;have RB:Hid (RdP w b (off+p*3) (pf tb)):=HR.out.left.right hpp;have hql:m-p=(pf tb).length:=by omega
 have hal:=zT (zG P) ta r;have hbl:=zT (zG P) tb (r+1);have IA:Hid (∀W,Below w.heap.size w W→Calls Tryd.prog 45 #[.agg #[.slice a P.n c],.slice (some ⟨b,off,none⟩) p cap,.int .i64 r] W fun e w'=>GenP W w' (gen (zG P) ta r) e):=fun W hW=>iha r b off p cap W (HP.out.below hW) (RA.out.below hW) hpp (by omega) (by omega) hr0 (by omega)
 have IB:Hid (∀W,Below w.heap.size w W→Calls Tryd.prog 45 #[.agg #[.slice a P.n c],.slice (some ⟨b,off+p*3,none⟩) (m-p) (cap-p),.int .i64 (r+1)] W fun e w'=>GenP W w' (gen (zG P) tb (r+1)) e):=fun W hW=>ihb (r+1) b (off+p*3) (m-p) (cap-p) W (HP.out.below hW) (RB.out.below hW) hql (by omega) (by omega) (by omega) (by omega)
 rw[←hpp]at FR hp hpz hpq hal;obtain⟨GA,hGA⟩:∃G,G=gen (zG P) ta r:=⟨_,rfl⟩;obtain⟨GB,hGB⟩:∃G,G=gen (zG P) tb (r+1):=⟨_,rfl⟩;rw[←hGA]at IA hal ⊢;rw[←hGB]at IB hbl ⊢;clear hGA hGB hpp;have hla:GA.length≤1000000:=by omega
 have hlb:GB.length≤1000000:=by omega
 clear hal hbl hql hpq hops hwa hwb;have p0:(0:Int)≤(p:Int):=by omega
 have p1:(p:Int)≤(m:Int):=by omega
 have p2:(p:Int)≤(cap:Int):=by omega
 have p3:¬cap=p:=by omega
 go_enter Tryd.func45,Tryd.ntmps45;go_upto_region 1 with fail;rw[←HV.out];go_upto_region 2 with fail;rw[HVS.out,←HW.out];clear HV HW HVS d0 d1 d2;have x0:=za P1.out 0;have y0:=za O1.out 0;have y1:=za O1.out 1;have y2:=za O1.out 2;simp only[qk,ql,qm]at x0 y0 y1 y2;go_wp2_with (go_at_call 62;refine FR.out.mono ?_);rintro e w2 ⟨rfl,hb⟩;have B2:=Hm (zg B1.out hb);have P2:=Hm (ze P1.out hb);have O2:=Hm (ze O1.out hb);clear hb x0 y0 y1 y2 B1 P1 O1;have x0:=za P2.out 0;have y0:=za O2.out 0;have y1:=za O2.out 1;simp only[qk,ql,qm]at x0 y0 y1;go_wp2_with fail;go_still_tail 5,(by kernel_rfl);go_wp2_with (go_at_call 45;refine(IA.out _ B2.out.drew).mono ?_)
 rintro e w3 ⟨v3,rfl,ho3,hb3⟩;obtain⟨a3,c3,rfl⟩:=ho3.shape;have B3:=Hm (zg B2.out.drew hb3);have P3:=Hm (ze (ze P2.out (Below.refl _ _).drew) hb3);have O3:=Hm (ze (ze O2.out (Below.refl _ _).drew) hb3);have RD3:=Hm ho3.rd;clear hb3 ho3 x0 y0 y1 B2 P2 O2;have x0:=za P3.out 0;have y0:=za O3.out 0;have y1:=za O3.out 1;simp only[qk,ql,qm]at x0 y0 y1;refine Hid.out ?_;refine Lib.hid ?_;go_wp2_with fail;go_still_tail 6,(by kernel_rfl);go_wp2_with (go_at_call 45;refine(IB.out _ B3.out.drew).mono ?_);rintro e w4 ⟨v4,rfl,ho4,hb4⟩;obtain⟨a4,c4,rfl⟩:=ho4.shape;have B4:=Hm (zg B3.out.drew hb4);have O4:=Hm (ze (ze O3.out (Below.refl _ _).drew) hb4)
 have RD3':=Hm ((RD3.out.below (Below.refl _ _).drew).below hb4);have RD4:=Hm ho4.rd;clear hb4 ho4 x0 y0 y1 B3 P3 O3 RD3;have y0:=za O4.out 0;have y1:=za O4.out 1;simp only[qk,ql,qm]at y0 y1;obtain⟨na,hna⟩:∃n,n=GA.length:=⟨_,rfl⟩;obtain⟨nb,hnb⟩:∃n,n=GB.length:=⟨_,rfl⟩;rw[←hna]at hla RD3' ⊢;rw[←hnb]at hlb RD4 ⊢;have HNA:=Hm hna;have HNB:=Hm hnb;clear hna hnb;refine Hid.out ?_;refine Lib.hid ?_;go_wp2_with (go_at_call 58;refine(yp (5+v) r r (r+1) _).mono ?_);rintro e w5 ⟨v5,rfl,ho5,hb5⟩;obtain⟨a5,c5,rfl⟩:=ho5.shape;have B5:=Hm (zg B4.out hb5);have RA5:=Hm (RD3'.out.below hb5);have RB5:=Hm (RD4.out.below hb5);have RO5:=Hm ho5.rd;clear hb5 ho5 y0 y1 B4 O4 RD3' RD4
 refine Hid.out ?_;refine Lib.hid ?_;obtain⟨W6,hW6⟩:∃W,W=w5.alloc (.cells #[.slice a3 na c3,.slice a4 nb c4,.slice a5 1 c5] 23):=⟨_,rfl⟩;have B6:Hid (Below w5.heap.size w5 W6):=by rw[hW6];exact zf (Below.refl _ _) _
 have K6:Hid (W6.heap[w5.heap.size]? =some (.cells #[.slice a3 na c3,.slice a4 nb c4,.slice a5 1 c5] 23)):=by rw[hW6];exact zi _ _
 have SQ:=Hm (seqG w5.heap.size 3 3 _ _ W6 (by omega) (cells3 K6.out) (rd3 (RA5.out.below B6.out) (RB5.out.below B6.out) (RO5.out.below B6.out)) (Tc (by rw[←HNA.out];omega) (by rw[←HNB.out];omega) (by simp)));have B7:=Hm (zg B5.out B6.out);have HW6:=Hm hW6;clear hW6 B5 RA5 RB5 RO5 K6 B6;go_wp2_with (go_at_call 37;rw[←HW6.out];refine SQ.out.mono ?_);rintro e w8 ⟨v8,rfl,ho8,hb8⟩;have B8:=Hm (zg B7.out hb8);have O8:=Hm (ho8.mono B7.out.size);clear ho8 hb8;go_wp2;go_ret;exact .mk _ rfl (by have:=O8.out;simp only[catL,List.getD_cons_zero,List.getD_cons_succ,List.nil_append]at this;rw[qj]at this;simpa[HNB.out]using this) B8.out
theorem gt (P:Pr) (a:Option Addr) (c:Nat) (L:Nat→Lo) (hPn:P.n≤1048576) (nm:List UInt8) (v:Int) (hv0:0≤v) (hv1:v≤1) (ta tb:Tr) (hwa:ta.wf) (hwb:tb.wf) (hops:∀o∈pf ta++pf tb++[(⟨10,v,nm⟩:Po)],opB o=true) (iha:xE P a c L ta) (ihb:xE P a c L tb) (r:Int) (b off m cap:Nat) (w:World) (hP:yr w a P L) (hr:RdP w b off (pf ta++pf tb++[⟨10,v,nm⟩])) (hm:m=(pf ta++pf tb).length) (hcap:m+1≤cap) (hmb:m+1≤100000) (hr0:0≤r) (hr1:r+(m+1:Nat)≤200000):
  Calls Tryd.prog 45 #[.agg #[.slice a P.n c],.slice (some ⟨b,off,none⟩) (m+1) cap,.int .i64 r] w fun e w'=>GenP w w' (gen (zG P) ta r++(gen (zG P) tb (r+1)++[⟨11+v,r,r,r+1⟩])) e:=by
 obtain⟨c0,c1,c2⟩:=hr m (by rw[qg,←hm];simp);have eo:(pf ta++pf tb++[(⟨10,v,nm⟩:Po)]).getD m ⟨0,0,[]⟩=⟨10,v,nm⟩:=by rw[List.getD_eq_getElem?_getD,List.getElem?_append_right (by omega),hm];simp
 rw[eo]at c0 c1 c2;dsimp only at c0 c1 c2;clear eo;obtain⟨V,hV⟩:∃V,V=w.alloc (.cells #[.slice a P.n c] 54):=⟨_,rfl⟩;have d0:V.cell? ⟨b,off+m*3,none⟩=some (.int .i64 10):=by rw[hV];exact zr c0 _
 have d1:V.cell? ⟨b,off+m*3+1,none⟩=some (.int .i64 v):=by rw[hV];exact zr c1 _
 have d2:V.cell? ⟨b,off+m*3+2,none⟩=some (.string ⟨nm.toArray⟩):=by rw[hV];exact zr c2 _
 obtain⟨W1,hW1⟩:∃W1,W1=V.alloc (.cells #[.int .i64 10,.int .i64 v,.string ⟨nm.toArray⟩] 97):=⟨_,rfl⟩;have B1:Hid (Below w.heap.size w W1):=by rw[hW1,hV];exact zf (zf (Below.refl _ _) _) _
 have P1:Hid (W1.heap[w.heap.size]? =some (.cells #[.slice a P.n c] 54)):=by rw[hW1,hV];exact zh (zi _ _) _
 have O1:Hid (W1.heap[w.heap.size+1]? =some (.cells #[.int .i64 10,.int .i64 v,.string ⟨nm.toArray⟩] 97)):=by rw[hW1,hV];exact zx _ _ _
 have hVs:V.heap.size=w.heap.size+1:=by rw[hV];simp
 have HP:=Hm hP;have HR:=Hm hr;have HM:=Hm hm;clear hP hr hm c0 c1 c2;have t1:IntKind.i64.wrap (((m+1:Nat):Int) -1)=(m:Int):=by rw[show((m+1:Nat):Int) -1=(m:Int) by omega];exact wrap_small _ (by omega) (by omega)
 have t2:IntKind.i64.wrap ((m:Int)+1-1)=(m:Int):=by rw[show(m:Int)+1-1=(m:Int) by omega];exact wrap_small _ (by omega) (by omega)
 have m0:(0:Int)≤(m:Int):=by omega
 have m1:(m:Int)<(m:Int)+1:=by omega
 have m2:(m:Int)≤(cap:Int):=by omega
 have m3:(m:Int)+1≤(cap:Int):=by omega
 have HV:=Hm hV;have HW:=Hm hW1;have HVS:=Hm hVs;clear hV hW1 hVs;have u0:IntKind.i64.wrap (r+1)=r+1:=wrap_small _ (by omega) (by omega);have u1:IntKind.i64.wrap (11+v)=11+v:=wrap_small _ (by omega) (by omega);have u5:IntKind.i64.wrap (5+v)=5+v:=wrap_small _ (by omega) (by omega);have v2:(v==2)=false:=by simp;omega
 have hp:(pf ta).length≤m:=by rw[HM.out,qg];omega
 have hpz:=(xg hwa).z;have hqz:=(xg hwb).z;have hpq:m=(pf ta).length+(pf tb).length:=by rw[HM.out,qg]
 obtain⟨p,hpp⟩:∃p,p=(pf ta).length:=⟨_,rfl⟩;have FR:=Hm (Xb (pf ta++pf tb) (pf ta) (pf tb) b off m cap W1 rfl (xg hwb) (HR.out.left.below B1.out) (fun o ho=>hops o (List.mem_append_left _ ho)) HM.out (by omega));have RA:Hid (RdP w b off (pf ta)):=HR.out.left.left;have RB:Hid (RdP w b (off+p*3) (pf tb)):=HR.out.left.right hpp;have hql:m-p=(pf tb).length:=by omega
 have hal:=zT (zG P) ta r;have hbl:=zT (zG P) tb (r+1);have IA:Hid (∀W,Below w.heap.size w W→Calls Tryd.prog 45 #[.agg #[.slice a P.n c],.slice (some ⟨b,off,none⟩) p cap,.int .i64 r] W fun e w'=>GenP W w' (gen (zG P) ta r) e):=fun W hW=>iha r b off p cap W (HP.out.below hW) (RA.out.below hW) hpp (by omega) (by omega) hr0 (by omega)
 have IB:Hid (∀W,Below w.heap.size w W→Calls Tryd.prog 45 #[.agg #[.slice a P.n c],.slice (some ⟨b,off+p*3,none⟩) (m-p) (cap-p),.int .i64 (r+1)] W fun e w'=>GenP W w' (gen (zG P) tb (r+1)) e):=fun W hW=>ihb (r+1) b (off+p*3) (m-p) (cap-p) W (HP.out.below hW) (RB.out.below hW) hql (by omega) (by omega) (by omega) (by omega)
 rw[←hpp]at FR hp hpz hpq hal;obtain⟨GA,hGA⟩:∃G,G=gen (zG P) ta r:=⟨_,rfl⟩;obtain⟨GB,hGB⟩:∃G,G=gen (zG P) tb (r+1):=⟨_,rfl⟩;rw[←hGA]at IA hal ⊢;rw[←hGB]at IB hbl ⊢;clear hGA hGB hpp;have hla:GA.length≤1000000:=by omega
 have hlb:GB.length≤1000000:=by omega
 clear hal hbl hql hpq hops hwa hwb;have p0:(0:Int)≤(p:Int):=by omega
 have p1:(p:Int)≤(m:Int):=by omega
 have p2:(p:Int)≤(cap:Int):=by omega
 have p3:¬cap=p:=by omega
 go_enter Tryd.func45,Tryd.ntmps45;go_upto_region 1 with fail;rw[←HV.out];go_upto_region 2 with fail;rw[HVS.out,←HW.out];clear HV HW HVS d0 d1 d2;have x0:=za P1.out 0;have y0:=za O1.out 0;have y1:=za O1.out 1;have y2:=za O1.out 2;simp only[qk,ql,qm]at x0 y0 y1 y2;go_wp2_with (go_at_call 62;refine FR.out.mono ?_);rintro e w2 ⟨rfl,hb⟩;have B2:=Hm (zg B1.out hb);have P2:=Hm (ze P1.out hb);have O2:=Hm (ze O1.out hb);clear hb x0 y0 y1 y2 B1 P1 O1;have x0:=za P2.out 0;have y0:=za O2.out 0;have y1:=za O2.out 1;simp only[qk,ql,qm]at x0 y0 y1;go_wp2_with fail;go_still_tail 5,(by kernel_rfl);go_wp2_with (go_at_call 45;refine(IA.out _ B2.out.drew).mono ?_)
 rintro e w3 ⟨v3,rfl,ho3,hb3⟩;obtain⟨a3,c3,rfl⟩:=ho3.shape;have B3:=Hm (zg B2.out.drew hb3);have P3:=Hm (ze (ze P2.out (Below.refl _ _).drew) hb3);have O3:=Hm (ze (ze O2.out (Below.refl _ _).drew) hb3);have RD3:=Hm ho3.rd;clear hb3 ho3 x0 y0 y1 B2 P2 O2;have x0:=za P3.out 0;have y0:=za O3.out 0;have y1:=za O3.out 1;simp only[qk,ql,qm]at x0 y0 y1;refine Hid.out ?_;refine Lib.hid ?_;go_wp2_with fail;go_still_tail 6,(by kernel_rfl);go_wp2_with (go_at_call 45;refine(IB.out _ B3.out.drew).mono ?_);rintro e w4 ⟨v4,rfl,ho4,hb4⟩;obtain⟨a4,c4,rfl⟩:=ho4.shape;have B4:=Hm (zg B3.out.drew hb4);have O4:=Hm (ze (ze O3.out (Below.refl _ _).drew) hb4)
 have RD3':=Hm ((RD3.out.below (Below.refl _ _).drew).below hb4);have RD4:=Hm ho4.rd;clear hb4 ho4 x0 y0 y1 B3 P3 O3 RD3;have y0:=za O4.out 0;have y1:=za O4.out 1;simp only[qk,ql,qm]at y0 y1;obtain⟨na,hna⟩:∃n,n=GA.length:=⟨_,rfl⟩;obtain⟨nb,hnb⟩:∃n,n=GB.length:=⟨_,rfl⟩;rw[←hna]at hla RD3' ⊢;rw[←hnb]at hlb RD4 ⊢;have HNA:=Hm hna;have HNB:=Hm hnb;clear hna hnb;refine Hid.out ?_;refine Lib.hid ?_;go_wp2_with (go_at_call 58;refine(yp (11+v) r r (r+1) _).mono ?_);rintro e w5 ⟨v5,rfl,ho5,hb5⟩;obtain⟨a5,c5,rfl⟩:=ho5.shape;have B5:=Hm (zg B4.out hb5);have RA5:=Hm (RD3'.out.below hb5);have RB5:=Hm (RD4.out.below hb5);have RO5:=Hm ho5.rd;clear hb5 ho5 y0 y1 B4 O4 RD3' RD4
 refine Hid.out ?_;refine Lib.hid ?_;obtain⟨W6,hW6⟩:∃W,W=w5.alloc (.cells #[.slice a3 na c3,.slice a4 nb c4,.slice a5 1 c5] 23):=⟨_,rfl⟩;have B6:Hid (Below w5.heap.size w5 W6):=by rw[hW6];exact zf (Below.refl _ _) _
 have K6:Hid (W6.heap[w5.heap.size]? =some (.cells #[.slice a3 na c3,.slice a4 nb c4,.slice a5 1 c5] 23)):=by rw[hW6];exact zi _ _
 have SQ:=Hm (seqG w5.heap.size 3 3 _ _ W6 (by omega) (cells3 K6.out) (rd3 (RA5.out.below B6.out) (RB5.out.below B6.out) (RO5.out.below B6.out)) (Tc (by rw[←HNA.out];omega) (by rw[←HNB.out];omega) (by simp)));have B7:=Hm (zg B5.out B6.out);have HW6:=Hm hW6;clear hW6 B5 RA5 RB5 RO5 K6 B6;go_wp2_with (go_at_call 37;rw[←HW6.out];refine SQ.out.mono ?_);rintro e w8 ⟨v8,rfl,ho8,hb8⟩;have B8:=Hm (zg B7.out hb8);have O8:=Hm (ho8.mono B7.out.size);clear ho8 hb8;go_wp2;go_ret;exact .mk _ rfl (by have:=O8.out;simp only[catL,List.getD_cons_zero,List.getD_cons_succ,List.nil_append]at this;rw[qj]at this;simpa[HNB.out]using this) B8.out
end Go.Proofs.YtbdldkpifanaiaaDoor.Cd
