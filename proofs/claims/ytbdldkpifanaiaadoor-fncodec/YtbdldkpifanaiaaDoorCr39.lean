import Derived.Test.YtbdldkpifanaiaaDoorCr38
set_option maxHeartbeats 6400000
set_option maxRecDepth 1000000
set_option linter.unusedVariables false
set_option linter.unusedSimpArgs false
open List renaming setIfInBounds_toArray → qa, set_cons_zero → qb, set_cons_succ → qc, getElem_cons_succ → qd, getElem_cons_zero → qe, getElem_toArray → qf, getElem?_toArray → qk, getElem?_cons_zero → ql, getElem?_cons_succ → qm
open Nat renaming le_trans → qo, le_of_lt → qq
namespace Go.Proofs.YtbdldkpifanaiaaDoor.Cd
open Go Go.RowKit Mem Syn Par Dq Draw
attribute [local go_sem ↓] Go.wp_at_zero Go.wp_at_succ
variable {B g:Nat} {w0 w w':World} {bs:List UInt8} {D:Sr} {s s':DS} {x0:Nat} {cs0:Array Value}
def Ya (D:Sr) (k i n:Nat) (y:Is) (s:DS):Is×DS:=
 if k=4 then (⟨((D.bel s 22).1:Int),y.a,y.b,y.c⟩,(D.bel s 22).2)
 else if k=5 then (⟨y.p,wrap64 (y.a+1),y.b,y.c⟩,s)
 else if k=6 then (⟨y.p,y.a,wrap64 (y.b+1),y.c⟩,s)
 else if k=7 then (⟨y.p,y.a,y.b,wrap64 (y.c+1)⟩,s)
 else if k=8 then (⟨y.p,((D.bel s 16).1:Int),y.b,y.c⟩,(D.bel s 16).2)
 else if k=9 then (⟨y.p,y.a,wrap64 (-y.b),y.c⟩,s)
 else if k=10 then (⟨17,0,(i:Int)+((D.bel s 4).1:Int),0⟩,(D.bel s 4).2)
 else if k=11 then (⟨1,13,1000000000+((D.bel s 2).1:Int),0⟩,(D.bel s 2).2)
 else if k=12 then (⟨16,12,(n:Int)+((D.bel s 2).1:Int),0⟩,(D.bel s 2).2)
 else (⟨18,10,((D.bel s 3).1:Int)*50,0⟩,(D.bel s 3).2)
def zZ (D:Sr) (K:Kd) (s:DS):Kd×DS:=
 match D.bel s 14 with
 |(k,s1)=>
  if k=0 then (⟨wrap64 (K.R-1),K.S,K.L1,K.L2,K.L3⟩,s1)
  else if k=1 then (⟨K.R,wrap64 (K.S-1),K.L1,K.L2,K.L3⟩,s1)
  else if k=2 then
   match D.bel s1 2 with
   |(x,s2)=>match D.bel s2 2 with
    |(y,s3)=>(⟨1000+(x:Int),100+(y:Int),K.L1,K.L2,K.L3⟩,s3)
  else if k=3 then (⟨K.R,K.S,K.L1++[⟨18,4,7,0⟩],K.L2,K.L3⟩,s1)
  else if K.L2.length=0 then (K,s1)
  else match D.bel s1 K.L2.length with
   |(i,s2)=>(⟨K.R,K.S,K.L1,K.L2.set i (Ya D k i K.L2.length (K.L2.getD i ⟨0,0,0,0⟩) s2).1,K.L3⟩,(Ya D k i K.L2.length (K.L2.getD i ⟨0,0,0,0⟩) s2).2)
inductive SplP (B g:Nat) (w0:World) (bs:List UInt8) (D:Sr) (x0:Nat) (cs0:Array Value) (r:Kd×DS) (e:Ending) (w':World):Prop
 |mk (v1 v2 v3:Value) (he:e=.returned (.agg #[.int .i64 r.1.R,.int .i64 r.1.S,v1,v2,v3])) (o1:OI w0.heap.size w' v1 r.1.L1) (o2:OI w0.heap.size w' v2 r.1.L2) (o3:OI w0.heap.size w' v3 r.1.L3) (c:Cu B g w0 w' bs D r.2) (q:w'.heap[x0]? =some (.cells cs0 25)):SplP B g w0 bs D x0 cs0 r e w'
theorem OI.cur {B':Nat} {v:Value} {L:List Is} (h:OI B' w v L) (c:Cu B g w0 w bs D s) (hg:w.grownBy w' (some g)):OI B' w' v L:=xq h (by decide) c.d hg
theorem zN {V:World} {r:Nat} {z0 z1 z2 z3 z4:Value} (hr:V.heap[r]? =some (.cells #[z0,z1,z2,z3,z4] 25)) (u0 u1 u2 u3 u4:Value) (C:Cu B g w0 V bs D s) (hle:w0.heap.size≤r):
  ∃Z:World,(((((V.setCell ⟨r,0,none⟩ u0).setCell ⟨r,1,none⟩ u1).setCell ⟨r,2,none⟩ u2).setCell ⟨r,3,none⟩ u3).setCell ⟨r,4,none⟩ u4)=Z∧Z.heap[r]? =some (.cells #[u0,u1,u2,u3,u4] 25)∧Cu B g w0 Z bs D s∧∀(B':Nat) (v:Value) (L:List Is),OI B' V v L→OI B' Z v L:=by
 obtain⟨Z,hZ,RZ,-,OZ⟩:=Dec.put5 hr u0 u1 u2 u3 u4;refine⟨Z,hZ,RZ,?_,fun B' v L h=>OZ _ _ _ _ _ _ (by decide) h⟩;rw[←hZ];exact Cu.set (Cu.set (Cu.set (Cu.set (Cu.set C hle) hle) hle) hle) hle
theorem spl0 (K:Kd) (v1 v2 v3:Value) (C0:Cu B g w0 w bs D s) (hq0:w0.heap.size≤x0) (hql:w.heap[x0]? =some (.cells cs0 25)) (h1:OI w0.heap.size w v1 K.L1) (h2:OI w0.heap.size w v2 K.L2) (h3:OI w0.heap.size w v3 K.L3) (hk:D.bel s 14=(0,s')):
  Calls Tryd.prog 29 #[.pointer (some ⟨g,0,none⟩),.agg #[.int .i64 K.R,.int .i64 K.S,v1,v2,v3]] w (SplP B g w0 bs D x0 cs0 (zZ D K s)):=by
 obtain⟨R,S,L1,L2,L3⟩:=K;dsimp only at h1 h2 h3 ⊢;obtain⟨a1,c1,rfl⟩:=h1.shape;obtain⟨a2,c2,rfl⟩:=h2.shape;obtain⟨a3,c3,rfl⟩:=h3.shape;obtain⟨n1,hn1⟩:∃n,n=L1.length:=⟨_,rfl⟩;obtain⟨n2,hn2⟩:∃n,n=L2.length:=⟨_,rfl⟩;obtain⟨n3,hn3⟩:∃n,n=L3.length:=⟨_,rfl⟩;rw[←hn1]at h1 ⊢;rw[←hn2]at h2 ⊢;rw[←hn3]at h3 ⊢;have HK:=Hm hk;have hws:=C0.size;have hqn:=zu hql;obtain⟨W1,hW1⟩:∃W,W=(w.alloc (.cells #[.int .i64 R,.int .i64 S,.slice a1 n1 c1,.slice a2 n2 c2,.slice a3 n3 c3] 25)).alloc (.cells #[.int .i64 0,.int .i64 0,.slice none 0 0,.slice none 0 0,.slice none 0 0] 25):=⟨_,rfl⟩;have bw:Below w.heap.size w W1:=by rw[hW1];exact zf (zf (Below.refl _ _) _) _
 have X1:Hid (W1.heap[w.heap.size]? =some (.cells #[.int .i64 R,.int .i64 S,.slice a1 n1 c1,.slice a2 n2 c2,.slice a3 n3 c3] 25)):=by rw[hW1];exact zh (zi _ _) _
 have Y1:Hid (W1.heap[w.heap.size+1]? =some (.cells #[.int .i64 0,.int .i64 0,.slice none 0 0,.slice none 0 0,.slice none 0 0] 25)):=by rw[hW1];exact zx _ _ _
 have Q1:Hid (W1.heap[x0]? =some (.cells cs0 25)):=by rw[hW1];exact zh (zh hql _) _
 have C1:=Hm (C0.below bw);have O1:=Hm (h1.kept bw);have O2:=Hm (h2.kept bw);have O3:=Hm (h3.kept bw);have HN:=Hm (And.intro hn1 (And.intro hn2 hn3));clear h1 h2 h3 bw C0 hk hql hn1 hn2 hn3;obtain⟨RR,hRR⟩:∃r,r=zZ D ⟨R,S,L1,L2,L3⟩ s:=⟨_,rfl⟩;rw[←hRR];have HRR:=Hm hRR;clear hRR;go_enter Tryd.func29,Tryd.ntmps29;go_upto_region 1 with fail;rw[←hW1];clear hW1;go_wp2_with (go_at_call 22;refine(zQ C1.out 14 (by omega) (by omega)).mono ?_);rintro e w2 ⟨k,s1,hx,-,rfl,hc,hgb⟩;rw[HK.out]at hx;obtain⟨rfl,rfl⟩:=Prod.mk.inj hx;have X2:=Hm (Cu.blk C1.out (by omega) X1.out hgb);have Y2:=Hm (Cu.blk C1.out (by omega) Y1.out hgb);have Q2:=Hm (Cu.blk C1.out (by omega) Q1.out hgb);have O1:=Hm (OI.cur O1.out C1.out hgb);have O2:=Hm (OI.cur O2.out C1.out hgb)
 have O3:=Hm (OI.cur O3.out C1.out hgb);have C2:=Hm hc;clear hc hgb hx C1 X1 Y1 Q1;refine Hid.out ?_;refine Lib.hid ?_;have e0:=za X2.out 0;have f0:=zb X2.out 0;simp only[qk,ql,qm]at e0;obtain⟨Z1,hZ1⟩:∃Z,Z=w2.setCell ⟨w.heap.size,0,none⟩ (.int .i64 (wrap64 (R-1))):=⟨_,rfl⟩;have X3:Hid (Z1.heap[w.heap.size]? =some (.cells #[.int .i64 (wrap64 (R-1)),.int .i64 (S),.slice a1 n1 c1,.slice a2 n2 c2,.slice a3 n3 c3] 25)):=by unfold Hid;rw[hZ1];have:=zk X2.out 0 (.int .i64 (wrap64 (R-1)));simpa using this
 have Y3:Hid (Z1.heap[w.heap.size+1]? =some (.cells #[.int .i64 0,.int .i64 0,.slice none 0 0,.slice none 0 0,.slice none 0 0] 25)):=by rw[hZ1];exact zd Y2.out (show w.heap.size+1≠w.heap.size by omega) _
 have Q3:Hid (Z1.heap[x0]? =some (.cells cs0 25)):=by rw[hZ1];exact zd Q2.out (show x0≠w.heap.size by omega) _
 have C3:Hid (Cu B g w0 Z1 bs D s'):=by rw[hZ1];exact Cu.set C2.out (by omega)
 have O1:Hid (OI w0.heap.size Z1 (.slice a1 n1 c1) L1):=by rw[hZ1];exact zo O1.out X2.out (by decide)
 have O2:Hid (OI w0.heap.size Z1 (.slice a2 n2 c2) L2):=by rw[hZ1];exact zo O2.out X2.out (by decide)
 have O3:Hid (OI w0.heap.size Z1 (.slice a3 n3 c3) L3):=by rw[hZ1];exact zo O3.out X2.out (by decide)
 have HFIN:Hid (RR=(⟨wrap64 (R-1),S,L1,L2,L3⟩,s')):=by unfold Hid;rw[HRR.out];simp only[zZ,HK.out];rfl
 go_upto_region 4 with fail;rw[←hZ1];clear hZ1 e0 f0 X2 Y2 Q2 C2;have e0:=za X3.out 0;have e1:=za X3.out 1;have e2:=za X3.out 2;have e3:=za X3.out 3;have e4:=za X3.out 4;have g0:=za Y3.out 0;have g1:=za Y3.out 1;have g2:=za Y3.out 2;have g3:=za Y3.out 3;have g4:=za Y3.out 4;have f0:=zb Y3.out 0;have f1:=zb Y3.out 1;have f2:=zb Y3.out 2;have f3:=zb Y3.out 3;have f4:=zb Y3.out 4;simp only[qk,ql,qm]at e0 e1 e2 e3 e4 g0 g1 g2 g3 g4;go_wp2;obtain⟨Z,hZ,RZ,CZ,OZ⟩:=zN Y3.out (.int .i64 (wrap64 (R-1))) (.int .i64 (S)) (.slice a1 n1 c1) (.slice a2 n2 c2) (.slice a3 n3 c3) C3.out (by omega);rw[hZ];have z0:=za RZ 0;have z1:=za RZ 1;have z2:=za RZ 2
 have z3:=za RZ 3;have z4:=za RZ 4;simp only[qk,ql,qm]at z0 z1 z2 z3 z4;refine bodyPost_ret (v:=.agg #[.int .i64 (wrap64 (R-1)),.int .i64 (S),.slice a1 n1 c1,.slice a2 n2 c2,.slice a3 n3 c3]) (by simp[results,Tryd.results29,go_sem,z0,z1,z2,z3,z4];try rfl) rfl ?_;rw[HFIN.out];exact .mk _ _ _ rfl (OZ _ _ _ O1.out) (OZ _ _ _ O2.out) (OZ _ _ _ O3.out) CZ (by rw[←hZ];exact zd (zd (zd (zd (zd Q3.out (show x0≠w.heap.size+1 by omega) _) (show x0≠w.heap.size+1 by omega) _) (show x0≠w.heap.size+1 by omega) _) (show x0≠w.heap.size+1 by omega) _) (show x0≠w.heap.size+1 by omega) _)
theorem spl1 (K:Kd) (v1 v2 v3:Value) (C0:Cu B g w0 w bs D s) (hq0:w0.heap.size≤x0) (hql:w.heap[x0]? =some (.cells cs0 25)) (h1:OI w0.heap.size w v1 K.L1) (h2:OI w0.heap.size w v2 K.L2) (h3:OI w0.heap.size w v3 K.L3) (hk:D.bel s 14=(1,s')):
  Calls Tryd.prog 29 #[.pointer (some ⟨g,0,none⟩),.agg #[.int .i64 K.R,.int .i64 K.S,v1,v2,v3]] w (SplP B g w0 bs D x0 cs0 (zZ D K s)):=by
 obtain⟨R,S,L1,L2,L3⟩:=K;dsimp only at h1 h2 h3 ⊢;obtain⟨a1,c1,rfl⟩:=h1.shape;obtain⟨a2,c2,rfl⟩:=h2.shape;obtain⟨a3,c3,rfl⟩:=h3.shape;obtain⟨n1,hn1⟩:∃n,n=L1.length:=⟨_,rfl⟩;obtain⟨n2,hn2⟩:∃n,n=L2.length:=⟨_,rfl⟩;obtain⟨n3,hn3⟩:∃n,n=L3.length:=⟨_,rfl⟩;rw[←hn1]at h1 ⊢;rw[←hn2]at h2 ⊢;rw[←hn3]at h3 ⊢;have HK:=Hm hk;have hws:=C0.size;have hqn:=zu hql;obtain⟨W1,hW1⟩:∃W,W=(w.alloc (.cells #[.int .i64 R,.int .i64 S,.slice a1 n1 c1,.slice a2 n2 c2,.slice a3 n3 c3] 25)).alloc (.cells #[.int .i64 0,.int .i64 0,.slice none 0 0,.slice none 0 0,.slice none 0 0] 25):=⟨_,rfl⟩;have bw:Below w.heap.size w W1:=by rw[hW1];exact zf (zf (Below.refl _ _) _) _
 have X1:Hid (W1.heap[w.heap.size]? =some (.cells #[.int .i64 R,.int .i64 S,.slice a1 n1 c1,.slice a2 n2 c2,.slice a3 n3 c3] 25)):=by rw[hW1];exact zh (zi _ _) _
 have Y1:Hid (W1.heap[w.heap.size+1]? =some (.cells #[.int .i64 0,.int .i64 0,.slice none 0 0,.slice none 0 0,.slice none 0 0] 25)):=by rw[hW1];exact zx _ _ _
 have Q1:Hid (W1.heap[x0]? =some (.cells cs0 25)):=by rw[hW1];exact zh (zh hql _) _
 have C1:=Hm (C0.below bw);have O1:=Hm (h1.kept bw);have O2:=Hm (h2.kept bw);have O3:=Hm (h3.kept bw);have HN:=Hm (And.intro hn1 (And.intro hn2 hn3));clear h1 h2 h3 bw C0 hk hql hn1 hn2 hn3;obtain⟨RR,hRR⟩:∃r,r=zZ D ⟨R,S,L1,L2,L3⟩ s:=⟨_,rfl⟩;rw[←hRR];have HRR:=Hm hRR;clear hRR;go_enter Tryd.func29,Tryd.ntmps29;go_upto_region 1 with fail;rw[←hW1];clear hW1;go_wp2_with (go_at_call 22;refine(zQ C1.out 14 (by omega) (by omega)).mono ?_);rintro e w2 ⟨k,s1,hx,-,rfl,hc,hgb⟩;rw[HK.out]at hx;obtain⟨rfl,rfl⟩:=Prod.mk.inj hx;have X2:=Hm (Cu.blk C1.out (by omega) X1.out hgb);have Y2:=Hm (Cu.blk C1.out (by omega) Y1.out hgb);have Q2:=Hm (Cu.blk C1.out (by omega) Q1.out hgb);have O1:=Hm (OI.cur O1.out C1.out hgb);have O2:=Hm (OI.cur O2.out C1.out hgb)
 have O3:=Hm (OI.cur O3.out C1.out hgb);have C2:=Hm hc;clear hc hgb hx C1 X1 Y1 Q1;refine Hid.out ?_;refine Lib.hid ?_;have e1:=za X2.out 1;have f1:=zb X2.out 1;simp only[qk,ql,qm]at e1;obtain⟨Z1,hZ1⟩:∃Z,Z=w2.setCell ⟨w.heap.size,1,none⟩ (.int .i64 (wrap64 (S-1))):=⟨_,rfl⟩;have X3:Hid (Z1.heap[w.heap.size]? =some (.cells #[.int .i64 (R),.int .i64 (wrap64 (S-1)),.slice a1 n1 c1,.slice a2 n2 c2,.slice a3 n3 c3] 25)):=by unfold Hid;rw[hZ1];have:=zk X2.out 1 (.int .i64 (wrap64 (S-1)));simpa using this
 have Y3:Hid (Z1.heap[w.heap.size+1]? =some (.cells #[.int .i64 0,.int .i64 0,.slice none 0 0,.slice none 0 0,.slice none 0 0] 25)):=by rw[hZ1];exact zd Y2.out (show w.heap.size+1≠w.heap.size by omega) _
 have Q3:Hid (Z1.heap[x0]? =some (.cells cs0 25)):=by rw[hZ1];exact zd Q2.out (show x0≠w.heap.size by omega) _
 have C3:Hid (Cu B g w0 Z1 bs D s'):=by rw[hZ1];exact Cu.set C2.out (by omega)
 have O1:Hid (OI w0.heap.size Z1 (.slice a1 n1 c1) L1):=by rw[hZ1];exact zo O1.out X2.out (by decide)
 have O2:Hid (OI w0.heap.size Z1 (.slice a2 n2 c2) L2):=by rw[hZ1];exact zo O2.out X2.out (by decide)
 have O3:Hid (OI w0.heap.size Z1 (.slice a3 n3 c3) L3):=by rw[hZ1];exact zo O3.out X2.out (by decide)
 have HFIN:Hid (RR=(⟨R,wrap64 (S-1),L1,L2,L3⟩,s')):=by unfold Hid;rw[HRR.out];simp only[zZ,HK.out];rfl
 go_upto_region 7 with fail;rw[←hZ1];clear hZ1 e1 f1 X2 Y2 Q2 C2;have e0:=za X3.out 0;have e1:=za X3.out 1;have e2:=za X3.out 2;have e3:=za X3.out 3;have e4:=za X3.out 4;have g0:=za Y3.out 0;have g1:=za Y3.out 1;have g2:=za Y3.out 2;have g3:=za Y3.out 3;have g4:=za Y3.out 4;have f0:=zb Y3.out 0;have f1:=zb Y3.out 1;have f2:=zb Y3.out 2;have f3:=zb Y3.out 3;have f4:=zb Y3.out 4;simp only[qk,ql,qm]at e0 e1 e2 e3 e4 g0 g1 g2 g3 g4;go_wp2;obtain⟨Z,hZ,RZ,CZ,OZ⟩:=zN Y3.out (.int .i64 (R)) (.int .i64 (wrap64 (S-1))) (.slice a1 n1 c1) (.slice a2 n2 c2) (.slice a3 n3 c3) C3.out (by omega);rw[hZ];have z0:=za RZ 0;have z1:=za RZ 1;have z2:=za RZ 2
 have z3:=za RZ 3;have z4:=za RZ 4;simp only[qk,ql,qm]at z0 z1 z2 z3 z4;refine bodyPost_ret (v:=.agg #[.int .i64 (R),.int .i64 (wrap64 (S-1)),.slice a1 n1 c1,.slice a2 n2 c2,.slice a3 n3 c3]) (by simp[results,Tryd.results29,go_sem,z0,z1,z2,z3,z4];try rfl) rfl ?_;rw[HFIN.out];exact .mk _ _ _ rfl (OZ _ _ _ O1.out) (OZ _ _ _ O2.out) (OZ _ _ _ O3.out) CZ (by rw[←hZ];exact zd (zd (zd (zd (zd Q3.out (show x0≠w.heap.size+1 by omega) _) (show x0≠w.heap.size+1 by omega) _) (show x0≠w.heap.size+1 by omega) _) (show x0≠w.heap.size+1 by omega) _) (show x0≠w.heap.size+1 by omega) _)
theorem spl2 (K:Kd) (v1 v2 v3:Value) (C0:Cu B g w0 w bs D s) (hq0:w0.heap.size≤x0) (hql:w.heap[x0]? =some (.cells cs0 25)) (h1:OI w0.heap.size w v1 K.L1) (h2:OI w0.heap.size w v2 K.L2) (h3:OI w0.heap.size w v3 K.L3) (hk:D.bel s 14=(2,s')):
  Calls Tryd.prog 29 #[.pointer (some ⟨g,0,none⟩),.agg #[.int .i64 K.R,.int .i64 K.S,v1,v2,v3]] w (SplP B g w0 bs D x0 cs0 (zZ D K s)):=by
 obtain⟨R,S,L1,L2,L3⟩:=K;dsimp only at h1 h2 h3 ⊢;obtain⟨a1,c1,rfl⟩:=h1.shape;obtain⟨a2,c2,rfl⟩:=h2.shape;obtain⟨a3,c3,rfl⟩:=h3.shape;obtain⟨n1,hn1⟩:∃n,n=L1.length:=⟨_,rfl⟩;obtain⟨n2,hn2⟩:∃n,n=L2.length:=⟨_,rfl⟩;obtain⟨n3,hn3⟩:∃n,n=L3.length:=⟨_,rfl⟩;rw[←hn1]at h1 ⊢;rw[←hn2]at h2 ⊢;rw[←hn3]at h3 ⊢;have HK:=Hm hk;have hws:=C0.size;have hqn:=zu hql;obtain⟨W1,hW1⟩:∃W,W=(w.alloc (.cells #[.int .i64 R,.int .i64 S,.slice a1 n1 c1,.slice a2 n2 c2,.slice a3 n3 c3] 25)).alloc (.cells #[.int .i64 0,.int .i64 0,.slice none 0 0,.slice none 0 0,.slice none 0 0] 25):=⟨_,rfl⟩;have bw:Below w.heap.size w W1:=by rw[hW1];exact zf (zf (Below.refl _ _) _) _
 have X1:Hid (W1.heap[w.heap.size]? =some (.cells #[.int .i64 R,.int .i64 S,.slice a1 n1 c1,.slice a2 n2 c2,.slice a3 n3 c3] 25)):=by rw[hW1];exact zh (zi _ _) _
 have Y1:Hid (W1.heap[w.heap.size+1]? =some (.cells #[.int .i64 0,.int .i64 0,.slice none 0 0,.slice none 0 0,.slice none 0 0] 25)):=by rw[hW1];exact zx _ _ _
 have Q1:Hid (W1.heap[x0]? =some (.cells cs0 25)):=by rw[hW1];exact zh (zh hql _) _
 have C1:=Hm (C0.below bw);have O1:=Hm (h1.kept bw);have O2:=Hm (h2.kept bw);have O3:=Hm (h3.kept bw);have HN:=Hm (And.intro hn1 (And.intro hn2 hn3));clear h1 h2 h3 bw C0 hk hql hn1 hn2 hn3;obtain⟨RR,hRR⟩:∃r,r=zZ D ⟨R,S,L1,L2,L3⟩ s:=⟨_,rfl⟩;rw[←hRR];have HRR:=Hm hRR;clear hRR;go_enter Tryd.func29,Tryd.ntmps29;go_upto_region 1 with fail;rw[←hW1];clear hW1;go_wp2_with (go_at_call 22;refine(zQ C1.out 14 (by omega) (by omega)).mono ?_);rintro e w2 ⟨k,s1,hx,-,rfl,hc,hgb⟩;rw[HK.out]at hx;obtain⟨rfl,rfl⟩:=Prod.mk.inj hx;have X2:=Hm (Cu.blk C1.out (by omega) X1.out hgb);have Y2:=Hm (Cu.blk C1.out (by omega) Y1.out hgb);have Q2:=Hm (Cu.blk C1.out (by omega) Q1.out hgb);have O1:=Hm (OI.cur O1.out C1.out hgb);have O2:=Hm (OI.cur O2.out C1.out hgb)
 have O3:=Hm (OI.cur O3.out C1.out hgb);have C2:=Hm hc;clear hc hgb hx C1 X1 Y1 Q1;refine Hid.out ?_;refine Lib.hid ?_;go_wp2_with (go_at_call 22;refine(zQ C2.out 2 (by omega) (by omega)).mono ?_);rintro e w3 ⟨x,s2,hx,hlt,rfl,hc,hgb⟩;have XA:=Hm (Cu.blk C2.out (by omega) X2.out hgb);have YA:=Hm (Cu.blk C2.out (by omega) Y2.out hgb);have QA:=Hm (Cu.blk C2.out (by omega) Q2.out hgb);have O1:=Hm (OI.cur O1.out C2.out hgb);have O2:=Hm (OI.cur O2.out C2.out hgb);have O3:=Hm (OI.cur O3.out C2.out hgb);have CA:=Hm hc;have HB3:=Hm hx;clear hc hgb hx C2 X2 Y2 Q2;have e0:=za XA.out 0;have f0:=zb XA.out 0;have u0:IntKind.i64.wrap (1000+(x:Int))=1000+(x:Int):=by rw[IntKind.wrap_i64];omega
 simp only[qk,ql,qm]at e0;obtain⟨Z3,hZ⟩:∃Z,Z=w3.setCell ⟨w.heap.size,0,none⟩ (.int .i64 (1000+(x:Int))):=⟨_,rfl⟩;have XB3:Hid (Z3.heap[w.heap.size]? =some (.cells #[.int .i64 (1000+(x:Int)),.int .i64 S,.slice a1 n1 c1,.slice a2 n2 c2,.slice a3 n3 c3] 25)):=by unfold Hid;rw[hZ];have:=zk XA.out 0 (.int .i64 (1000+(x:Int)));simpa using this
 have YB3:Hid (Z3.heap[w.heap.size+1]? =some (.cells #[.int .i64 0,.int .i64 0,.slice none 0 0,.slice none 0 0,.slice none 0 0] 25)):=by rw[hZ];exact zd YA.out (show w.heap.size+1≠w.heap.size by omega) _
 have QB3:Hid (Z3.heap[x0]? =some (.cells cs0 25)):=by rw[hZ];exact zd QA.out (show x0≠w.heap.size by omega) _
 have CB3:Hid (Cu B g w0 Z3 bs D s2):=by rw[hZ];exact Cu.set CA.out (by omega)
 have O1:Hid (OI w0.heap.size Z3 (.slice a1 n1 c1) L1):=by rw[hZ];exact zo O1.out XA.out (by decide)
 have O2:Hid (OI w0.heap.size Z3 (.slice a2 n2 c2) L2):=by rw[hZ];exact zo O2.out XA.out (by decide)
 have O3:Hid (OI w0.heap.size Z3 (.slice a3 n3 c3) L3):=by rw[hZ];exact zo O3.out XA.out (by decide)
 refine Hid.out ?_;refine Lib.hid ?_;go_upto_region 10 with fail;rw[←hZ];clear hZ e0 f0 u0 XA YA QA CA;go_wp2_with (go_at_call 22;refine(zQ CB3.out 2 (by omega) (by omega)).mono ?_);rintro e w4 ⟨y,s3,hx,hlt,rfl,hc,hgb⟩;have XA:=Hm (Cu.blk CB3.out (by omega) XB3.out hgb);have YA:=Hm (Cu.blk CB3.out (by omega) YB3.out hgb);have QA:=Hm (Cu.blk CB3.out (by omega) QB3.out hgb);have O1:=Hm (OI.cur O1.out CB3.out hgb);have O2:=Hm (OI.cur O2.out CB3.out hgb);have O3:=Hm (OI.cur O3.out CB3.out hgb);have CA:=Hm hc;have HB4:=Hm hx;clear hc hgb hx CB3 XB3 YB3 QB3;have e0:=za XA.out 1;have f0:=zb XA.out 1;have u0:IntKind.i64.wrap (100+(y:Int))=100+(y:Int):=by rw[IntKind.wrap_i64];omega
 simp only[qk,ql,qm]at e0;obtain⟨Z4,hZ⟩:∃Z,Z=w4.setCell ⟨w.heap.size,1,none⟩ (.int .i64 (100+(y:Int))):=⟨_,rfl⟩;have XB4:Hid (Z4.heap[w.heap.size]? =some (.cells #[.int .i64 (1000+(x:Int)),.int .i64 (100+(y:Int)),.slice a1 n1 c1,.slice a2 n2 c2,.slice a3 n3 c3] 25)):=by unfold Hid;rw[hZ];have:=zk XA.out 1 (.int .i64 (100+(y:Int)));simpa using this
 have YB4:Hid (Z4.heap[w.heap.size+1]? =some (.cells #[.int .i64 0,.int .i64 0,.slice none 0 0,.slice none 0 0,.slice none 0 0] 25)):=by rw[hZ];exact zd YA.out (show w.heap.size+1≠w.heap.size by omega) _
 have QB4:Hid (Z4.heap[x0]? =some (.cells cs0 25)):=by rw[hZ];exact zd QA.out (show x0≠w.heap.size by omega) _
 have CB4:Hid (Cu B g w0 Z4 bs D s3):=by rw[hZ];exact Cu.set CA.out (by omega)
 have O1:Hid (OI w0.heap.size Z4 (.slice a1 n1 c1) L1):=by rw[hZ];exact zo O1.out XA.out (by decide)
 have O2:Hid (OI w0.heap.size Z4 (.slice a2 n2 c2) L2):=by rw[hZ];exact zo O2.out XA.out (by decide)
 have O3:Hid (OI w0.heap.size Z4 (.slice a3 n3 c3) L3):=by rw[hZ];exact zo O3.out XA.out (by decide)
 refine Hid.out ?_;refine Lib.hid ?_;go_upto_region 11 with fail;rw[←hZ];clear hZ e0 f0 u0 XA YA QA CA;have HFIN:Hid (RR=(⟨1000+(x:Int),100+(y:Int),L1,L2,L3⟩,s3)):=by unfold Hid;rw[HRR.out];simp only[zZ,HK.out,HB3.out,HB4.out];rfl
 have e0:=za XB4.out 0;have e1:=za XB4.out 1;have e2:=za XB4.out 2;have e3:=za XB4.out 3;have e4:=za XB4.out 4;have g0:=za YB4.out 0;have g1:=za YB4.out 1;have g2:=za YB4.out 2;have g3:=za YB4.out 3;have g4:=za YB4.out 4;have f0:=zb YB4.out 0;have f1:=zb YB4.out 1;have f2:=zb YB4.out 2;have f3:=zb YB4.out 3;have f4:=zb YB4.out 4;simp only[qk,ql,qm]at e0 e1 e2 e3 e4 g0 g1 g2 g3 g4;go_wp2;obtain⟨Z,hZ,RZ,CZ,OZ⟩:=zN YB4.out (.int .i64 (1000+(x:Int))) (.int .i64 (100+(y:Int))) (.slice a1 n1 c1) (.slice a2 n2 c2) (.slice a3 n3 c3) CB4.out (by omega);rw[hZ];have z0:=za RZ 0;have z1:=za RZ 1;have z2:=za RZ 2;have z3:=za RZ 3
 have z4:=za RZ 4;simp only[qk,ql,qm]at z0 z1 z2 z3 z4;refine bodyPost_ret (v:=.agg #[.int .i64 (1000+(x:Int)),.int .i64 (100+(y:Int)),.slice a1 n1 c1,.slice a2 n2 c2,.slice a3 n3 c3]) (by simp[results,Tryd.results29,go_sem,z0,z1,z2,z3,z4];try rfl) rfl ?_;rw[HFIN.out];exact .mk _ _ _ rfl (OZ _ _ _ O1.out) (OZ _ _ _ O2.out) (OZ _ _ _ O3.out) CZ (by rw[←hZ];exact zd (zd (zd (zd (zd QB4.out (show x0≠w.heap.size+1 by omega) _) (show x0≠w.heap.size+1 by omega) _) (show x0≠w.heap.size+1 by omega) _) (show x0≠w.heap.size+1 by omega) _) (show x0≠w.heap.size+1 by omega) _)
theorem spl3 (K:Kd) (v1 v2 v3:Value) (C0:Cu B g w0 w bs D s) (hq0:w0.heap.size≤x0) (hql:w.heap[x0]? =some (.cells cs0 25)) (h1:OI w0.heap.size w v1 K.L1) (h2:OI w0.heap.size w v2 K.L2) (h3:OI w0.heap.size w v3 K.L3) (hk:D.bel s 14=(3,s')) (ha2:Apt v1 v2) (ha3:Apt v1 v3) (hl1:K.L1.length≤1000000):
  Calls Tryd.prog 29 #[.pointer (some ⟨g,0,none⟩),.agg #[.int .i64 K.R,.int .i64 K.S,v1,v2,v3]] w (SplP B g w0 bs D x0 cs0 (zZ D K s)):=by
 obtain⟨R,S,L1,L2,L3⟩:=K;dsimp only at h1 h2 h3 hl1 ⊢;obtain⟨a1,c1,rfl⟩:=h1.shape;obtain⟨a2,c2,rfl⟩:=h2.shape;obtain⟨a3,c3,rfl⟩:=h3.shape;obtain⟨n1,hn1⟩:∃n,n=L1.length:=⟨_,rfl⟩;obtain⟨n2,hn2⟩:∃n,n=L2.length:=⟨_,rfl⟩;obtain⟨n3,hn3⟩:∃n,n=L3.length:=⟨_,rfl⟩;rw[←hn1]at h1 ⊢;rw[←hn2]at h2 ⊢;rw[←hn3]at h3 ⊢;have HK:=Hm hk;have HL1:=Hm hl1;rw[←hn1,←hn2]at ha2;rw[←hn1,←hn3]at ha3;have HA:=Hm (And.intro ha2 ha3);clear hl1 ha2 ha3;have hws:=C0.size;have hqn:=zu hql;obtain⟨W1,hW1⟩:∃W,W=(w.alloc (.cells #[.int .i64 R,.int .i64 S,.slice a1 n1 c1,.slice a2 n2 c2,.slice a3 n3 c3] 25)).alloc (.cells #[.int .i64 0,.int .i64 0,.slice none 0 0,.slice none 0 0,.slice none 0 0] 25):=⟨_,rfl⟩
 have bw:Below w.heap.size w W1:=by rw[hW1];exact zf (zf (Below.refl _ _) _) _
 have X1:Hid (W1.heap[w.heap.size]? =some (.cells #[.int .i64 R,.int .i64 S,.slice a1 n1 c1,.slice a2 n2 c2,.slice a3 n3 c3] 25)):=by rw[hW1];exact zh (zi _ _) _
 have Y1:Hid (W1.heap[w.heap.size+1]? =some (.cells #[.int .i64 0,.int .i64 0,.slice none 0 0,.slice none 0 0,.slice none 0 0] 25)):=by rw[hW1];exact zx _ _ _
 have Q1:Hid (W1.heap[x0]? =some (.cells cs0 25)):=by rw[hW1];exact zh (zh hql _) _
 have C1:=Hm (C0.below bw);have O1:=Hm (h1.kept bw);have O2:=Hm (h2.kept bw);have O3:=Hm (h3.kept bw);have HN:=Hm (And.intro hn1 (And.intro hn2 hn3));clear h1 h2 h3 bw C0 hk hql hn1 hn2 hn3;obtain⟨RR,hRR⟩:∃r,r=zZ D ⟨R,S,L1,L2,L3⟩ s:=⟨_,rfl⟩;rw[←hRR];have HRR:=Hm hRR;clear hRR;go_enter Tryd.func29,Tryd.ntmps29;go_upto_region 1 with fail;rw[←hW1];clear hW1;go_wp2_with (go_at_call 22;refine(zQ C1.out 14 (by omega) (by omega)).mono ?_);rintro e w2 ⟨k,s1,hx,-,rfl,hc,hgb⟩;rw[HK.out]at hx;obtain⟨rfl,rfl⟩:=Prod.mk.inj hx;have X2:=Hm (Cu.blk C1.out (by omega) X1.out hgb);have Y2:=Hm (Cu.blk C1.out (by omega) Y1.out hgb);have Q2:=Hm (Cu.blk C1.out (by omega) Q1.out hgb);have O1:=Hm (OI.cur O1.out C1.out hgb);have O2:=Hm (OI.cur O2.out C1.out hgb)
 have O3:=Hm (OI.cur O3.out C1.out hgb);have C2:=Hm hc;clear hc hgb hx C1 X1 Y1 Q1;refine Hid.out ?_;refine Lib.hid ?_;obtain⟨i0,hi0,hz0,hz1,hz2⟩:=info_parts yI;have HFIN:Hid (RR=(⟨R,S,L1++[⟨18,4,7,0⟩],L2,L3⟩,s')):=by unfold Hid;rw[HRR.out];simp only[zZ,HK.out];rfl
 have hn1':n1≤1000000:=by rw[HN.out.1];exact HL1.out
 have hsw:w.heap.size≤w2.drew.heap.size:=qq (zu X2.out);have X2:=Hm (ze X2.out (Below.refl _ _).drew);have Y2:=Hm (ze Y2.out (Below.refl _ _).drew);have Q2:=Hm (ze Q2.out (Below.refl _ _).drew);have O1:=Hm (O1.out.kept (Below.refl _ _).drew);have O2:=Hm (O2.out.kept (Below.refl _ _).drew);have O3:=Hm (O3.out.kept (Below.refl _ _).drew);have C2:=Hm (C2.out.below (Below.refl _ _).drew);have q2:(w2.drew).cell? ⟨w.heap.size,2,none⟩=some (.slice a1 n1 c1):=(za X2.out 2).trans rfl;go_wp2_with fail;refine wp_region_held_drew (S:=(fun _=>True)) (by kernel_rfl) ?_ (fun hHeld=>?_)
 ·trivial
 refine tK 0 ?_ rfl (by kernel_rfl) (fun _ _ _ h=>h) (by rfl) ?_ (by assumption) ?_;rotate_left
 ·intro w hSw;(try dsimp only at hSw);go_simp;(try with_reducible rfl)
 rotate_left;simp only[Act.put,qa,qb,qc,qf,qe,qd];refine wpAnyH_ready (rs:=[1,2]) (by kernel_rfl) (by simp) ?_;refine AllReadyH.cons rfl (fun K hK=>?_) ?_
 ·go_simp
  refine hK.out _ _ ?_ (fun hHeld=>?_)
  ·trivial
  clear hK K
  (try simp only[Act.put,qa,qb,qc,qf,qe,qd])
  refine wpAnyH_ready (rs:=[2]) (by kernel_rfl) (by simp) ?_;refine AllReadyH.cons rfl (fun K hK=>?_) ?_
  ·go_simp
   refine(Dec.insS _ _ _ _ _).mono ?_;rintro e w' ⟨rfl,hb⟩;have X2:=Hm (ze X2.out hb);have Y2:=Hm (ze Y2.out hb);have Q2:=Hm (ze Q2.out hb);have O1:=Hm (O1.out.kept hb);have O2:=Hm (O2.out.kept hb);have O3:=Hm (O3.out.kept hb);have C2:=Hm (C2.out.below hb);have hsw:=qo hsw hb.size;have q2:w'.cell? ⟨w.heap.size,2,none⟩=some (.slice a1 n1 c1):=(za X2.out 2).trans rfl;clear hb;refine hK.out _ _ ?_ (fun hHeld=>?_)
   ·trivial
   clear hK K
   (try simp only[Act.put,qa,qb,qc,qf,qe,qd])
   refine wpAnyH_ready (rs:=[3]) (by kernel_rfl) (by simp) ?_;refine AllReadyH.cons rfl (fun K hK=>?_) ?_
   ·go_simp
    have q2:=zr q2 (.cells #[.int .i64 18,.int .i64 4,.int .i64 7,.int .i64 0] 60);have RW:Hid ((w'.alloc (.cells #[.int .i64 18,.int .i64 4,.int .i64 7,.int .i64 0] 60)).ownsRow w0.heap.size 60 4 (.slice a1 n1 c1) n1 (isC L1)):=by have:=O1.out.kept (zf (Below.refl _ _) (.cells #[.int .i64 18,.int .i64 4,.int .i64 7,.int .i64 0] 60));unfold OI at this;rw[←HN.out.1]at this;exact this
    refine hK.out _ _ ?_ (fun hHeld=>?_)
    ·trivial
    clear hK K
    (try simp only[Act.put,qa,qb,qc,qf,qe,qd])
    refine wpAnyH_ready (rs:=[4]) (by kernel_rfl) (by simp) ?_;refine AllReadyH.cons rfl (fun K hK=>?_) ?_
    ·refine zm rfl (.tmp 39) (.tmp 41) 23 rfl w0.heap.size 60 i0 (.agg #[.int .i64 0,.int .i64 0,.int .i64 0,.int .i64 0]) 4 32 Tryd.underlying23 hi0 hz0 hz1 hz2 rfl (by decide) (.slice a1 n1 c1) n1 (isC L1) (by simp[Act.eval,Act.put]) RW.out ⟨w'.heap.size,0,none⟩ 1 1 (isC [⟨18,4,7,0⟩]) (by simp[Act.eval,Act.put]) rfl (xk w' ⟨18,4,7,0⟩ 60) (ym _) (by unfold maxLen;omega) (by omega) (qo hws (qo hsw (by simp))) ?_
     intro vn w7 hown hgrow hblk;have ON:=Hm (OI.snocs (M:=[⟨18,4,7,0⟩]) HN.out.1 rfl hown);obtain⟨an,cn,hvn⟩:=ON.out.shape;obtain⟨nn,hnn⟩:∃n,n=(L1++[(⟨18,4,7,0⟩:Is)]).length:=⟨_,rfl⟩;rw[←hnn]at hvn;clear hnn;subst hvn;have OQ1:=Hm (O1.out.kept (zf (Below.refl _ _) (.cells #[.int .i64 18,.int .i64 4,.int .i64 7,.int .i64 0] 60)));have X7:=Hm (zl hgrow OQ1.out (zh X2.out (.cells #[.int .i64 18,.int .i64 4,.int .i64 7,.int .i64 0] 60)) (by decide));have Y7:=Hm (zl hgrow OQ1.out (zh Y2.out (.cells #[.int .i64 18,.int .i64 4,.int .i64 7,.int .i64 0] 60)) (by decide));have Q7:=Hm (zl hgrow OQ1.out (zh Q2.out (.cells #[.int .i64 18,.int .i64 4,.int .i64 7,.int .i64 0] 60)) (by decide))
     have O27:=Hm ((O2.out.kept (zf (Below.refl _ _) (.cells #[.int .i64 18,.int .i64 4,.int .i64 7,.int .i64 0] 60))).keepA OQ1.out HA.out.1.symm hgrow);have O37:=Hm ((O3.out.kept (zf (Below.refl _ _) (.cells #[.int .i64 18,.int .i64 4,.int .i64 7,.int .i64 0] 60))).keepA OQ1.out HA.out.2.symm hgrow);have C7:=Hm (Cu.app (C2.out.al (.cells #[.int .i64 18,.int .i64 4,.int .i64 7,.int .i64 0] 60)) OQ1.out (by decide) hgrow);have d2:w7.cell? ⟨w.heap.size,2,none⟩=some (.slice a1 n1 c1):=(za X7.out 2).trans rfl;have d3:=zb X7.out 2;clear hown hgrow hblk;refine hK.out _ _ ?_ (fun hHeld=>?_)
     ·trivial
     clear hK K
     (try simp only[Act.put,qa,qb,qc,qf,qe,qd])
     refine tK 5 ?_ rfl (by kernel_rfl) (fun _ _ _ h=>h) (by rfl) ?_ (by assumption) ?_;rotate_left
     ·intro w hSw;(try dsimp only at hSw);go_simp;(try with_reducible rfl)
     rotate_left;simp only[Act.put,qa,qb,qc,qf,qe,qd];refine wpAnyH_ready (rs:=[6]) (by kernel_rfl) (by simp) ?_;refine AllReadyH.cons rfl (fun K hK=>?_) ?_
     ·go_simp
      refine hK.out _ _ ?_ (fun hHeld=>?_)
      ·trivial
      clear hK K
      (try simp only[Act.put,qa,qb,qc,qf,qe,qd])
      refine wpAnyH_done (by kernel_rfl) ?_ _;obtain⟨Z1,hZ1⟩:∃Z,Z=w7.setCell ⟨w.heap.size,2,none⟩ (.slice an nn cn):=⟨_,rfl⟩;have X3:Hid (Z1.heap[w.heap.size]? =some (.cells #[.int .i64 R,.int .i64 S,.slice an nn cn,.slice a2 n2 c2,.slice a3 n3 c3] 25)):=by unfold Hid;rw[hZ1];have:=zk X7.out 2 (.slice an nn cn);simpa using this
      have Y3:Hid (Z1.heap[w.heap.size+1]? =some (.cells #[.int .i64 0,.int .i64 0,.slice none 0 0,.slice none 0 0,.slice none 0 0] 25)):=by rw[hZ1];exact zd Y7.out (show w.heap.size+1≠w.heap.size by omega) _
      have Q3:Hid (Z1.heap[x0]? =some (.cells cs0 25)):=by rw[hZ1];exact zd Q7.out (show x0≠w.heap.size by omega) _
      have C3:Hid (Cu B g w0 Z1 bs D s'):=by rw[hZ1];exact Cu.set C7.out (by omega)
      have OA:Hid (OI w0.heap.size Z1 (.slice an nn cn) (L1++[⟨18,4,7,0⟩])):=by rw[hZ1];exact zo ON.out X7.out (by decide)
      have OB:Hid (OI w0.heap.size Z1 (.slice a2 n2 c2) L2):=by rw[hZ1];exact zo O27.out X7.out (by decide)
      have O3:Hid (OI w0.heap.size Z1 (.slice a3 n3 c3) L3):=by rw[hZ1];exact zo O37.out X7.out (by decide)
      rw[←hZ1];clear hZ1 d2 d3 q2;have e0:=za X3.out 0;have e1:=za X3.out 1;have e2:=za X3.out 2;have e3:=za X3.out 3;have e4:=za X3.out 4;have g0:=za Y3.out 0;have g1:=za Y3.out 1;have g2:=za Y3.out 2;have g3:=za Y3.out 3;have g4:=za Y3.out 4;have f0:=zb Y3.out 0;have f1:=zb Y3.out 1;have f2:=zb Y3.out 2;have f3:=zb Y3.out 3;have f4:=zb Y3.out 4;simp only[qk,ql,qm]at e0 e1 e2 e3 e4 g0 g1 g2 g3 g4;go_wp2;obtain⟨Z,hZ,RZ,CZ,OZ⟩:=zN Y3.out (.int .i64 (R)) (.int .i64 (S)) (.slice an nn cn) (.slice a2 n2 c2) (.slice a3 n3 c3) C3.out (by omega);rw[hZ];have z0:=za RZ 0;have z1:=za RZ 1;have z2:=za RZ 2;have z3:=za RZ 3
      have z4:=za RZ 4;simp only[qk,ql,qm]at z0 z1 z2 z3 z4;refine bodyPost_ret (v:=.agg #[.int .i64 (R),.int .i64 (S),.slice an nn cn,.slice a2 n2 c2,.slice a3 n3 c3]) (by simp[results,Tryd.results29,go_sem,z0,z1,z2,z3,z4];try rfl) rfl ?_;rw[HFIN.out];exact .mk _ _ _ rfl (OZ _ _ _ OA.out) (OZ _ _ _ OB.out) (OZ _ _ _ O3.out) CZ (by rw[←hZ];exact zd (zd (zd (zd (zd Q3.out (show x0≠w.heap.size+1 by omega) _) (show x0≠w.heap.size+1 by omega) _) (show x0≠w.heap.size+1 by omega) _) (show x0≠w.heap.size+1 by omega) _) (show x0≠w.heap.size+1 by omega) _)
     exact AllReadyH.nil
    exact AllReadyH.nil
   exact AllReadyH.nil
  exact AllReadyH.nil
 refine AllReadyH.cons rfl (fun K hK=>?_) ?_
 ·go_simp
  refine(Dec.insS _ _ _ _ _).mono ?_;rintro e w' ⟨rfl,hb⟩;have X2:=Hm (ze X2.out hb);have Y2:=Hm (ze Y2.out hb);have Q2:=Hm (ze Q2.out hb);have O1:=Hm (O1.out.kept hb);have O2:=Hm (O2.out.kept hb);have O3:=Hm (O3.out.kept hb);have C2:=Hm (C2.out.below hb);have hsw:=qo hsw hb.size;have q2:w'.cell? ⟨w.heap.size,2,none⟩=some (.slice a1 n1 c1):=(za X2.out 2).trans rfl;clear hb;refine hK.out _ _ ?_ (fun hHeld=>?_)
  ·trivial
  clear hK K
  (try simp only[Act.put,qa,qb,qc,qf,qe,qd])
  refine wpAnyH_ready (rs:=[1,3]) (by kernel_rfl) (by simp) ?_;refine AllReadyH.cons rfl (fun K hK=>?_) ?_
  ·go_simp
   refine hK.out _ _ ?_ (fun hHeld=>?_)
   ·trivial
   clear hK K
   (try simp only[Act.put,qa,qb,qc,qf,qe,qd])
   refine wpAnyH_ready (rs:=[3]) (by kernel_rfl) (by simp) ?_;refine AllReadyH.cons rfl (fun K hK=>?_) ?_
   ·go_simp
    have q2:=zr q2 (.cells #[.int .i64 18,.int .i64 4,.int .i64 7,.int .i64 0] 60);have RW:Hid ((w'.alloc (.cells #[.int .i64 18,.int .i64 4,.int .i64 7,.int .i64 0] 60)).ownsRow w0.heap.size 60 4 (.slice a1 n1 c1) n1 (isC L1)):=by have:=O1.out.kept (zf (Below.refl _ _) (.cells #[.int .i64 18,.int .i64 4,.int .i64 7,.int .i64 0] 60));unfold OI at this;rw[←HN.out.1]at this;exact this
    refine hK.out _ _ ?_ (fun hHeld=>?_)
    ·trivial
    clear hK K
    (try simp only[Act.put,qa,qb,qc,qf,qe,qd])
    refine wpAnyH_ready (rs:=[4]) (by kernel_rfl) (by simp) ?_;refine AllReadyH.cons rfl (fun K hK=>?_) ?_
    ·refine zm rfl (.tmp 39) (.tmp 41) 23 rfl w0.heap.size 60 i0 (.agg #[.int .i64 0,.int .i64 0,.int .i64 0,.int .i64 0]) 4 32 Tryd.underlying23 hi0 hz0 hz1 hz2 rfl (by decide) (.slice a1 n1 c1) n1 (isC L1) (by simp[Act.eval,Act.put]) RW.out ⟨w'.heap.size,0,none⟩ 1 1 (isC [⟨18,4,7,0⟩]) (by simp[Act.eval,Act.put]) rfl (xk w' ⟨18,4,7,0⟩ 60) (ym _) (by unfold maxLen;omega) (by omega) (qo hws (qo hsw (by simp))) ?_
     intro vn w7 hown hgrow hblk;have ON:=Hm (OI.snocs (M:=[⟨18,4,7,0⟩]) HN.out.1 rfl hown);obtain⟨an,cn,hvn⟩:=ON.out.shape;obtain⟨nn,hnn⟩:∃n,n=(L1++[(⟨18,4,7,0⟩:Is)]).length:=⟨_,rfl⟩;rw[←hnn]at hvn;clear hnn;subst hvn;have OQ1:=Hm (O1.out.kept (zf (Below.refl _ _) (.cells #[.int .i64 18,.int .i64 4,.int .i64 7,.int .i64 0] 60)));have X7:=Hm (zl hgrow OQ1.out (zh X2.out (.cells #[.int .i64 18,.int .i64 4,.int .i64 7,.int .i64 0] 60)) (by decide));have Y7:=Hm (zl hgrow OQ1.out (zh Y2.out (.cells #[.int .i64 18,.int .i64 4,.int .i64 7,.int .i64 0] 60)) (by decide));have Q7:=Hm (zl hgrow OQ1.out (zh Q2.out (.cells #[.int .i64 18,.int .i64 4,.int .i64 7,.int .i64 0] 60)) (by decide))
     have O27:=Hm ((O2.out.kept (zf (Below.refl _ _) (.cells #[.int .i64 18,.int .i64 4,.int .i64 7,.int .i64 0] 60))).keepA OQ1.out HA.out.1.symm hgrow);have O37:=Hm ((O3.out.kept (zf (Below.refl _ _) (.cells #[.int .i64 18,.int .i64 4,.int .i64 7,.int .i64 0] 60))).keepA OQ1.out HA.out.2.symm hgrow);have C7:=Hm (Cu.app (C2.out.al (.cells #[.int .i64 18,.int .i64 4,.int .i64 7,.int .i64 0] 60)) OQ1.out (by decide) hgrow);have d2:w7.cell? ⟨w.heap.size,2,none⟩=some (.slice a1 n1 c1):=(za X7.out 2).trans rfl;have d3:=zb X7.out 2;clear hown hgrow hblk;refine hK.out _ _ ?_ (fun hHeld=>?_)
     ·trivial
     clear hK K
     (try simp only[Act.put,qa,qb,qc,qf,qe,qd])
     refine tK 5 ?_ rfl (by kernel_rfl) (fun _ _ _ h=>h) (by rfl) ?_ (by assumption) ?_;rotate_left
     ·intro w hSw;(try dsimp only at hSw);go_simp;(try with_reducible rfl)
     rotate_left;simp only[Act.put,qa,qb,qc,qf,qe,qd];refine wpAnyH_ready (rs:=[6]) (by kernel_rfl) (by simp) ?_;refine AllReadyH.cons rfl (fun K hK=>?_) ?_
     ·go_simp
      refine hK.out _ _ ?_ (fun hHeld=>?_)
      ·trivial
      clear hK K
      (try simp only[Act.put,qa,qb,qc,qf,qe,qd])
      refine wpAnyH_done (by kernel_rfl) ?_ _;obtain⟨Z1,hZ1⟩:∃Z,Z=w7.setCell ⟨w.heap.size,2,none⟩ (.slice an nn cn):=⟨_,rfl⟩;have X3:Hid (Z1.heap[w.heap.size]? =some (.cells #[.int .i64 R,.int .i64 S,.slice an nn cn,.slice a2 n2 c2,.slice a3 n3 c3] 25)):=by unfold Hid;rw[hZ1];have:=zk X7.out 2 (.slice an nn cn);simpa using this
      have Y3:Hid (Z1.heap[w.heap.size+1]? =some (.cells #[.int .i64 0,.int .i64 0,.slice none 0 0,.slice none 0 0,.slice none 0 0] 25)):=by rw[hZ1];exact zd Y7.out (show w.heap.size+1≠w.heap.size by omega) _
      have Q3:Hid (Z1.heap[x0]? =some (.cells cs0 25)):=by rw[hZ1];exact zd Q7.out (show x0≠w.heap.size by omega) _
      have C3:Hid (Cu B g w0 Z1 bs D s'):=by rw[hZ1];exact Cu.set C7.out (by omega)
      have OA:Hid (OI w0.heap.size Z1 (.slice an nn cn) (L1++[⟨18,4,7,0⟩])):=by rw[hZ1];exact zo ON.out X7.out (by decide)
      have OB:Hid (OI w0.heap.size Z1 (.slice a2 n2 c2) L2):=by rw[hZ1];exact zo O27.out X7.out (by decide)
      have O3:Hid (OI w0.heap.size Z1 (.slice a3 n3 c3) L3):=by rw[hZ1];exact zo O37.out X7.out (by decide)
      rw[←hZ1];clear hZ1 d2 d3 q2;have e0:=za X3.out 0;have e1:=za X3.out 1;have e2:=za X3.out 2;have e3:=za X3.out 3;have e4:=za X3.out 4;have g0:=za Y3.out 0;have g1:=za Y3.out 1;have g2:=za Y3.out 2;have g3:=za Y3.out 3;have g4:=za Y3.out 4;have f0:=zb Y3.out 0;have f1:=zb Y3.out 1;have f2:=zb Y3.out 2;have f3:=zb Y3.out 3;have f4:=zb Y3.out 4;simp only[qk,ql,qm]at e0 e1 e2 e3 e4 g0 g1 g2 g3 g4;go_wp2;obtain⟨Z,hZ,RZ,CZ,OZ⟩:=zN Y3.out (.int .i64 (R)) (.int .i64 (S)) (.slice an nn cn) (.slice a2 n2 c2) (.slice a3 n3 c3) C3.out (by omega);rw[hZ];have z0:=za RZ 0;have z1:=za RZ 1;have z2:=za RZ 2;have z3:=za RZ 3
      have z4:=za RZ 4;simp only[qk,ql,qm]at z0 z1 z2 z3 z4;refine bodyPost_ret (v:=.agg #[.int .i64 (R),.int .i64 (S),.slice an nn cn,.slice a2 n2 c2,.slice a3 n3 c3]) (by simp[results,Tryd.results29,go_sem,z0,z1,z2,z3,z4];try rfl) rfl ?_;rw[HFIN.out];exact .mk _ _ _ rfl (OZ _ _ _ OA.out) (OZ _ _ _ OB.out) (OZ _ _ _ O3.out) CZ (by rw[←hZ];exact zd (zd (zd (zd (zd Q3.out (show x0≠w.heap.size+1 by omega) _) (show x0≠w.heap.size+1 by omega) _) (show x0≠w.heap.size+1 by omega) _) (show x0≠w.heap.size+1 by omega) _) (show x0≠w.heap.size+1 by omega) _)
     exact AllReadyH.nil
    exact AllReadyH.nil
   exact AllReadyH.nil
  refine AllReadyH.cons rfl (fun K hK=>?_) ?_
  ·go_simp
   have q2:=zr q2 (.cells #[.int .i64 18,.int .i64 4,.int .i64 7,.int .i64 0] 60);have RW:Hid ((w'.alloc (.cells #[.int .i64 18,.int .i64 4,.int .i64 7,.int .i64 0] 60)).ownsRow w0.heap.size 60 4 (.slice a1 n1 c1) n1 (isC L1)):=by have:=O1.out.kept (zf (Below.refl _ _) (.cells #[.int .i64 18,.int .i64 4,.int .i64 7,.int .i64 0] 60));unfold OI at this;rw[←HN.out.1]at this;exact this
   refine hK.out _ _ ?_ (fun hHeld=>?_)
   ·trivial
   clear hK K
   (try simp only[Act.put,qa,qb,qc,qf,qe,qd])
   refine wpAnyH_ready (rs:=[1]) (by kernel_rfl) (by simp) ?_;refine AllReadyH.cons rfl (fun K hK=>?_) ?_
   ·go_simp
    refine hK.out _ _ ?_ (fun hHeld=>?_)
    ·trivial
    clear hK K
    (try simp only[Act.put,qa,qb,qc,qf,qe,qd])
    refine wpAnyH_ready (rs:=[4]) (by kernel_rfl) (by simp) ?_;refine AllReadyH.cons rfl (fun K hK=>?_) ?_
    ·refine zm rfl (.tmp 39) (.tmp 41) 23 rfl w0.heap.size 60 i0 (.agg #[.int .i64 0,.int .i64 0,.int .i64 0,.int .i64 0]) 4 32 Tryd.underlying23 hi0 hz0 hz1 hz2 rfl (by decide) (.slice a1 n1 c1) n1 (isC L1) (by simp[Act.eval,Act.put]) RW.out ⟨w'.heap.size,0,none⟩ 1 1 (isC [⟨18,4,7,0⟩]) (by simp[Act.eval,Act.put]) rfl (xk w' ⟨18,4,7,0⟩ 60) (ym _) (by unfold maxLen;omega) (by omega) (qo hws (qo hsw (by simp))) ?_
     intro vn w7 hown hgrow hblk;have ON:=Hm (OI.snocs (M:=[⟨18,4,7,0⟩]) HN.out.1 rfl hown);obtain⟨an,cn,hvn⟩:=ON.out.shape;obtain⟨nn,hnn⟩:∃n,n=(L1++[(⟨18,4,7,0⟩:Is)]).length:=⟨_,rfl⟩;rw[←hnn]at hvn;clear hnn;subst hvn;have OQ1:=Hm (O1.out.kept (zf (Below.refl _ _) (.cells #[.int .i64 18,.int .i64 4,.int .i64 7,.int .i64 0] 60)));have X7:=Hm (zl hgrow OQ1.out (zh X2.out (.cells #[.int .i64 18,.int .i64 4,.int .i64 7,.int .i64 0] 60)) (by decide));have Y7:=Hm (zl hgrow OQ1.out (zh Y2.out (.cells #[.int .i64 18,.int .i64 4,.int .i64 7,.int .i64 0] 60)) (by decide));have Q7:=Hm (zl hgrow OQ1.out (zh Q2.out (.cells #[.int .i64 18,.int .i64 4,.int .i64 7,.int .i64 0] 60)) (by decide))
     have O27:=Hm ((O2.out.kept (zf (Below.refl _ _) (.cells #[.int .i64 18,.int .i64 4,.int .i64 7,.int .i64 0] 60))).keepA OQ1.out HA.out.1.symm hgrow);have O37:=Hm ((O3.out.kept (zf (Below.refl _ _) (.cells #[.int .i64 18,.int .i64 4,.int .i64 7,.int .i64 0] 60))).keepA OQ1.out HA.out.2.symm hgrow);have C7:=Hm (Cu.app (C2.out.al (.cells #[.int .i64 18,.int .i64 4,.int .i64 7,.int .i64 0] 60)) OQ1.out (by decide) hgrow);have d2:w7.cell? ⟨w.heap.size,2,none⟩=some (.slice a1 n1 c1):=(za X7.out 2).trans rfl;have d3:=zb X7.out 2;clear hown hgrow hblk;refine hK.out _ _ ?_ (fun hHeld=>?_)
     ·trivial
     clear hK K
     (try simp only[Act.put,qa,qb,qc,qf,qe,qd])
     refine tK 5 ?_ rfl (by kernel_rfl) (fun _ _ _ h=>h) (by rfl) ?_ (by assumption) ?_;rotate_left
     ·intro w hSw;(try dsimp only at hSw);go_simp;(try with_reducible rfl)
     rotate_left;simp only[Act.put,qa,qb,qc,qf,qe,qd];refine wpAnyH_ready (rs:=[6]) (by kernel_rfl) (by simp) ?_;refine AllReadyH.cons rfl (fun K hK=>?_) ?_
     ·go_simp
      refine hK.out _ _ ?_ (fun hHeld=>?_)
      ·trivial
      clear hK K
      (try simp only[Act.put,qa,qb,qc,qf,qe,qd])
      refine wpAnyH_done (by kernel_rfl) ?_ _;obtain⟨Z1,hZ1⟩:∃Z,Z=w7.setCell ⟨w.heap.size,2,none⟩ (.slice an nn cn):=⟨_,rfl⟩;have X3:Hid (Z1.heap[w.heap.size]? =some (.cells #[.int .i64 R,.int .i64 S,.slice an nn cn,.slice a2 n2 c2,.slice a3 n3 c3] 25)):=by unfold Hid;rw[hZ1];have:=zk X7.out 2 (.slice an nn cn);simpa using this
      have Y3:Hid (Z1.heap[w.heap.size+1]? =some (.cells #[.int .i64 0,.int .i64 0,.slice none 0 0,.slice none 0 0,.slice none 0 0] 25)):=by rw[hZ1];exact zd Y7.out (show w.heap.size+1≠w.heap.size by omega) _
      have Q3:Hid (Z1.heap[x0]? =some (.cells cs0 25)):=by rw[hZ1];exact zd Q7.out (show x0≠w.heap.size by omega) _
      have C3:Hid (Cu B g w0 Z1 bs D s'):=by rw[hZ1];exact Cu.set C7.out (by omega)
      have OA:Hid (OI w0.heap.size Z1 (.slice an nn cn) (L1++[⟨18,4,7,0⟩])):=by rw[hZ1];exact zo ON.out X7.out (by decide)
      have OB:Hid (OI w0.heap.size Z1 (.slice a2 n2 c2) L2):=by rw[hZ1];exact zo O27.out X7.out (by decide)
      have O3:Hid (OI w0.heap.size Z1 (.slice a3 n3 c3) L3):=by rw[hZ1];exact zo O37.out X7.out (by decide)
      rw[←hZ1];clear hZ1 d2 d3 q2;have e0:=za X3.out 0;have e1:=za X3.out 1;have e2:=za X3.out 2;have e3:=za X3.out 3;have e4:=za X3.out 4;have g0:=za Y3.out 0;have g1:=za Y3.out 1;have g2:=za Y3.out 2;have g3:=za Y3.out 3;have g4:=za Y3.out 4;have f0:=zb Y3.out 0;have f1:=zb Y3.out 1;have f2:=zb Y3.out 2;have f3:=zb Y3.out 3;have f4:=zb Y3.out 4;simp only[qk,ql,qm]at e0 e1 e2 e3 e4 g0 g1 g2 g3 g4;go_wp2;obtain⟨Z,hZ,RZ,CZ,OZ⟩:=zN Y3.out (.int .i64 (R)) (.int .i64 (S)) (.slice an nn cn) (.slice a2 n2 c2) (.slice a3 n3 c3) C3.out (by omega);rw[hZ];have z0:=za RZ 0;have z1:=za RZ 1;have z2:=za RZ 2;have z3:=za RZ 3
      have z4:=za RZ 4;simp only[qk,ql,qm]at z0 z1 z2 z3 z4;refine bodyPost_ret (v:=.agg #[.int .i64 (R),.int .i64 (S),.slice an nn cn,.slice a2 n2 c2,.slice a3 n3 c3]) (by simp[results,Tryd.results29,go_sem,z0,z1,z2,z3,z4];try rfl) rfl ?_;rw[HFIN.out];exact .mk _ _ _ rfl (OZ _ _ _ OA.out) (OZ _ _ _ OB.out) (OZ _ _ _ O3.out) CZ (by rw[←hZ];exact zd (zd (zd (zd (zd Q3.out (show x0≠w.heap.size+1 by omega) _) (show x0≠w.heap.size+1 by omega) _) (show x0≠w.heap.size+1 by omega) _) (show x0≠w.heap.size+1 by omega) _) (show x0≠w.heap.size+1 by omega) _)
     exact AllReadyH.nil
    exact AllReadyH.nil
   exact AllReadyH.nil
  exact AllReadyH.nil
 exact AllReadyH.nil
end Go.Proofs.YtbdldkpifanaiaaDoor.Cd
