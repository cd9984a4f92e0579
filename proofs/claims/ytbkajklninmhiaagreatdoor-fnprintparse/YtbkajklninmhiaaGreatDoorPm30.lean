import Derived.Test.YtbkajklninmhiaaGreatDoorPm29
set_option maxHeartbeats 6400000
set_option maxRecDepth 1000000
set_option linter.unusedVariables false
set_option linter.unusedSimpArgs false
open List renaming setIfInBounds_toArray → qa, set_cons_zero → qb, set_cons_succ → qc, getElem_cons_succ → qd, getElem_cons_zero → qe, getElem_toArray → qf
namespace Go.Proofs.YtbkajklninmhiaaGreatDoor.Dq
open Go Go.RowKit Mem Syn Parse Par Draw
attribute [local go_sem ↓] Go.wp_at_zero Go.wp_at_succ
variable {B g:Nat} {w0 w w':World} {bs:List UInt8} {D:Sr} {s s':DS}
variable {iv:Value} {X:List Xi}
theorem unK2y {W:World} {gi j n cI bI nE qE nF qF:Nat} {aE aF:Option Addr} {im:Im} {A:Code} {Q:Exit→Act→World→Prop} {v1 v2 v8 v9 v10 v11 v12:Value} {r:List Value} (hr:r.length=188) (Z:Hid (Sz B g w0 w W bs D s (.slice (some ⟨bI,0,none⟩) n cI) X gi ⟨im,.slice aE nE qE,.slice aF nF qF⟩)) (hmem:Hid (X[j]? =some ⟨im,.slice aE nE qE,.slice aF nF qF⟩)) (hn:n=X.length) (hn1:n≤190) (hj:j+1<n) (HP:Hid (∀(c:List PanicEntry) (a a':Act) (w:World),a.defers=a'.defers→Q (.panic c) a w→Q (.panic c) a' w))
  (hA:Hid (∀v8 v9 v10 v11 v12 r' wx s' iv' X',r'.length=188→Ue B g w0 w wx bs D s' iv' X'→ya D (X.map Xi.im) j 2 s=(X'.map Xi.im,s')→Code.wp Tryz.prog A Q (Fu g w gi (j:Int) 2 v1 v2 v8 v9 v10 v11 v12 r') wx)):Code.wp Tryz.prog (.seq (sL u5) (.seq (sL (sR u5)) (.seq (sL (sR (sR u5))) (.seq (sL (sR (sR (sR u5)))) (.seq (sL (sR (sR (sR (sR u5))))) (A)))))) Q (Fu g w gi (j:Int) 2 v1 v2 v8 v9 v10 v11 v12 r) W:=by
 have HN9:=Hm (And.intro hn hn1);have hgD:(X.map Xi.im).getD j imZ=im:=by rw[List.getD_eq_getElem?_getD,List.getElem?_map,hmem.out];rfl
 have HGD:=Hm hgD;clear hgD;have e1:IntKind.i64.wrap ((j:Int)+1)=((j+1:Nat):Int):=by rw[IntKind.wrap_i64];omega
 have k0:((j+1:Nat):Int)<(n:Int):=by omega
 have b0:=(zb Z.out.box 0).trans (show _=some ((.slice (some ⟨bI,0,none⟩) n cI))from rfl);obtain⟨x1,hx1⟩:∃x1,X[j+1]? =some x1:=⟨X[j+1]'(by omega),List.getElem?_eq_getElem _⟩;have hm1:x1∈X:=List.mem_of_getElem? hx1;obtain⟨bE,mE,rE,heE⟩:∃a n c,x1.e=.slice a n c:=by obtain⟨a,c,e,-⟩:=zh (Z.out.p.e x1 hm1);exact⟨_,_,_,e⟩
 obtain⟨bF,mF,rF,heF⟩:∃a n c,x1.f=.slice a n c:=by obtain⟨a,c,e,-⟩:=zh (Z.out.p.f x1 hm1);exact⟨_,_,_,e⟩
 have hcs:x1.cs=[.int .i64 x1.im.k,.string ⟨x1.im.n.toArray⟩,.slice bE mE rE,.slice bF mF rF,.int .i64 x1.im.K,.int .i64 x1.im.lo,.int .i64 x1.im.hi]:=by unfold Xi.cs itC;rw[heE,heF]
 have hrow:W.ownsRow w0.heap.size 38 7 (.slice (some ⟨bI,0,none⟩) n cI) n (X.flatMap Xi.cs):=by
  have:=Z.out.p.row;rw[←hn]at this;exact this
 obtain⟨p0,g0⟩:=zk (i:=(j+1)*7) hrow ((zm Xi.len (j+1) X x1 0 hx1 (by omega)).trans (show _=some (.int .i64 x1.im.k) by rw[hcs];rfl));obtain⟨p1,g1⟩:=zk (i:=(j+1)*7+1) hrow ((zm Xi.len (j+1) X x1 1 hx1 (by omega)).trans (show _=some (.string ⟨x1.im.n.toArray⟩) by rw[hcs];rfl));obtain⟨p2,g2⟩:=zk (i:=(j+1)*7+2) hrow ((zm Xi.len (j+1) X x1 2 hx1 (by omega)).trans (show _=some (.slice bE mE rE) by rw[hcs];rfl));obtain⟨p3,g3⟩:=zk (i:=(j+1)*7+3) hrow ((zm Xi.len (j+1) X x1 3 hx1 (by omega)).trans (show _=some (.slice bF mF rF) by rw[hcs];rfl));obtain⟨p4,g4⟩:=zk (i:=(j+1)*7+4) hrow ((zm Xi.len (j+1) X x1 4 hx1 (by omega)).trans (show _=some (.int .i64 x1.im.K) by rw[hcs];rfl))
 obtain⟨p5,g5⟩:=zk (i:=(j+1)*7+5) hrow ((zm Xi.len (j+1) X x1 5 hx1 (by omega)).trans (show _=some (.int .i64 x1.im.lo) by rw[hcs];rfl));obtain⟨p6,g6⟩:=zk (i:=(j+1)*7+6) hrow ((zm Xi.len (j+1) X x1 6 hx1 (by omega)).trans (show _=some (.int .i64 x1.im.hi) by rw[hcs];rfl));obtain⟨WD,hWD⟩:∃V,V=W.drew:=⟨_,rfl⟩;have hb0:Below W.heap.size W WD:=by rw[hWD];exact(Below.refl _ _).drew
 have hrowD:=z7 hrow hb0;obtain⟨d0,f0⟩:=zk (i:=j*7) hrowD ((zm Xi.len j X ⟨im,.slice aE nE qE,.slice aF nF qF⟩ 0 hmem.out (by omega)).trans (show _=some (.int .i64 im.k)from rfl));obtain⟨d1,f1⟩:=zk (i:=j*7+1) hrowD ((zm Xi.len j X ⟨im,.slice aE nE qE,.slice aF nF qF⟩ 1 hmem.out (by omega)).trans (show _=some (.string ⟨im.n.toArray⟩)from rfl));obtain⟨d2,f2⟩:=zk (i:=j*7+2) hrowD ((zm Xi.len j X ⟨im,.slice aE nE qE,.slice aF nF qF⟩ 2 hmem.out (by omega)).trans (show _=some (.slice aE nE qE)from rfl));obtain⟨d3,f3⟩:=zk (i:=j*7+3) hrowD ((zm Xi.len j X ⟨im,.slice aE nE qE,.slice aF nF qF⟩ 3 hmem.out (by omega)).trans (show _=some (.slice aF nF qF)from rfl))
 obtain⟨d4,f4⟩:=zk (i:=j*7+4) hrowD ((zm Xi.len j X ⟨im,.slice aE nE qE,.slice aF nF qF⟩ 4 hmem.out (by omega)).trans (show _=some (.int .i64 im.K)from rfl));obtain⟨d5,f5⟩:=zk (i:=j*7+5) hrowD ((zm Xi.len j X ⟨im,.slice aE nE qE,.slice aF nF qF⟩ 5 hmem.out (by omega)).trans (show _=some (.int .i64 im.lo)from rfl));obtain⟨d6,f6⟩:=zk (i:=j*7+6) hrowD ((zm Xi.len j X ⟨im,.slice aE nE qE,.slice aF nF qF⟩ 6 hmem.out (by omega)).trans (show _=some (.int .i64 im.hi)from rfl));have j0:(0:Int)≤(j:Int):=by omega
 have jl:(j:Int)<(n:Int):=by omega
 have j1:(0:Int)≤((j+1:Nat):Int):=by omega
 have j2:(0:Int)≤(j:Int)+1:=by omega
 have j3:(j:Int)+1<(n:Int):=by omega
 have ZD:=Hm (Z.out.below hb0);have HRD:=Hm hrowD;have HN:=Hm hn;have HX1:=Hm hx1;have HEE:=Hm (And.intro heE heF);obtain⟨Y,hY⟩:∃Y,Y=(((((((WD.setCell ⟨bI,j*7,none⟩ (.int .i64 x1.im.k)).setCell ⟨bI,j*7+1,none⟩ (.string ⟨x1.im.n.toArray⟩)).setCell ⟨bI,j*7+2,none⟩ (.slice bE mE rE)).setCell ⟨bI,j*7+3,none⟩ (.slice bF mF rF)).setCell ⟨bI,j*7+4,none⟩ (.int .i64 x1.im.K)).setCell ⟨bI,j*7+5,none⟩ (.int .i64 x1.im.lo)).setCell ⟨bI,j*7+6,none⟩ (.int .i64 x1.im.hi)):=⟨_,rfl⟩;have hbI:w0.heap.size≤bI:=(World.ownsRow.lt hrow bI rfl).1
 have RY:Hid (Y.ownsRow w0.heap.size 38 7 (.slice (some ⟨bI,0,none⟩) n cI) n ((X.set j x1).flatMap Xi.cs)):=by
  rw[hY,←heE,←heF];exact ZL HRD.out hn hmem.out
 have hB:Blk WD bI 38:=by
  obtain⟨c,fz,hc⟩:=yC hrowD bI rfl;exact⟨c,fz,hc⟩
 have KY:Hid (Cu B g w0 Y bs D s∧(∀x∈X,OwnO w0.heap.size Y x.e x.im.E∧OwnO w0.heap.size Y x.f x.im.F)∧Y.heap[gi]? =some (.cells (itA im (.slice aE nE qE) (.slice aF nF qF)) 38)∧Y.heap[w.heap.size]? =some (.cells #[(.slice (some ⟨bI,0,none⟩) n cI)] 25)∧Y.heap[w.heap.size+1]? =some (.cells #[.slice none 0 0] 25)∧Old w Y):=by
  rw[hY];refine XM (p:=fun Y=>Cu B g w0 Y bs D s∧(∀x∈X,OwnO w0.heap.size Y x.e x.im.E∧OwnO w0.heap.size Y x.f x.im.F)∧Y.heap[gi]? =some (.cells (itA im (.slice aE nE qE) (.slice aF nF qF)) 38)∧Y.heap[w.heap.size]? =some (.cells #[(.slice (some ⟨bI,0,none⟩) n cI)] 25)∧Y.heap[w.heap.size+1]? =some (.cells #[.slice none 0 0] 25)∧Old w Y) (fun U i v hU hp=>?_) hB ⟨ZD.out.c,fun x hx=>⟨ZD.out.p.e x hx,ZD.out.p.f x hx⟩,ZD.out.it,ZD.out.box,ZD.out.res,ZD.out.od⟩ _ _ _ _ _ _ _ _ _ _ _ _ _ _;obtain⟨Cc,fr,hc⟩:=hU;obtain⟨h1,h2,h4,h5,h6,h7⟩:=hp
  exact⟨Cu.set h1 hbI,fun x hx=>⟨(h2 x hx).1.far hc (by decide),(h2 x hx).2.far hc (by decide)⟩,zt h4 (fun e=>Z.out.ni (by rw[e];rfl)) v,zt h5 (xI h5 hc (by decide)) v,zt h6 (xI h6 hc (by decide)) v,h7.oth ⟨_,_,hc⟩ (by decide)⟩
 have hjne:(X.set j x1)[j+1]? =some x1:=by rw[List.getElem?_set_ne (by omega)];exact hx1
 have HJN:=Hm hjne;obtain⟨s0,t0⟩:=zk (i:=(j+1)*7) RY.out ((zm Xi.len (j+1) (X.set j x1) x1 0 hjne (by omega)).trans (show _=some (.int .i64 x1.im.k) by rw[hcs];rfl));obtain⟨s1,t1⟩:=zk (i:=(j+1)*7+1) RY.out ((zm Xi.len (j+1) (X.set j x1) x1 1 hjne (by omega)).trans (show _=some (.string ⟨x1.im.n.toArray⟩) by rw[hcs];rfl));obtain⟨s2,t2⟩:=zk (i:=(j+1)*7+2) RY.out ((zm Xi.len (j+1) (X.set j x1) x1 2 hjne (by omega)).trans (show _=some (.slice bE mE rE) by rw[hcs];rfl));obtain⟨s3,t3⟩:=zk (i:=(j+1)*7+3) RY.out ((zm Xi.len (j+1) (X.set j x1) x1 3 hjne (by omega)).trans (show _=some (.slice bF mF rF) by rw[hcs];rfl))
 obtain⟨s4,t4⟩:=zk (i:=(j+1)*7+4) RY.out ((zm Xi.len (j+1) (X.set j x1) x1 4 hjne (by omega)).trans (show _=some (.int .i64 x1.im.K) by rw[hcs];rfl));obtain⟨s5,t5⟩:=zk (i:=(j+1)*7+5) RY.out ((zm Xi.len (j+1) (X.set j x1) x1 5 hjne (by omega)).trans (show _=some (.int .i64 x1.im.lo) by rw[hcs];rfl));obtain⟨s6,t6⟩:=zk (i:=(j+1)*7+6) RY.out ((zm Xi.len (j+1) (X.set j x1) x1 6 hjne (by omega)).trans (show _=some (.int .i64 x1.im.hi) by rw[hcs];rfl));have i0:=(zb KY.out.2.2.1 0).trans (show _=some (.int .i64 im.k)from rfl);have i1:=(zb KY.out.2.2.1 1).trans (show _=some (.string ⟨im.n.toArray⟩)from rfl);have i2:=(zb KY.out.2.2.1 2).trans (show _=some (.slice aE nE qE)from rfl)
 have i3:=(zb KY.out.2.2.1 3).trans (show _=some (.slice aF nF qF)from rfl);have i4:=(zb KY.out.2.2.1 4).trans (show _=some (.int .i64 im.K)from rfl);have i5:=(zb KY.out.2.2.1 5).trans (show _=some (.int .i64 im.lo)from rfl);have i6:=(zb KY.out.2.2.1 6).trans (show _=some (.int .i64 im.hi)from rfl);obtain⟨V,hV⟩:∃V,V=(((((((Y.setCell ⟨bI,(j+1)*7,none⟩ (.int .i64 im.k)).setCell ⟨bI,(j+1)*7+1,none⟩ (.string ⟨im.n.toArray⟩)).setCell ⟨bI,(j+1)*7+2,none⟩ (.slice aE nE qE)).setCell ⟨bI,(j+1)*7+3,none⟩ (.slice aF nF qF)).setCell ⟨bI,(j+1)*7+4,none⟩ (.int .i64 im.K)).setCell ⟨bI,(j+1)*7+5,none⟩ (.int .i64 im.lo)).setCell ⟨bI,(j+1)*7+6,none⟩ (.int .i64 im.hi)):=⟨_,rfl⟩
 have RV:Hid (V.ownsRow w0.heap.size 38 7 (.slice (some ⟨bI,0,none⟩) n cI) n (((X.set j x1).set (j+1) ⟨im,.slice aE nE qE,.slice aF nF qF⟩).flatMap Xi.cs)):=by
  rw[hV];exact ZL (x':=⟨im,.slice aE nE qE,.slice aF nF qF⟩) RY.out (by rw[List.length_set];exact hn) hjne
 have hBY:Blk Y bI 38:=by
  obtain⟨c,fz,hc⟩:=yC RY.out bI rfl;exact⟨c,fz,hc⟩
 have KV:Hid (Cu B g w0 V bs D s∧(∀x∈X,OwnO w0.heap.size V x.e x.im.E∧OwnO w0.heap.size V x.f x.im.F)∧V.heap[w.heap.size]? =some (.cells #[(.slice (some ⟨bI,0,none⟩) n cI)] 25)∧V.heap[w.heap.size+1]? =some (.cells #[.slice none 0 0] 25)∧Old w V):=by
  rw[hV];refine XM (p:=fun Y=>Cu B g w0 Y bs D s∧(∀x∈X,OwnO w0.heap.size Y x.e x.im.E∧OwnO w0.heap.size Y x.f x.im.F)∧Y.heap[w.heap.size]? =some (.cells #[(.slice (some ⟨bI,0,none⟩) n cI)] 25)∧Y.heap[w.heap.size+1]? =some (.cells #[.slice none 0 0] 25)∧Old w Y) (fun U i v hU hp=>?_) hBY ⟨KY.out.1,KY.out.2.1,KY.out.2.2.2.1,KY.out.2.2.2.2.1,KY.out.2.2.2.2.2⟩ _ _ _ _ _ _ _ _ _ _ _ _ _ _;obtain⟨Cc,fr,hc⟩:=hU;obtain⟨h1,h2,h5,h6,h7⟩:=hp;exact⟨Cu.set h1 hbI,fun x hx=>⟨(h2 x hx).1.far hc (by decide),(h2 x hx).2.far hc (by decide)⟩,zt h5 (xI h5 hc (by decide)) v,zt h6 (xI h6 hc (by decide)) v,h7.oth ⟨_,_,hc⟩ (by decide)⟩
 have hmm:∀z∈(X.set j x1).set (j+1) ⟨im,.slice aE nE qE,.slice aF nF qF⟩,z∈X:=fun z hz=>by
  rcases List.mem_or_eq_of_mem_set hz with hz|rfl
  ·rcases List.mem_or_eq_of_mem_set hz with hz|rfl
   ·exact hz
   ·exact hm1
  ·exact List.mem_of_getElem? hmem.out
 have E2:Hid (Ue B g w0 w V bs D s (.slice (some ⟨bI,0,none⟩) n cI) ((X.set j x1).set (j+1) ⟨im,.slice aE nE qE,.slice aF nF qF⟩)):=by
  refine⟨KV.out.1,⟨?_,fun z hz=>(KV.out.2.1 z (hmm z hz)).1,fun z hz=>(KV.out.2.1 z (hmm z hz)).2,fun y hy z hz=>Z.out.p.ee y (hmm y hy) z (hmm z hz),fun y hy z hz=>Z.out.p.ef y (hmm y hy) z (hmm z hz),fun y hy z hz=>Z.out.p.ff y (hmm y hy) z (hmm z hz),fun z hz=>Z.out.p.le z (hmm z hz)⟩,Z.out.l0,KV.out.2.2.1,KV.out.2.2.2.1,KV.out.2.2.2.2,by rw[List.length_set,List.length_set,←hn];omega⟩;rw[List.length_set,List.length_set,←hn];exact RV.out
 clear RV KV hmm hBY;have b1:=(zb KY.out.2.2.2.1 0).trans (show _=some ((.slice (some ⟨bI,0,none⟩) n cI))from rfl);have HCS:=Hm hcs;have HM1:=Hm hm1;clear hrow hrowD hn hx1 heE heF hcs hm1 hb0 hB hbI hjne;revert r;refine @zp 188 _ ?_
 iterate 188 (intro _)
 show Code.wp _ _ _ _ _
 conv=>arg 2;dsimp only[u5,u0,Tryz.f32,Option.getD,sR,sL,cT,cF,bk,lpo]
 conv=>arg 4;dsimp only[Fu]
 go_upto_region 21 with fail;refine wp_region_held_drew (S:=(fun w'=>w'.cell? ⟨w.heap.size,0,none⟩=some ((.slice (some ⟨bI,0,none⟩) n cI))∧w'.cell? ⟨bI,(j+1)*7,none⟩=some (.int .i64 x1.im.k)∧w'.cell? ⟨bI,(j+1)*7+1,none⟩=some (.string ⟨x1.im.n.toArray⟩)∧w'.cell? ⟨bI,(j+1)*7+2,none⟩=some (.slice bE mE rE)∧w'.cell? ⟨bI,(j+1)*7+3,none⟩=some (.slice bF mF rF)∧w'.cell? ⟨bI,(j+1)*7+4,none⟩=some (.int .i64 x1.im.K)∧w'.cell? ⟨bI,(j+1)*7+5,none⟩=some (.int .i64 x1.im.lo)∧w'.cell? ⟨bI,(j+1)*7+6,none⟩=some (.int .i64 x1.im.hi))) (by kernel_rfl) ?_ (fun hHeld=>?_)
 ·exact⟨b0,p0,p1,p2,p3,p4,p5,p6⟩
 rw[←hWD]at hHeld ⊢;clear hWD;refine tK 0 ?_ rfl (by kernel_rfl) (fun _ _ _ h=>HP.out _ _ _ _ (put_defers _ _ _) h) (by rfl) ?_ (by assumption) ?_;rotate_left
 ·intro w hSw;(try dsimp only at hSw);go_simp;(try with_reducible rfl)
 rotate_left;simp only[Act.put,qa,qb,qc,qf,qe,qd];refine tK 1 ?_ rfl (by kernel_rfl) (fun _ _ _ h=>HP.out _ _ _ _ (put_defers _ _ _) h) (by rfl) ?_ (by assumption) ?_;rotate_left
 ·intro w hSw;(try dsimp only at hSw);go_simp;(try with_reducible rfl)
 rotate_left;simp only[Act.put,qa,qb,qc,qf,qe,qd];refine tK 2 ?_ rfl (by kernel_rfl) (fun _ _ _ h=>HP.out _ _ _ _ (put_defers _ _ _) h) (by rfl) ?_ (by assumption) ?_;rotate_left
 ·intro w hSw;(try dsimp only at hSw);go_simp;(try with_reducible rfl)
 rotate_left;simp only[Act.put,qa,qb,qc,qf,qe,qd];refine tK 3 ?_ rfl (by kernel_rfl) (fun _ _ _ h=>HP.out _ _ _ _ (put_defers _ _ _) h) (by rfl) ?_ (by assumption) ?_;rotate_left
 ·intro w hSw;(try dsimp only at hSw);go_simp;(try with_reducible rfl)
 rotate_left;simp only[Act.put,qa,qb,qc,qf,qe,qd];refine tK 4 ?_ rfl (by kernel_rfl) (fun _ _ _ h=>HP.out _ _ _ _ (put_defers _ _ _) h) (by rfl) ?_ (by assumption) ?_;rotate_left
 ·intro w hSw;(try dsimp only at hSw);go_simp;(try with_reducible rfl)
 rotate_left;simp only[Act.put,qa,qb,qc,qf,qe,qd];refine tK 5 ?_ rfl (by kernel_rfl) (fun _ _ _ h=>HP.out _ _ _ _ (put_defers _ _ _) h) (by rfl) ?_ (by assumption) ?_;rotate_left
 ·intro w hSw;(try dsimp only at hSw);go_simp;(try with_reducible rfl)
 rotate_left;simp only[Act.put,qa,qb,qc,qf,qe,qd];refine tK 6 ?_ rfl (by kernel_rfl) (fun _ _ _ h=>HP.out _ _ _ _ (put_defers _ _ _) h) (by rfl) ?_ (by assumption) ?_;rotate_left
 ·intro w hSw;(try dsimp only at hSw);go_simp;(try with_reducible rfl)
 rotate_left;simp only[Act.put,qa,qb,qc,qf,qe,qd];refine tK 7 ?_ rfl (by kernel_rfl) (fun _ _ _ h=>HP.out _ _ _ _ (put_defers _ _ _) h) (by rfl) ?_ (by assumption) ?_;rotate_left
 ·intro w hSw;(try dsimp only at hSw);go_simp;(try with_reducible rfl)
 rotate_left;simp only[Act.put,qa,qb,qc,qf,qe,qd];refine tK 8 ?_ rfl (by kernel_rfl) (fun _ _ _ h=>HP.out _ _ _ _ (put_defers _ _ _) h) (by rfl) ?_ (by assumption) ?_;rotate_left
 ·intro w hSw;(try dsimp only at hSw);go_simp;(try with_reducible rfl)
 rotate_left;simp only[Act.put,qa,qb,qc,qf,qe,qd];refine tK 9 ?_ rfl (by kernel_rfl) (fun _ _ _ h=>HP.out _ _ _ _ (put_defers _ _ _) h) (by rfl) ?_ (by assumption) ?_;rotate_left
 ·intro w hSw;(try dsimp only at hSw);go_simp;(try with_reducible rfl)
 rotate_left;simp only[Act.put,qa,qb,qc,qf,qe,qd];refine wpAnyH_ready (rs:=[10]) (by kernel_rfl) (by simp) ?_;refine AllReadyH.cons rfl (fun K hK=>?_) ?_
 ·go_simp
  rw[←hY];refine hK.out _ _ ⟨b1,s0,s1,s2,s3,s4,s5,s6⟩ (fun hHeld=>?_);clear hK K hY p0 g0 d0 f0 p1 g1 d1 f1 p2 g2 d2 f2 p3 g3 d3 f3 p4 g4 d4 f4 p5 g5 d5 f5 p6 g6 d6 f6 b0
  (try simp only[Act.put,qa,qb,qc,qf,qe,qd])
  refine wpAnyH_done (by kernel_rfl) ?_ _;go_wp2_with fail;rw[←hV];refine hA.out _ _ _ _ _ _ _ s _ ((X.set j x1).set (j+1) ⟨im,.slice aE nE qE,.slice aF nF qF⟩) ?_ E2.out ?_
  ·rfl
  ·unfold ya
   have g1:(X.map Xi.im).getD (j+1) imZ=x1.im:=by rw[List.getD_eq_getElem?_getD,List.getElem?_map,HX1.out];rfl
   rw[HGD.out,g1];simp only[Nat.reduceEqDiff,if_false,Nat.reduceLT,false_and,if_true,List.length_map];rw[if_pos (by rw[←HN.out];exact hj),List.map_set,List.map_set]
 exact AllReadyH.nil
end Go.Proofs.YtbkajklninmhiaaGreatDoor.Dq
