import Derived.Test.YtbkajklninmhiaaGreatDoorPm28
set_option maxHeartbeats 6400000
set_option maxRecDepth 1000000
set_option linter.unusedVariables false
set_option linter.unusedSimpArgs false
open List renaming setIfInBounds_toArray → qa, set_cons_zero → qb, set_cons_succ → qc
open Nat renaming le_refl → qp
namespace Go.Proofs.YtbkajklninmhiaaGreatDoor.Dq
open Go Go.RowKit Mem Syn Parse Par Draw
attribute [local go_sem ↓] Go.wp_at_zero Go.wp_at_succ
variable {B g:Nat} {w0 w w':World} {bs:List UInt8} {D:Sr} {s s':DS}
variable {iv:Value} {X:List Xi}
structure Uz (B g:Nat) (w0 w W:World) (bs:List UInt8) (D:Sr) (s:DS) (iv:Value) (X:List Xi) (gi:Nat) (x:Xi):Prop extends Sz B g w0 w W bs D s iv X gi x where
 ap:∀z∈X,Ap z.e x.e∧Ap z.e x.f∧Ap z.f x.e∧Ap z.f x.f
 ax:Ap x.e x.f
 l3:x.im.E.length≤3000∧x.im.F.length≤3000
theorem Sz.uz {W:World} {gi j:Nat} {x:Xi} (h:Sz B g w0 w W bs D s iv X gi x) (hm:X[j]? =some x):Uz B g w0 w W bs D s iv X gi x:=by
 have hx:x∈X:=List.mem_of_getElem? hm;exact⟨h,fun z hz=>⟨h.p.ee z hz x hx,h.p.ef z hz x hx,(h.p.ef x hx z hz).symm,h.p.ff z hz x hx⟩,h.p.ef x hx x hx,h.p.le x hx⟩
theorem PgO.put {B' b c n j:Nat} {x y:Xi} {W Y:World} (hn:n=X.length) (hj:X[j]? =some x) (row:Y.ownsRow B' 38 7 (.slice (some ⟨b,0,none⟩) n c) n ((X.set j y).flatMap Xi.cs)) (h:PgO B' W iv X) (he:∀z∈X,OwnO B' Y z.e z.im.E∧OwnO B' Y z.f z.im.F) (hye:OwnO B' Y y.e y.im.E) (hyf:OwnO B' Y y.f y.im.F) (ap:∀z∈X,Ap z.e y.e∧Ap z.e y.f∧Ap z.f y.e∧Ap z.f y.f) (ax:Ap y.e y.f) (l3:y.im.E.length≤3000∧y.im.F.length≤3000):PgO B' Y (.slice (some ⟨b,0,none⟩) n c) (X.set j y):=by
 have sp:∀{p:Xi→Prop},(∀z∈X,p z)→p y→∀z∈X.set j y,p z:=fun {p} h1 h2 z hz=>by
  rcases List.mem_or_eq_of_mem_set hz with hz|rfl
  ·exact h1 z hz
  ·exact h2
 refine⟨?_,sp (fun z hz=>(he z hz).1) hye,sp (fun z hz=>(he z hz).2) hyf,?_,?_,?_,sp h.le l3⟩
 ·rw[List.length_set,←hn]
  exact row
 ·exact sp (fun z hz=>sp (h.ee z hz) (ap z hz).1) (sp (fun z hz=>(ap z hz).1.symm) (yH _))
 ·exact sp (fun z hz=>sp (h.ef z hz) (ap z hz).2.1) (sp (fun z hz=>(ap z hz).2.2.1.symm) ax)
 ·exact sp (fun z hz=>sp (h.ff z hz) (ap z hz).2.2.2) (sp (fun z hz=>(ap z hz).2.2.2.symm) (yH _))
noncomputable def uB:Code:=cT (sR (sL (sR u5)))
noncomputable def uG:Code:=cT (sR (sL (sR (sR (sR (sR u5))))))
theorem Rl {W:World} {gi j n cI bI:Nat} {k:Int} {y x0:Xi} {Q:Exit→Act→World→Prop} {v1 v2 v8 v9 v10 v11 v12:Value} {r:List Value} (hr:r.length=188) (Z:Hid (Uz B g w0 w W bs D s (.slice (some ⟨bI,0,none⟩) n cI) X gi y)) (hn:n=X.length) (hn1:n≤190) (hx0:X[j]? =some x0)
  (hA:Hid (∀r' wx,r'.length=188→Ue B g w0 w wx bs D s (.slice (some ⟨bI,0,none⟩) n cI) (X.set j y)→Q .normal (Fu g w gi (j:Int) k v1 v2 v8 v9 v10 v11 v12 r') wx)):
  Code.wp Tryz.prog (sL (sR (sR (sR (sR uB))))) Q (Fu g w gi (j:Int) k v1 v2 v8 v9 v10 v11 v12 r) W:=by
 have hj:j<n:=by rw[hn];exact(List.getElem?_eq_some_iff.1 hx0).1
 obtain⟨yi,ye,yf⟩:=y;obtain⟨aE,nE,qE,rfl⟩:∃a n c,ye=.slice a n c:=by obtain⟨a,c,e,-⟩:=zh Z.out.e;exact⟨_,_,_,e⟩
 obtain⟨aF,nF,qF,rfl⟩:∃a n c,yf=.slice a n c:=by obtain⟨a,c,e,-⟩:=zh Z.out.f;exact⟨_,_,_,e⟩
 obtain⟨y,hy⟩:∃y:Xi,y=⟨yi,.slice aE nE qE,.slice aF nF qF⟩:=⟨_,rfl⟩;have hye:y.e=.slice aE nE qE:=by rw[hy]
 have hyf:y.f=.slice aF nF qF:=by rw[hy]
 rw[←hy]at Z hA;have hx:=Z.out.it;unfold itA at hx;rw[hye,hyf]at hx;have HX0:=Hm hx0
 have hrow:W.ownsRow w0.heap.size 38 7 (.slice (some ⟨bI,0,none⟩) n cI) n (X.flatMap Xi.cs):=by
  have:=Z.out.p.row;rw[←hn]at this;exact this
 have x1:=cL0 hx;have x2:=cL1 hx;have x3:=cL2 hx;have x4:=cL3 hx;have x5:=cL4 hx;have x6:=cL5 hx;have x7:=cL6 hx;obtain⟨p0,f0⟩:=zk (i:=j*7) hrow ((zm Xi.len j X x0 0 hx0 (by omega)).trans (show _=some _ from rfl));obtain⟨p1,f1⟩:=zk (i:=j*7+1) hrow ((zm Xi.len j X x0 1 hx0 (by omega)).trans (show _=some _ from rfl));obtain⟨p2,f2⟩:=zk (i:=j*7+2) hrow ((zm Xi.len j X x0 2 hx0 (by omega)).trans (show _=some _ from rfl));obtain⟨p3,f3⟩:=zk (i:=j*7+3) hrow ((zm Xi.len j X x0 3 hx0 (by omega)).trans (show _=some _ from rfl));obtain⟨p4,f4⟩:=zk (i:=j*7+4) hrow ((zm Xi.len j X x0 4 hx0 (by omega)).trans (show _=some _ from rfl))
 obtain⟨p5,f5⟩:=zk (i:=j*7+5) hrow ((zm Xi.len j X x0 5 hx0 (by omega)).trans (show _=some _ from rfl));obtain⟨p6,f6⟩:=zk (i:=j*7+6) hrow ((zm Xi.len j X x0 6 hx0 (by omega)).trans (show _=some _ from rfl));have b0:=(zb Z.out.box 0).trans (show _=some (.slice (some ⟨bI,0,none⟩) n cI)from rfl);have j0:(0:Int)≤(j:Int):=by omega
 have jl:(j:Int)<(n:Int):=by omega
 have HR:=Hm hrow;have HN:=Hm hn;obtain⟨Y,hY⟩:∃Y,Y=(((((((W.setCell ⟨bI,j*7,none⟩ (.int .i64 y.im.k)).setCell ⟨bI,j*7+1,none⟩ (.string ⟨y.im.n.toArray⟩)).setCell ⟨bI,j*7+2,none⟩ (.slice aE nE qE)).setCell ⟨bI,j*7+3,none⟩ (.slice aF nF qF)).setCell ⟨bI,j*7+4,none⟩ (.int .i64 y.im.K)).setCell ⟨bI,j*7+5,none⟩ (.int .i64 y.im.lo)).setCell ⟨bI,j*7+6,none⟩ (.int .i64 y.im.hi)):=⟨_,rfl⟩
 have hB:Blk W bI 38:=by
  obtain⟨c,fz,hc⟩:=yC HR.out bI rfl;exact⟨c,fz,hc⟩
 have hbI:w0.heap.size≤bI:=(World.ownsRow.lt HR.out bI rfl).1
 have K:Hid (Cu B g w0 Y bs D s∧(∀x∈X,OwnO w0.heap.size Y x.e x.im.E∧OwnO w0.heap.size Y x.f x.im.F)∧OwnO w0.heap.size Y y.e y.im.E∧OwnO w0.heap.size Y y.f y.im.F∧Y.heap[w.heap.size]? =some (.cells #[(.slice (some ⟨bI,0,none⟩) n cI)] 25)∧Y.heap[w.heap.size+1]? =some (.cells #[.slice none 0 0] 25)∧Old w Y):=by
  rw[hY];refine XM (p:=fun Y=>Cu B g w0 Y bs D s∧(∀x∈X,OwnO w0.heap.size Y x.e x.im.E∧OwnO w0.heap.size Y x.f x.im.F)∧OwnO w0.heap.size Y y.e y.im.E∧OwnO w0.heap.size Y y.f y.im.F∧Y.heap[w.heap.size]? =some (.cells #[(.slice (some ⟨bI,0,none⟩) n cI)] 25)∧Y.heap[w.heap.size+1]? =some (.cells #[.slice none 0 0] 25)∧Old w Y) (fun U i v hU hp=>?_) hB ⟨Z.out.c,fun x hx=>⟨Z.out.p.e x hx,Z.out.p.f x hx⟩,Z.out.e,Z.out.f,Z.out.box,Z.out.res,Z.out.od⟩ _ _ _ _ _ _ _ _ _ _ _ _ _ _;obtain⟨Cc,fr,hc⟩:=hU;obtain⟨h1,h2,h3,h4,h5,h6,h7⟩:=hp
  exact⟨Cu.set h1 hbI,fun x hx=>⟨(h2 x hx).1.far hc (by decide),(h2 x hx).2.far hc (by decide)⟩,h3.far hc (by decide),h4.far hc (by decide),zt h5 (xI h5 hc (by decide)) v,zt h6 (xI h6 hc (by decide)) v,h7.oth ⟨_,_,hc⟩ (by decide)⟩
 have R:Hid (Y.ownsRow w0.heap.size 38 7 (.slice (some ⟨bI,0,none⟩) n cI) n ((X.set j y).flatMap Xi.cs)):=by
  rw[hY,←hye,←hyf];exact ZL HR.out HN.out HX0.out
 have E1:Hid (Ue B g w0 w Y bs D s (.slice (some ⟨bI,0,none⟩) n cI) (X.set j y)):=by
  obtain⟨h1,h2,h3,h4,h5,h6,h7⟩:=K.out;exact⟨h1,PgO.put HN.out HX0.out R.out Z.out.p h2 h3 h4 Z.out.ap Z.out.ax Z.out.l3,Z.out.l0,h5,h6,h7,by rw[List.length_set,←HN.out];omega⟩
 clear hrow hx hx0 hn hy HR R K hB hbI;revert r;refine @zp 188 _ ?_
 iterate 188 (intro _)
 show Code.wp _ _ _ _ _
 conv=>arg 2;dsimp only[uB,u5,u0,Tryz.f32,Option.getD,sR,sL,cT,cF,bk,lpo]
 conv=>arg 4;dsimp only[Fu]
 go_wp2_with fail;rw[←hY];refine hA.out _ _ ?_ E1.out;rfl
theorem Rk {W:World} {gi j n cI bI:Nat} {k:Int} {y x0:Xi} {Q:Exit→Act→World→Prop} {v1 v2 v8 v9 v10 v11 v12:Value} {r:List Value} (hr:r.length=188) (Z:Hid (Uz B g w0 w W bs D s (.slice (some ⟨bI,0,none⟩) n cI) X gi y)) (hn:n=X.length) (hn1:n≤190) (hx0:X[j]? =some x0)
  (hA:Hid (∀r' wx,r'.length=188→Ue B g w0 w wx bs D s (.slice (some ⟨bI,0,none⟩) n cI) (X.set j y)→Q .normal (Fu g w gi (j:Int) k v1 v2 v8 v9 v10 v11 v12 r') wx)):
  Code.wp Tryz.prog (sR (sR (sR (sR uG)))) Q (Fu g w gi (j:Int) k v1 v2 v8 v9 v10 v11 v12 r) W:=by
 have hj:j<n:=by rw[hn];exact(List.getElem?_eq_some_iff.1 hx0).1
 obtain⟨yi,ye,yf⟩:=y;obtain⟨aE,nE,qE,rfl⟩:∃a n c,ye=.slice a n c:=by obtain⟨a,c,e,-⟩:=zh Z.out.e;exact⟨_,_,_,e⟩
 obtain⟨aF,nF,qF,rfl⟩:∃a n c,yf=.slice a n c:=by obtain⟨a,c,e,-⟩:=zh Z.out.f;exact⟨_,_,_,e⟩
 obtain⟨y,hy⟩:∃y:Xi,y=⟨yi,.slice aE nE qE,.slice aF nF qF⟩:=⟨_,rfl⟩;have hye:y.e=.slice aE nE qE:=by rw[hy]
 have hyf:y.f=.slice aF nF qF:=by rw[hy]
 rw[←hy]at Z hA;have hx:=Z.out.it;unfold itA at hx;rw[hye,hyf]at hx;have HX0:=Hm hx0
 have hrow:W.ownsRow w0.heap.size 38 7 (.slice (some ⟨bI,0,none⟩) n cI) n (X.flatMap Xi.cs):=by
  have:=Z.out.p.row;rw[←hn]at this;exact this
 have x1:=cL0 hx;have x2:=cL1 hx;have x3:=cL2 hx;have x4:=cL3 hx;have x5:=cL4 hx;have x6:=cL5 hx;have x7:=cL6 hx;obtain⟨p0,f0⟩:=zk (i:=j*7) hrow ((zm Xi.len j X x0 0 hx0 (by omega)).trans (show _=some _ from rfl));obtain⟨p1,f1⟩:=zk (i:=j*7+1) hrow ((zm Xi.len j X x0 1 hx0 (by omega)).trans (show _=some _ from rfl));obtain⟨p2,f2⟩:=zk (i:=j*7+2) hrow ((zm Xi.len j X x0 2 hx0 (by omega)).trans (show _=some _ from rfl));obtain⟨p3,f3⟩:=zk (i:=j*7+3) hrow ((zm Xi.len j X x0 3 hx0 (by omega)).trans (show _=some _ from rfl));obtain⟨p4,f4⟩:=zk (i:=j*7+4) hrow ((zm Xi.len j X x0 4 hx0 (by omega)).trans (show _=some _ from rfl))
 obtain⟨p5,f5⟩:=zk (i:=j*7+5) hrow ((zm Xi.len j X x0 5 hx0 (by omega)).trans (show _=some _ from rfl));obtain⟨p6,f6⟩:=zk (i:=j*7+6) hrow ((zm Xi.len j X x0 6 hx0 (by omega)).trans (show _=some _ from rfl));have b0:=(zb Z.out.box 0).trans (show _=some (.slice (some ⟨bI,0,none⟩) n cI)from rfl);have j0:(0:Int)≤(j:Int):=by omega
 have jl:(j:Int)<(n:Int):=by omega
 have HR:=Hm hrow;have HN:=Hm hn;obtain⟨Y,hY⟩:∃Y,Y=(((((((W.setCell ⟨bI,j*7,none⟩ (.int .i64 y.im.k)).setCell ⟨bI,j*7+1,none⟩ (.string ⟨y.im.n.toArray⟩)).setCell ⟨bI,j*7+2,none⟩ (.slice aE nE qE)).setCell ⟨bI,j*7+3,none⟩ (.slice aF nF qF)).setCell ⟨bI,j*7+4,none⟩ (.int .i64 y.im.K)).setCell ⟨bI,j*7+5,none⟩ (.int .i64 y.im.lo)).setCell ⟨bI,j*7+6,none⟩ (.int .i64 y.im.hi)):=⟨_,rfl⟩
 have hB:Blk W bI 38:=by
  obtain⟨c,fz,hc⟩:=yC HR.out bI rfl;exact⟨c,fz,hc⟩
 have hbI:w0.heap.size≤bI:=(World.ownsRow.lt HR.out bI rfl).1
 have K:Hid (Cu B g w0 Y bs D s∧(∀x∈X,OwnO w0.heap.size Y x.e x.im.E∧OwnO w0.heap.size Y x.f x.im.F)∧OwnO w0.heap.size Y y.e y.im.E∧OwnO w0.heap.size Y y.f y.im.F∧Y.heap[w.heap.size]? =some (.cells #[(.slice (some ⟨bI,0,none⟩) n cI)] 25)∧Y.heap[w.heap.size+1]? =some (.cells #[.slice none 0 0] 25)∧Old w Y):=by
  rw[hY];refine XM (p:=fun Y=>Cu B g w0 Y bs D s∧(∀x∈X,OwnO w0.heap.size Y x.e x.im.E∧OwnO w0.heap.size Y x.f x.im.F)∧OwnO w0.heap.size Y y.e y.im.E∧OwnO w0.heap.size Y y.f y.im.F∧Y.heap[w.heap.size]? =some (.cells #[(.slice (some ⟨bI,0,none⟩) n cI)] 25)∧Y.heap[w.heap.size+1]? =some (.cells #[.slice none 0 0] 25)∧Old w Y) (fun U i v hU hp=>?_) hB ⟨Z.out.c,fun x hx=>⟨Z.out.p.e x hx,Z.out.p.f x hx⟩,Z.out.e,Z.out.f,Z.out.box,Z.out.res,Z.out.od⟩ _ _ _ _ _ _ _ _ _ _ _ _ _ _;obtain⟨Cc,fr,hc⟩:=hU;obtain⟨h1,h2,h3,h4,h5,h6,h7⟩:=hp
  exact⟨Cu.set h1 hbI,fun x hx=>⟨(h2 x hx).1.far hc (by decide),(h2 x hx).2.far hc (by decide)⟩,h3.far hc (by decide),h4.far hc (by decide),zt h5 (xI h5 hc (by decide)) v,zt h6 (xI h6 hc (by decide)) v,h7.oth ⟨_,_,hc⟩ (by decide)⟩
 have R:Hid (Y.ownsRow w0.heap.size 38 7 (.slice (some ⟨bI,0,none⟩) n cI) n ((X.set j y).flatMap Xi.cs)):=by
  rw[hY,←hye,←hyf];exact ZL HR.out HN.out HX0.out
 have E1:Hid (Ue B g w0 w Y bs D s (.slice (some ⟨bI,0,none⟩) n cI) (X.set j y)):=by
  obtain⟨h1,h2,h3,h4,h5,h6,h7⟩:=K.out;exact⟨h1,PgO.put HN.out HX0.out R.out Z.out.p h2 h3 h4 Z.out.ap Z.out.ax Z.out.l3,Z.out.l0,h5,h6,h7,by rw[List.length_set,←HN.out];omega⟩
 clear hrow hx hx0 hn hy HR R K hB hbI;revert r;refine @zp 188 _ ?_
 iterate 188 (intro _)
 show Code.wp _ _ _ _ _
 conv=>arg 2;dsimp only[uG,u5,u0,Tryz.f32,Option.getD,sR,sL,cT,cF,bk,lpo]
 conv=>arg 4;dsimp only[Fu]
 go_wp2_with fail;rw[←hY];refine hA.out _ _ ?_ E1.out;rfl
end Go.Proofs.YtbkajklninmhiaaGreatDoor.Dq
namespace Go.Proofs.YtbkajklninmhiaaGreatDoor.Dq
open Go Go.RowKit Mem Syn Parse Par Draw
attribute [local go_sem ↓] Go.wp_at_zero Go.wp_at_succ
variable {B g:Nat} {w0 w w':World} {bs:List UInt8} {D:Sr} {s s':DS}
variable {iv:Value} {X:List Xi}
theorem Uz.below {W W':World} {gi:Nat} {x:Xi} (h:Uz B g w0 w W bs D s iv X gi x) (hb:Below W.heap.size W W'):Uz B g w0 w W' bs D s iv X gi x:=⟨h.toSz.below hb,h.ap,h.ax,h.l3⟩
theorem Uz.cur {W W':World} {gi:Nat} {x:Xi} (h:Uz B g w0 w W bs D s iv X gi x) (hc:Cu B g w0 W' bs D s') (hg:W.grownBy W' (some g)):Uz B g w0 w W' bs D s' iv X gi x:=⟨h.toSz.cur hc hg,h.ap,h.ax,h.l3⟩
theorem Uz.newE {W W0:World} {gi:Nat} {x:Xi} {v:Value} {L:List Po} (h:Uz B g w0 w W bs D s iv X gi x) (h0:PgO w0.heap.size W0 iv X) (hf0:OwnO w0.heap.size W0 x.f x.im.F) (ho:OwnO W0.heap.size W v L) (hs:w0.heap.size≤W0.heap.size) (hL:L.length≤3000):Uz B g w0 w (W.setCell ⟨gi,2,none⟩ v) bs D s iv X gi ⟨⟨x.im.k,x.im.n,L,x.im.F,x.im.K,x.im.lo,x.im.hi⟩,v,x.f⟩:=
 ⟨h.toSz.set rfl (ho.low hs) h.f ⟨by show L.length≤3010;omega,h.le.2⟩,fun z hz=>⟨yw ho (h0.e z hz) (qp _),(h.ap z hz).2.1,yw ho (h0.f z hz) (qp _),(h.ap z hz).2.2.2⟩,(yw ho hf0 (qp _)).symm,⟨hL,h.l3.2⟩⟩
theorem Uz.newF {W W0:World} {gi:Nat} {x:Xi} {v:Value} {L:List Po} (h:Uz B g w0 w W bs D s iv X gi x) (h0:PgO w0.heap.size W0 iv X) (he0:OwnO w0.heap.size W0 x.e x.im.E) (ho:OwnO W0.heap.size W v L) (hs:w0.heap.size≤W0.heap.size) (hL:L.length≤3000):Uz B g w0 w (W.setCell ⟨gi,3,none⟩ v) bs D s iv X gi ⟨⟨x.im.k,x.im.n,x.im.E,L,x.im.K,x.im.lo,x.im.hi⟩,x.e,v⟩:=
 ⟨h.toSz.set rfl h.e (ho.low hs) ⟨h.le.1,by show L.length≤3010;omega⟩,fun z hz=>⟨(h.ap z hz).1,yw ho (h0.e z hz) (qp _),(h.ap z hz).2.2.1,yw ho (h0.f z hz) (qp _)⟩,yw ho he0 (qp _),⟨h.l3.1,hL⟩⟩
theorem unW1 {W:World} {gi j n cI bI nE qE nF qF:Nat} {aE aF:Option Addr} {im:Im} {k:Int} {A:Code} {Q:Exit→Act→World→Prop} {v1 v2 v8 v9 v10 v11 v12:Value} {r:List Value} (hr:r.length=188) (Z:Hid (Uz B g w0 w W bs D s (.slice (some ⟨bI,0,none⟩) n cI) X gi ⟨im,.slice aE nE qE,.slice aF nF qF⟩)) (h1:im.k=1)
  (hA:Hid (∀v8 v9 r' wx s' y,r'.length=188→Uz B g w0 w wx bs D s' (.slice (some ⟨bI,0,none⟩) n cI) X gi y→xR D im s=(y.im,s')→Code.wp Tryz.prog A Q (Fu g w gi (j:Int) k v1 v2 v8 v9 v10 v11 v12 r') wx)):
  Code.wp Tryz.prog (.seq (sL uB) (.seq (sL (sR uB)) (.seq (sL (sR (sR uB))) (.seq (sL (sR (sR (sR uB)))) A)))) Q (Fu g w gi (j:Int) k v1 v2 v8 v9 v10 v11 v12 r) W:=by
 have hneed:xQ im.k=0:=by simp[xQ,h1]
 have hwt:Zu im.k=1:=by simp[Zu,h1]
 have h5:¬im.k=5:=by omega
 have k5:(im.k==5)=false:=by simp;omega
 have H5:=Hm h5;clear h1 h5;have CN:Hid (∀w,Calls Tryz.prog 72 #[.int .i64 im.k] w fun e w'=>e=.returned (.int .i64 0)∧w'=w):=fun w=>by have:=UM im.k w;rw[hneed]at this;exact this
 have y0:=(zb Z.out.it 0).trans (show _=some (.int .i64 im.k)from rfl);have HWT:=Hm hwt;clear hneed hwt;revert r;refine @zp 188 _ ?_
 iterate 188 (intro _)
 show Code.wp _ _ _ _ _
 conv=>arg 2;dsimp only[uB,u5,u0,Tryz.f32,Option.getD,sR,sL,cT,cF,bk,lpo]
 conv=>arg 4;dsimp only[Fu]
 go_wp2_with (go_at_call 72;go_must (refine(CN.out _).mono ?_;rintro e' w2 ⟨rfl,hww⟩;rw[hww];clear hww));clear y0;obtain⟨L,s1,hx⟩:=two (y9 D [] 2 s 1);have hcl:=Yg (C:=0) (ev:=[]) (a:=.slice none 0 0) (b:=.slice none 0 0) (by simp) 2 (by omega) s 1 W (by omega) (Cu.self Z.out.c) ⟨World.ownsRow_nil _ _ _ _,World.ownsRow_nil _ _ _ _⟩;rw[hx]at hcl;refine(show Calls Tryz.prog 69 #[.pointer (some ⟨g,0,none⟩),.int .i64 1,.int .i64 2,.agg #[.slice none 0 0,.slice none 0 0]] W _ from hcl).mono ?_;rintro e' w1 ⟨vx,rfl,hov,hc,hp,hq⟩;dsimp only at hp hq;have QL:=Hm hx;have O1:Hid (OwnO W.heap.size w1 vx L):=Hm hov;have Z1:=Hm (Z.out.cur (Z.out.c.in' hc) hc.gb);have hw0:=Z.out.c.size;obtain⟨ax,nx,cx,rfl⟩:∃a n c,vx=.slice a n c:=by obtain⟨a,c,e,-⟩:=zh hov;exact⟨_,_,_,e⟩
 clear hx hcl hov hc;have y0:=(zb Z1.out.it 0).trans (show _=some (.int .i64 im.k)from rfl);have y1:=(zb Z1.out.it 2).trans (show _=some (.slice aE nE qE)from rfl);have f1:=zc Z1.out.it 2;have Z9:=Hm (Z1.out.newE Z.out.p Z.out.f O1.out hw0 (by omega));go_wp2_with fail;refine hA.out _ _ _ _ s1 ⟨⟨im.k,im.n,L,im.F,im.K,im.lo,im.hi⟩,.slice ax nx cx,.slice aF nF qF⟩ ?_ Z9.out ?_
 ·rfl
 ·unfold xR
  rw[HWT.out,QL.out];simp[H5.out]
theorem unW4 {W:World} {gi j n cI bI nE qE nF qF:Nat} {aE aF:Option Addr} {im:Im} {k:Int} {A:Code} {Q:Exit→Act→World→Prop} {v1 v2 v8 v9 v10 v11 v12:Value} {r:List Value} (hr:r.length=188) (Z:Hid (Uz B g w0 w W bs D s (.slice (some ⟨bI,0,none⟩) n cI) X gi ⟨im,.slice aE nE qE,.slice aF nF qF⟩)) (h4:im.k=4∨im.k=8)
  (hA:Hid (∀v8 v9 r' wx s' y,r'.length=188→Uz B g w0 w wx bs D s' (.slice (some ⟨bI,0,none⟩) n cI) X gi y→xR D im s=(y.im,s')→Code.wp Tryz.prog A Q (Fu g w gi (j:Int) k v1 v2 v8 v9 v10 v11 v12 r') wx)):
  Code.wp Tryz.prog (.seq (sL uB) (.seq (sL (sR uB)) (.seq (sL (sR (sR uB))) (.seq (sL (sR (sR (sR uB)))) A)))) Q (Fu g w gi (j:Int) k v1 v2 v8 v9 v10 v11 v12 r) W:=by
 have hneed:xQ im.k=1:=by unfold xQ;rw[if_neg (by omega),if_pos h4]
 have hwt:Zu im.k=2:=by unfold Zu;rw[if_pos h4]
 have h5:¬im.k=5:=by omega
 have k5:(im.k==5)=false:=by simp;omega
 have H5:=Hm h5;clear h4 h5;have CN:Hid (∀w,Calls Tryz.prog 72 #[.int .i64 im.k] w fun e w'=>e=.returned (.int .i64 1)∧w'=w):=fun w=>by have:=UM im.k w;rw[hneed]at this;exact this
 have y0:=(zb Z.out.it 0).trans (show _=some (.int .i64 im.k)from rfl);have HWT:=Hm hwt;clear hneed hwt;revert r;refine @zp 188 _ ?_
 iterate 188 (intro _)
 show Code.wp _ _ _ _ _
 conv=>arg 2;dsimp only[uB,u5,u0,Tryz.f32,Option.getD,sR,sL,cT,cF,bk,lpo]
 conv=>arg 4;dsimp only[Fu]
 go_wp2_with (go_at_call 72;go_must (refine(CN.out _).mono ?_;rintro e' w2 ⟨rfl,hww⟩;rw[hww];clear hww));clear y0;obtain⟨L,s1,hx⟩:=two (y9 D [] 2 s 2);have hcl:=Yg (C:=0) (ev:=[]) (a:=.slice none 0 0) (b:=.slice none 0 0) (by simp) 2 (by omega) s 2 W (by omega) (Cu.self Z.out.c) ⟨World.ownsRow_nil _ _ _ _,World.ownsRow_nil _ _ _ _⟩;rw[hx]at hcl;refine(show Calls Tryz.prog 69 #[.pointer (some ⟨g,0,none⟩),.int .i64 2,.int .i64 2,.agg #[.slice none 0 0,.slice none 0 0]] W _ from hcl).mono ?_;rintro e' w1 ⟨vx,rfl,hov,hc,hp,hq⟩;dsimp only at hp hq;have QL:=Hm hx;have O1:Hid (OwnO W.heap.size w1 vx L):=Hm hov;have Z1:=Hm (Z.out.cur (Z.out.c.in' hc) hc.gb);have hw0:=Z.out.c.size;obtain⟨ax,nx,cx,rfl⟩:∃a n c,vx=.slice a n c:=by obtain⟨a,c,e,-⟩:=zh hov;exact⟨_,_,_,e⟩
 clear hx hcl hov hc;have y0:=(zb Z1.out.it 0).trans (show _=some (.int .i64 im.k)from rfl);have y1:=(zb Z1.out.it 2).trans (show _=some (.slice aE nE qE)from rfl);have f1:=zc Z1.out.it 2;have Z9:=Hm (Z1.out.newE Z.out.p Z.out.f O1.out hw0 (by omega));go_wp2_with fail;refine hA.out _ _ _ _ s1 ⟨⟨im.k,im.n,L,im.F,im.K,im.lo,im.hi⟩,.slice ax nx cx,.slice aF nF qF⟩ ?_ Z9.out ?_
 ·rfl
 ·unfold xR
  rw[HWT.out,QL.out];simp[H5.out]
theorem unW5 {W:World} {gi j n cI bI nE qE nF qF:Nat} {aE aF:Option Addr} {im:Im} {k:Int} {A:Code} {Q:Exit→Act→World→Prop} {v1 v2 v8 v9 v10 v11 v12:Value} {r:List Value} (hr:r.length=188) (Z:Hid (Uz B g w0 w W bs D s (.slice (some ⟨bI,0,none⟩) n cI) X gi ⟨im,.slice aE nE qE,.slice aF nF qF⟩)) (h5:im.k=5)
  (hA:Hid (∀v8 v9 r' wx s' y,r'.length=188→Uz B g w0 w wx bs D s' (.slice (some ⟨bI,0,none⟩) n cI) X gi y→xR D im s=(y.im,s')→Code.wp Tryz.prog A Q (Fu g w gi (j:Int) k v1 v2 v8 v9 v10 v11 v12 r') wx)):
  Code.wp Tryz.prog (.seq (sL uB) (.seq (sL (sR uB)) (.seq (sL (sR (sR uB))) (.seq (sL (sR (sR (sR uB)))) A)))) Q (Fu g w gi (j:Int) k v1 v2 v8 v9 v10 v11 v12 r) W:=by
 have hneed:xQ im.k=2:=by simp[xQ,h5]
 have hwt:Zu im.k=1:=by simp[Zu,h5]
 have k5:(im.k==5)=true:=by simp;omega
 have H5:=Hm h5;clear h5;have CN:Hid (∀w,Calls Tryz.prog 72 #[.int .i64 im.k] w fun e w'=>e=.returned (.int .i64 2)∧w'=w):=fun w=>by have:=UM im.k w;rw[hneed]at this;exact this
 have y0:=(zb Z.out.it 0).trans (show _=some (.int .i64 im.k)from rfl);have HWT:=Hm hwt;clear hneed hwt;revert r;refine @zp 188 _ ?_
 iterate 188 (intro _)
 show Code.wp _ _ _ _ _
 conv=>arg 2;dsimp only[uB,u5,u0,Tryz.f32,Option.getD,sR,sL,cT,cF,bk,lpo]
 conv=>arg 4;dsimp only[Fu]
 go_wp2_with (go_at_call 72;go_must (refine(CN.out _).mono ?_;rintro e' w2 ⟨rfl,hww⟩;rw[hww];clear hww));clear y0;obtain⟨L,s1,hx⟩:=two (y9 D [] 2 s 1);have hcl:=Yg (C:=0) (ev:=[]) (a:=.slice none 0 0) (b:=.slice none 0 0) (by simp) 2 (by omega) s 1 W (by omega) (Cu.self Z.out.c) ⟨World.ownsRow_nil _ _ _ _,World.ownsRow_nil _ _ _ _⟩;rw[hx]at hcl;refine(show Calls Tryz.prog 69 #[.pointer (some ⟨g,0,none⟩),.int .i64 1,.int .i64 2,.agg #[.slice none 0 0,.slice none 0 0]] W _ from hcl).mono ?_;rintro e' w1 ⟨vx,rfl,hov,hc,hp,hq⟩;dsimp only at hp hq;have QL:=Hm hx;have O1:Hid (OwnO W.heap.size w1 vx L):=Hm hov;have Z1:=Hm (Z.out.cur (Z.out.c.in' hc) hc.gb);have hw0:=Z.out.c.size;obtain⟨ax,nx,cx,rfl⟩:∃a n c,vx=.slice a n c:=by obtain⟨a,c,e,-⟩:=zh hov;exact⟨_,_,_,e⟩
 clear hx hcl hov hc;have y0:=(zb Z1.out.it 0).trans (show _=some (.int .i64 im.k)from rfl);go_wp2_with fail;clear y0;refine(xl Z1.out.c 2 (by omega) (by omega)).mono ?_;rintro e' w3 ⟨b,s2,hx,rfl,hc,hgb⟩;have Qb:=Hm hx;have O3:=Hm (Z1.out.c.own O1.out hgb);have Z3:=Hm (Z1.out.cur hc hgb);clear hx hc hgb
 cases b with
 |true=>
  have y1:=(zb Z3.out.it 3).trans (show _=some (.slice aF nF qF)from rfl);have f1:=zc Z3.out.it 3;have Z9:=Hm (Z3.out.newF Z.out.p Z.out.e O3.out hw0 (by omega));go_wp2_with fail;refine hA.out _ _ _ _ s2 ⟨⟨im.k,im.n,im.E,L,im.K,im.lo,im.hi⟩,.slice aE nE qE,.slice ax nx cx⟩ ?_ Z9.out ?_
  ·rfl
  ·unfold xR
   rw[HWT.out,QL.out];simp[H5.out,Qb.out]
 |false=>
  have y1:=(zb Z3.out.it 2).trans (show _=some (.slice aE nE qE)from rfl);have f1:=zc Z3.out.it 2;have Z9:=Hm (Z3.out.newE Z.out.p Z.out.f O3.out hw0 (by omega));go_wp2_with fail;refine hA.out _ _ _ _ s2 ⟨⟨im.k,im.n,L,im.F,im.K,im.lo,im.hi⟩,.slice ax nx cx,.slice aF nF qF⟩ ?_ Z9.out ?_
  ·rfl
  ·unfold xR
   rw[HWT.out,QL.out];simp[H5.out,Qb.out]
theorem unW0 {W:World} {gi j n cI bI nE qE nF qF:Nat} {aE aF:Option Addr} {im:Im} {k:Int} {A:Code} {Q:Exit→Act→World→Prop} {v1 v2 v8 v9 v10 v11 v12:Value} {r:List Value} (hr:r.length=188) (Z:Hid (Uz B g w0 w W bs D s (.slice (some ⟨bI,0,none⟩) n cI) X gi ⟨im,.slice aE nE qE,.slice aF nF qF⟩)) (h1:im.k≠1) (h4:¬(im.k=4∨im.k=8)) (h5:¬im.k=5)
  (hA:Hid (∀v8 v9 r' wx s' y,r'.length=188→Uz B g w0 w wx bs D s' (.slice (some ⟨bI,0,none⟩) n cI) X gi y→xR D im s=(y.im,s')→Code.wp Tryz.prog A Q (Fu g w gi (j:Int) k v1 v2 v8 v9 v10 v11 v12 r') wx)):
  Code.wp Tryz.prog (.seq (sL uB) (.seq (sL (sR uB)) (.seq (sL (sR (sR uB))) (.seq (sL (sR (sR (sR uB)))) A)))) Q (Fu g w gi (j:Int) k v1 v2 v8 v9 v10 v11 v12 r) W:=by
 have hneed:xQ im.k=2:=by unfold xQ;rw[if_neg h1,if_neg h4]
 have hwt:Zu im.k=1:=by unfold Zu;rw[if_neg h4]
 have k5:(im.k==5)=false:=by simp;omega
 have H5:=Hm h5;clear h1 h4 h5;have CN:Hid (∀w,Calls Tryz.prog 72 #[.int .i64 im.k] w fun e w'=>e=.returned (.int .i64 2)∧w'=w):=fun w=>by have:=UM im.k w;rw[hneed]at this;exact this
 have y0:=(zb Z.out.it 0).trans (show _=some (.int .i64 im.k)from rfl);have HWT:=Hm hwt;clear hneed hwt;revert r;refine @zp 188 _ ?_
 iterate 188 (intro _)
 show Code.wp _ _ _ _ _
 conv=>arg 2;dsimp only[uB,u5,u0,Tryz.f32,Option.getD,sR,sL,cT,cF,bk,lpo]
 conv=>arg 4;dsimp only[Fu]
 go_wp2_with (go_at_call 72;go_must (refine(CN.out _).mono ?_;rintro e' w2 ⟨rfl,hww⟩;rw[hww];clear hww));clear y0;obtain⟨L,s1,hx⟩:=two (y9 D [] 2 s 1);have hcl:=Yg (C:=0) (ev:=[]) (a:=.slice none 0 0) (b:=.slice none 0 0) (by simp) 2 (by omega) s 1 W (by omega) (Cu.self Z.out.c) ⟨World.ownsRow_nil _ _ _ _,World.ownsRow_nil _ _ _ _⟩;rw[hx]at hcl;refine(show Calls Tryz.prog 69 #[.pointer (some ⟨g,0,none⟩),.int .i64 1,.int .i64 2,.agg #[.slice none 0 0,.slice none 0 0]] W _ from hcl).mono ?_;rintro e' w1 ⟨vx,rfl,hov,hc,hp,hq⟩;dsimp only at hp hq;have QL:=Hm hx;have O1:Hid (OwnO W.heap.size w1 vx L):=Hm hov;have Z1:=Hm (Z.out.cur (Z.out.c.in' hc) hc.gb);have hw0:=Z.out.c.size;obtain⟨ax,nx,cx,rfl⟩:∃a n c,vx=.slice a n c:=by obtain⟨a,c,e,-⟩:=zh hov;exact⟨_,_,_,e⟩
 clear hx hcl hov hc;have y0:=(zb Z1.out.it 0).trans (show _=some (.int .i64 im.k)from rfl);have y1:=(zb Z1.out.it 2).trans (show _=some (.slice aE nE qE)from rfl);have f1:=zc Z1.out.it 2;have Z9:=Hm (Z1.out.newE Z.out.p Z.out.f O1.out hw0 (by omega));go_wp2_with fail;refine hA.out _ _ _ _ s1 ⟨⟨im.k,im.n,L,im.F,im.K,im.lo,im.hi⟩,.slice ax nx cx,.slice aF nF qF⟩ ?_ Z9.out ?_
 ·rfl
 ·unfold xR
  rw[HWT.out,QL.out];simp[H5.out]
theorem unRet {W:World} {gi:Nat} {j k:Int} {m:List Im×DS} {K:Act→World→Prop} {v1 v2 v8 v9 v10 v11 v12:Value} {r:List Value} (hr:r.length=188) (Z:Hid (Ue B g w0 w W bs D s iv X)) (hm:Hid (m=(X.map Xi.im,s))):
  Code.wp Tryz.prog (sR (sR (sR (sR (sR uB))))) (Exit.then K (bodyPost Tryz.prog Tryz.f32 (RU B g w0 w bs D m))) (Fu g w gi j k v1 v2 v8 v9 v10 v11 v12 r) W:=by
 obtain⟨pi,ni,ci,rfl⟩:∃a n c,iv=.slice a n c:=by obtain⟨a,c,e,-⟩:=zh Z.out.p.row;exact⟨_,_,_,e⟩
 have x0:=(zb Z.out.box 0).trans (show _=some (.slice pi ni ci)from rfl);have z0:=(zb Z.out.res 0).trans (show _=some (.slice none 0 0)from rfl);have f0:=zc Z.out.res 0;revert r;refine @zp 188 _ ?_
 iterate 188 (intro _)
 show Code.wp _ _ _ _ _
 conv=>arg 2;dsimp only[uB,u5,u0,Tryz.f32,Option.getD,sR,sL,cT,cF,bk,lpo]
 conv=>arg 4;dsimp only[Fu]
 go_wp2;clear x0 z0 f0;have P1:=PgO.far (i:=0) (v:=.slice pi ni ci) Z.out.p Z.out.res (by decide) (by decide);have C1:=Cu.set (r:=w.heap.size+1) (i:=0) (v:=.slice pi ni ci) Z.out.c (by have:=Z.out.l0;omega);have b1:=zq Z.out.res 0 (.slice pi ni ci);simp only[qa,qb,qc]at b1;obtain⟨Y,hY⟩:∃Y,Y=W.setCell ⟨w.heap.size+1,0,none⟩ (.slice pi ni ci):=⟨_,rfl⟩;have q9:=Old.new (b:=w.heap.size+1) (i:=0) (v:=.slice pi ni ci) Z.out.od (Nat.le_succ _);rw[←hY]at P1 C1 b1 q9 ⊢;clear hY;have t0':=cL0 b1;refine bodyPost_ret (v:=.agg #[.slice pi ni ci]) (by simp[results,Tryz.results32,go_sem,t0'];try rfl) rfl ?_;rw[hm.out];exact⟨_,X,rfl,rfl,P1,C1,q9,by rw[List.length_map];exact Z.out.ln⟩
theorem unTo6 {W:World} {gi j n cI bI nE qE nF qF:Nat} {aE aF:Option Addr} {im:Im} {A:Code} {Q:Exit→Act→World→Prop} {v1 v2 v8 v9 v10 v11 v12:Value} {r:List Value} (hr:r.length=188) (Z:Hid (Sz B g w0 w W bs D s (.slice (some ⟨bI,0,none⟩) n cI) X gi ⟨im,.slice aE nE qE,.slice aF nF qF⟩)) (hmem:Hid (X[j]? =some ⟨im,.slice aE nE qE,.slice aF nF qF⟩)) (hn:n=X.length) (hn1:n≤190) (hhE:Hid (xS im.k=true)) {Bc:Code}
  (hB:Hid (∀K r',r'.length=188→Code.wp Tryz.prog Bc (Exit.then K Q) (Fu g w gi (j:Int) 6 v1 v2 v8 v9 v10 v11 v12 r') W)):Code.wp Tryz.prog (.seq (sL u5) (.seq (.seq (sL (sL (sR u5))) (.cond (.tmp 45) Bc .skip)) A)) Q (Fu g w gi (j:Int) 6 v1 v2 v8 v9 v10 v11 v12 r) W:=by
 have y1:=(zb Z.out.it 0).trans (show _=some (.int .i64 im.k)from rfl);have CH:Hid (∀w,Calls Tryz.prog 36 #[.int .i64 im.k] w fun e w'=>e=.returned (.bool true)∧w'=w):=fun w=>by have:=Wp im.k w;rw[hhE.out]at this;exact this
 revert r;refine @zp 188 _ ?_
 iterate 188 (intro _)
 show Code.wp _ _ _ _ _
 conv=>arg 2;dsimp only[u5,u0,Tryz.f32,Option.getD,sR,sL,cT,cF,bk,lpo]
 conv=>arg 4;dsimp only[Fu]
 go_wp2_with (go_at_call 36;go_must (refine(CH.out _).mono ?_;rintro e' w2 ⟨rfl,hww⟩;rw[hww];clear hww));refine hB.out _ _ ?_;rfl
theorem unTo7 {W:World} {gi j n cI bI nE qE nF qF:Nat} {aE aF:Option Addr} {im:Im} {A:Code} {Q:Exit→Act→World→Prop} {v1 v2 v8 v9 v10 v11 v12:Value} {r:List Value} (hr:r.length=188) (Z:Hid (Sz B g w0 w W bs D s (.slice (some ⟨bI,0,none⟩) n cI) X gi ⟨im,.slice aE nE qE,.slice aF nF qF⟩)) (hmem:Hid (X[j]? =some ⟨im,.slice aE nE qE,.slice aF nF qF⟩)) (hn:n=X.length) (hn1:n≤190) (hhE:Hid (xS im.k=true)) {Bc:Code}
  (hB:Hid (∀K r',r'.length=188→Code.wp Tryz.prog Bc (Exit.then K Q) (Fu g w gi (j:Int) 7 v1 v2 v8 v9 v10 v11 v12 r') W)):Code.wp Tryz.prog (.seq (sL u5) (.seq (.seq (sL (sL (sR u5))) (.cond (.tmp 45) Bc .skip)) A)) Q (Fu g w gi (j:Int) 7 v1 v2 v8 v9 v10 v11 v12 r) W:=by
 have y1:=(zb Z.out.it 0).trans (show _=some (.int .i64 im.k)from rfl);have CH:Hid (∀w,Calls Tryz.prog 36 #[.int .i64 im.k] w fun e w'=>e=.returned (.bool true)∧w'=w):=fun w=>by have:=Wp im.k w;rw[hhE.out]at this;exact this
 revert r;refine @zp 188 _ ?_
 iterate 188 (intro _)
 show Code.wp _ _ _ _ _
 conv=>arg 2;dsimp only[u5,u0,Tryz.f32,Option.getD,sR,sL,cT,cF,bk,lpo]
 conv=>arg 4;dsimp only[Fu]
 go_wp2_with (go_at_call 36;go_must (refine(CH.out _).mono ?_;rintro e' w2 ⟨rfl,hww⟩;rw[hww];clear hww));refine hB.out _ _ ?_;rfl
end Go.Proofs.YtbkajklninmhiaaGreatDoor.Dq
