import Derived.Test.YtbkajklninmhiaaGreatDoorPm31
set_option maxHeartbeats 6400000
set_option maxRecDepth 1000000
set_option linter.unusedVariables false
set_option linter.unusedSimpArgs false
open List renaming setIfInBounds_toArray → qa, set_cons_zero → qb, set_cons_succ → qc
open Nat renaming le_refl → qp, le_trans → qq
namespace Go.Proofs.YtbkajklninmhiaaGreatDoor.Dq
open Go Go.RowKit Mem Syn Parse Par Draw
attribute [local go_sem ↓] Go.wp_at_zero Go.wp_at_succ
variable {B g:Nat} {w0 w w':World} {bs:List UInt8} {D:Sr} {s s':DS}
variable {iv:Value} {X:List Xi}
noncomputable def gL:Code:=lpo (bk (sR (sL (sR uG))))
noncomputable def gB:Code:=bk (sL (sR gL))
structure Lz (B g:Nat) (w0 w W:World) (bs:List UInt8) (D:Sr) (s:DS) (iv:Value) (X:List Xi) (gi:Nat) (x:Xi) (WB b nE c:Nat) (M:List Po):Prop where
 z:Sz B g w0 w W bs D s iv X gi x
 o:OwnO WB W (.slice (some ⟨b,0,none⟩) nE c) M
 hb:WB≤b
 h0:w0.heap.size≤WB
 nx:∀y∈X,y.e.ownBlock≠some b∧y.f.ownBlock≠some b
 ne:x.e.ownBlock≠some b
 nf:x.f.ownBlock≠some b
theorem Lz.below {W W':World} {gi WB b nE c:Nat} {x:Xi} {M:List Po} (h:Lz B g w0 w W bs D s iv X gi x WB b nE c M) (hb:Below W.heap.size W W'):Lz B g w0 w W' bs D s iv X gi x WB b nE c M:=⟨h.z.below hb,h.o.below hb,h.hb,h.h0,h.nx,h.ne,h.nf⟩
theorem Lz.cur {W W':World} {gi WB b nE c:Nat} {x:Xi} {M:List Po} (h:Lz B g w0 w W bs D s iv X gi x WB b nE c M) (hc:Cu B g w0 W' bs D s') (hg:W.grownBy W' (some g)):Lz B g w0 w W' bs D s' iv X gi x WB b nE c M:=⟨h.z.cur hc hg,h.z.c.own h.o hg,h.hb,h.h0,h.nx,h.ne,h.nf⟩
theorem Lz.opb {W W1:World} {gi WB b nE c i:Nat} {v:Value} {x:Xi} {M:List Po} (h:Lz B g w0 w W bs D s iv X gi x WB b nE c M) (h1:Lz B g w0 w W1 bs D s' iv X gi x WB b nE c M) (hr:Blk W W1.heap.size 88):Lz B g w0 w (W.setCell ⟨W1.heap.size,i,none⟩ v) bs D s iv X gi x WB b nE c M:=
 ⟨h.z.opb hr (fun y hy=>⟨zM (h1.z.p.e y hy) (qp _),zM (h1.z.p.f y hy) (qp _)⟩) (zM h1.z.e (qp _)) (zM h1.z.f (qp _)) h1.z.c.size,xW h.o (zM h1.o (qp _)),h.hb,h.h0,h.nx,h.ne,h.nf⟩
theorem Lz.put {W:World} {gi WB b nE c i:Nat} {p p':Po} {x:Xi} {M:List Po} (h:Lz B g w0 w W bs D s iv X gi x WB b nE c M) (hp:M[i]? =some p):Lz B g w0 w (((W.setCell ⟨b,i*3,none⟩ (.int .i64 p'.k)).setCell ⟨b,i*3+1,none⟩ (.int .i64 p'.v)).setCell ⟨b,i*3+2,none⟩ (.string ⟨p'.n.toArray⟩)) bs D s iv X gi x WB b nE c (M.set i p'):=by
 have hB:Blk W b 88:=by
  obtain⟨cc,fz,hc⟩:=yC h.o b rfl;exact⟨cc,fz,hc⟩
 refine⟨?_,YR h.o hp,h.hb,h.h0,h.nx,h.ne,h.nf⟩;exact Ys (p:=fun U=>Sz B g w0 w U bs D s iv X gi x) (fun U i v hU hz=>hz.opb hU h.nx h.ne h.nf (qq h.h0 h.hb)) hB h.z _ _ _ _ _ _
theorem gb3a {W:World} {gi j i nE c b WB:Nat} {x:Xi} {M:List Po} {p:Po} {Q:Exit→Act→World→Prop} {v1 v2 v8 v9 v12:Value} {r:List Value} (hr:r.length=188) (Z:Hid (Lz B g w0 w W bs D s iv X gi x WB b nE c M)) (hi:i<nE) (hp:Hid (M[i]? =some p)) (hk:Hid (p.k=3)) {sb:DS} (Hb:Hid (D.once s 2=(true,sb)))
  (hn:Hid (∀v12' r' wx s' p',r'.length=188→Lz B g w0 w wx bs D s' iv X gi x WB b nE c (M.set i p')→unOp D 3 p s=(p',s')→Q .normal (Fu g w gi (j:Int) 3 v1 v2 v8 v9 (.slice (some ⟨b,0,none⟩) nE c) (.int .i64 (i:Int)) v12' r') wx)):
  Code.wp Tryz.prog gB Q (Fu g w gi (j:Int) 3 v1 v2 v8 v9 (.slice (some ⟨b,0,none⟩) nE c) (.int .i64 (i:Int)) v12 r) W:=by
 have hM:nE=M.length:=by obtain⟨a',c',e,-⟩:=zh Z.out.o;injection e
 have hrow:W.ownsRow WB 88 3 (.slice (some ⟨b,0,none⟩) nE c) nE (M.flatMap Po.cells):=by
  have:=Z.out.o;unfold OwnO zH at this;rw[←hM]at this;exact this
 obtain⟨p0,-⟩:=zk (i:=i*3) hrow ((zm Po.len i M p 0 hp.out (by omega)).trans (show _=some (.int .i64 p.k)from rfl));obtain⟨p1,-⟩:=zk (i:=i*3+1) hrow ((zm Po.len i M p 1 hp.out (by omega)).trans (show _=some (.int .i64 p.v)from rfl));obtain⟨p2,-⟩:=zk (i:=i*3+2) hrow ((zm Po.len i M p 2 hp.out (by omega)).trans (show _=some (.string ⟨p.n.toArray⟩)from rfl));have i0:(0:Int)≤(i:Int):=by omega
 have il:(i:Int)<(nE:Int):=by omega
 have HM:=Hm hM;have kk:(p.k==3)=true:=by simp[hk.out]
 obtain⟨w3,hw3⟩:∃W',W'=W.alloc (.cells #[.int .i64 p.k,.int .i64 p.v,.string ⟨p.n.toArray⟩] 88):=⟨_,rfl⟩;have hb3:Below W.heap.size W w3:=by rw[hw3];exact zd (Below.refl _ _) _
 have G3:Hid (w3.heap[W.heap.size]? =some (.cells #[.int .i64 p.k,.int .i64 p.v,.string ⟨p.n.toArray⟩] 88)):=by rw[hw3];exact zo _ _
 have Z3:=Hm (Z.out.below hb3);have hW0:=Z.out.z.c.size;clear hb3 hM hrow;revert r;refine @zp 188 _ ?_
 iterate 188 (intro _)
 show Code.wp _ _ _ _ _
 conv=>arg 2;dsimp only[gB,gL,uG,u5,u0,Tryz.f32,Option.getD,sR,sL,cT,cF,bk,lpo]
 conv=>arg 4;dsimp only[Fu]
 go_upto_region 29 with fail;rw[←hw3];clear hw3 p0 p1 p2;have g0:=cL0 G3.out;have g1:=cL1 G3.out;have g2:=cL2 G3.out;go_wp2_with fail;clear g0 g1 g2;refine(xl Z3.out.z.c 2 (by omega) (by omega)).mono ?_;rintro e' w4 ⟨bb,s4,hx,rfl,hc,hgb⟩;rw[Hb.out]at hx;obtain⟨rfl,rfl⟩:=Prod.mk.inj hx;have Z4:=Hm (Z3.out.cur hc hgb);have G4:=Hm (Z3.out.z.c.blk hW0 G3.out hgb);clear hx hc hgb Z3 G3;have g0:=cL0 G4.out;have g1:=cL1 G4.out;have g2:=cL2 G4.out;have f0:=zc G4.out 1;obtain⟨w5,hw⟩:∃W',W'=w4.setCell ⟨W.heap.size,1,none⟩ (.int .i64 (Int.tmod (wrap64 (p.v+3)) 13)):=⟨_,rfl⟩;have Z5:=Hm (Lz.opb (i:=1) (v:=.int .i64 (Int.tmod (wrap64 (p.v+3)) 13)) Z4.out Z.out ⟨_,_,G4.out⟩);have G5:=Hm (zq G4.out 1 (.int .i64 (Int.tmod (wrap64 (p.v+3)) 13)))
 simp only[qa,qb,qc]at G5;rw[←hw]at Z5 G5;go_upto_region 35 with fail;rw[←hw];clear hw f0 g0 g1 g2 Z4 G4;have g0:=cL0 G5.out;have g1:=cL1 G5.out;have g2:=cL2 G5.out
 have hrow:w5.ownsRow WB 88 3 (.slice (some ⟨b,0,none⟩) nE c) nE (M.flatMap Po.cells):=by
  have:=Z5.out.o;unfold OwnO zH at this;rw[←HM.out]at this;exact this
 obtain⟨p0,f0⟩:=zk (i:=i*3) hrow ((zm Po.len i M p 0 hp.out (by omega)).trans (show _=some (.int .i64 p.k)from rfl));obtain⟨p1,f1⟩:=zk (i:=i*3+1) hrow ((zm Po.len i M p 1 hp.out (by omega)).trans (show _=some (.int .i64 p.v)from rfl));obtain⟨p2,f2⟩:=zk (i:=i*3+2) hrow ((zm Po.len i M p 2 hp.out (by omega)).trans (show _=some (.string ⟨p.n.toArray⟩)from rfl));clear hrow;have Z9:=Hm (Z5.out.put (p':=⟨p.k,Int.tmod (wrap64 (p.v+3)) 13,p.n⟩) hp.out);go_wp2_with fail;refine hn.out _ _ _ sb ⟨p.k,Int.tmod (wrap64 (p.v+3)) 13,p.n⟩ ?_ Z9.out ?_
 ·rfl
 ·unfold unOp;simp[hk.out,Hb.out]
theorem gb3b {W:World} {gi j i nE c b WB:Nat} {x:Xi} {M:List Po} {p:Po} {Q:Exit→Act→World→Prop} {v1 v2 v8 v9 v12:Value} {r:List Value} (hr:r.length=188) (Z:Hid (Lz B g w0 w W bs D s iv X gi x WB b nE c M)) (hi:i<nE) (hp:Hid (M[i]? =some p)) (hk:Hid (p.k=3)) {sb:DS} (Hb:Hid (D.once s 2=(false,sb)))
  (hn:Hid (∀v12' r' wx s' p',r'.length=188→Lz B g w0 w wx bs D s' iv X gi x WB b nE c (M.set i p')→unOp D 3 p s=(p',s')→Q .normal (Fu g w gi (j:Int) 3 v1 v2 v8 v9 (.slice (some ⟨b,0,none⟩) nE c) (.int .i64 (i:Int)) v12' r') wx)):
  Code.wp Tryz.prog gB Q (Fu g w gi (j:Int) 3 v1 v2 v8 v9 (.slice (some ⟨b,0,none⟩) nE c) (.int .i64 (i:Int)) v12 r) W:=by
 have hM:nE=M.length:=by obtain⟨a',c',e,-⟩:=zh Z.out.o;injection e
 have hrow:W.ownsRow WB 88 3 (.slice (some ⟨b,0,none⟩) nE c) nE (M.flatMap Po.cells):=by
  have:=Z.out.o;unfold OwnO zH at this;rw[←hM]at this;exact this
 obtain⟨p0,-⟩:=zk (i:=i*3) hrow ((zm Po.len i M p 0 hp.out (by omega)).trans (show _=some (.int .i64 p.k)from rfl));obtain⟨p1,-⟩:=zk (i:=i*3+1) hrow ((zm Po.len i M p 1 hp.out (by omega)).trans (show _=some (.int .i64 p.v)from rfl));obtain⟨p2,-⟩:=zk (i:=i*3+2) hrow ((zm Po.len i M p 2 hp.out (by omega)).trans (show _=some (.string ⟨p.n.toArray⟩)from rfl));have i0:(0:Int)≤(i:Int):=by omega
 have il:(i:Int)<(nE:Int):=by omega
 have HM:=Hm hM;have kk:(p.k==3)=true:=by simp[hk.out]
 obtain⟨w3,hw3⟩:∃W',W'=W.alloc (.cells #[.int .i64 p.k,.int .i64 p.v,.string ⟨p.n.toArray⟩] 88):=⟨_,rfl⟩;have hb3:Below W.heap.size W w3:=by rw[hw3];exact zd (Below.refl _ _) _
 have G3:Hid (w3.heap[W.heap.size]? =some (.cells #[.int .i64 p.k,.int .i64 p.v,.string ⟨p.n.toArray⟩] 88)):=by rw[hw3];exact zo _ _
 have Z3:=Hm (Z.out.below hb3);have hW0:=Z.out.z.c.size;clear hb3 hM hrow;revert r;refine @zp 188 _ ?_
 iterate 188 (intro _)
 show Code.wp _ _ _ _ _
 conv=>arg 2;dsimp only[gB,gL,uG,u5,u0,Tryz.f32,Option.getD,sR,sL,cT,cF,bk,lpo]
 conv=>arg 4;dsimp only[Fu]
 go_upto_region 29 with fail;rw[←hw3];clear hw3 p0 p1 p2;have g0:=cL0 G3.out;have g1:=cL1 G3.out;have g2:=cL2 G3.out;go_wp2_with fail;clear g0 g1 g2;refine(xl Z3.out.z.c 2 (by omega) (by omega)).mono ?_;rintro e' w4 ⟨bb,s4,hx,rfl,hc,hgb⟩;rw[Hb.out]at hx;obtain⟨rfl,rfl⟩:=Prod.mk.inj hx;have Z4:=Hm (Z3.out.cur hc hgb);have G4:=Hm (Z3.out.z.c.blk hW0 G3.out hgb);clear hx hc hgb Z3 G3;have g0:=cL0 G4.out;have g1:=cL1 G4.out;have g2:=cL2 G4.out;go_upto_region 35 with fail;clear g0 g1 g2;have g0:=cL0 G4.out;have g1:=cL1 G4.out;have g2:=cL2 G4.out
 have hrow:w4.ownsRow WB 88 3 (.slice (some ⟨b,0,none⟩) nE c) nE (M.flatMap Po.cells):=by
  have:=Z4.out.o;unfold OwnO zH at this;rw[←HM.out]at this;exact this
 obtain⟨p0,f0⟩:=zk (i:=i*3) hrow ((zm Po.len i M p 0 hp.out (by omega)).trans (show _=some (.int .i64 p.k)from rfl));obtain⟨p1,f1⟩:=zk (i:=i*3+1) hrow ((zm Po.len i M p 1 hp.out (by omega)).trans (show _=some (.int .i64 p.v)from rfl));obtain⟨p2,f2⟩:=zk (i:=i*3+2) hrow ((zm Po.len i M p 2 hp.out (by omega)).trans (show _=some (.string ⟨p.n.toArray⟩)from rfl));clear hrow;have Z9:=Hm (Z4.out.put (p':=p) hp.out);go_wp2_with fail;refine hn.out _ _ _ sb p ?_ Z9.out ?_
 ·rfl
 ·unfold unOp;simp[hk.out,Hb.out]
theorem gb3c {W:World} {gi j i nE c b WB:Nat} {x:Xi} {M:List Po} {p:Po} {Q:Exit→Act→World→Prop} {v1 v2 v8 v9 v12:Value} {r:List Value} (hr:r.length=188) (Z:Hid (Lz B g w0 w W bs D s iv X gi x WB b nE c M)) (hi:i<nE) (hp:Hid (M[i]? =some p)) (hk:Hid (p.k≠3))
  (hn:Hid (∀v12' r' wx s' p',r'.length=188→Lz B g w0 w wx bs D s' iv X gi x WB b nE c (M.set i p')→unOp D 3 p s=(p',s')→Q .normal (Fu g w gi (j:Int) 3 v1 v2 v8 v9 (.slice (some ⟨b,0,none⟩) nE c) (.int .i64 (i:Int)) v12' r') wx)):
  Code.wp Tryz.prog gB Q (Fu g w gi (j:Int) 3 v1 v2 v8 v9 (.slice (some ⟨b,0,none⟩) nE c) (.int .i64 (i:Int)) v12 r) W:=by
 have hM:nE=M.length:=by obtain⟨a',c',e,-⟩:=zh Z.out.o;injection e
 have hrow:W.ownsRow WB 88 3 (.slice (some ⟨b,0,none⟩) nE c) nE (M.flatMap Po.cells):=by
  have:=Z.out.o;unfold OwnO zH at this;rw[←hM]at this;exact this
 obtain⟨p0,-⟩:=zk (i:=i*3) hrow ((zm Po.len i M p 0 hp.out (by omega)).trans (show _=some (.int .i64 p.k)from rfl));obtain⟨p1,-⟩:=zk (i:=i*3+1) hrow ((zm Po.len i M p 1 hp.out (by omega)).trans (show _=some (.int .i64 p.v)from rfl));obtain⟨p2,-⟩:=zk (i:=i*3+2) hrow ((zm Po.len i M p 2 hp.out (by omega)).trans (show _=some (.string ⟨p.n.toArray⟩)from rfl));have i0:(0:Int)≤(i:Int):=by omega
 have il:(i:Int)<(nE:Int):=by omega
 have HM:=Hm hM;have kk:(p.k==3)=false:=by simp[hk.out]
 obtain⟨w3,hw3⟩:∃W',W'=W.alloc (.cells #[.int .i64 p.k,.int .i64 p.v,.string ⟨p.n.toArray⟩] 88):=⟨_,rfl⟩;have hb3:Below W.heap.size W w3:=by rw[hw3];exact zd (Below.refl _ _) _
 have G3:Hid (w3.heap[W.heap.size]? =some (.cells #[.int .i64 p.k,.int .i64 p.v,.string ⟨p.n.toArray⟩] 88)):=by rw[hw3];exact zo _ _
 have Z3:=Hm (Z.out.below hb3);have hW0:=Z.out.z.c.size;clear hb3 hM hrow;revert r;refine @zp 188 _ ?_
 iterate 188 (intro _)
 show Code.wp _ _ _ _ _
 conv=>arg 2;dsimp only[gB,gL,uG,u5,u0,Tryz.f32,Option.getD,sR,sL,cT,cF,bk,lpo]
 conv=>arg 4;dsimp only[Fu]
 go_upto_region 29 with fail;rw[←hw3];clear hw3 p0 p1 p2;have g0:=cL0 G3.out;have g1:=cL1 G3.out;have g2:=cL2 G3.out;go_upto_region 35 with fail;clear g0 g1 g2;have g0:=cL0 G3.out;have g1:=cL1 G3.out;have g2:=cL2 G3.out
 have hrow:w3.ownsRow WB 88 3 (.slice (some ⟨b,0,none⟩) nE c) nE (M.flatMap Po.cells):=by
  have:=Z3.out.o;unfold OwnO zH at this;rw[←HM.out]at this;exact this
 obtain⟨p0,f0⟩:=zk (i:=i*3) hrow ((zm Po.len i M p 0 hp.out (by omega)).trans (show _=some (.int .i64 p.k)from rfl));obtain⟨p1,f1⟩:=zk (i:=i*3+1) hrow ((zm Po.len i M p 1 hp.out (by omega)).trans (show _=some (.int .i64 p.v)from rfl));obtain⟨p2,f2⟩:=zk (i:=i*3+2) hrow ((zm Po.len i M p 2 hp.out (by omega)).trans (show _=some (.string ⟨p.n.toArray⟩)from rfl));clear hrow;have Z9:=Hm (Z3.out.put (p':=p) hp.out);go_wp2_with fail;refine hn.out _ _ _ s p ?_ Z9.out ?_
 ·rfl
 ·unfold unOp;simp[hk.out]
theorem gb4a {W:World} {gi j i nE c b WB:Nat} {x:Xi} {M:List Po} {p:Po} {Q:Exit→Act→World→Prop} {v1 v2 v8 v9 v12:Value} {r:List Value} (hr:r.length=188) (Z:Hid (Lz B g w0 w W bs D s iv X gi x WB b nE c M)) (hi:i<nE) (hp:Hid (M[i]? =some p)) (hk:Hid (p.k=9)) {sb:DS} (Hb:Hid (D.once s 2=(true,sb)))
  (hn:Hid (∀v12' r' wx s' p',r'.length=188→Lz B g w0 w wx bs D s' iv X gi x WB b nE c (M.set i p')→unOp D 4 p s=(p',s')→Q .normal (Fu g w gi (j:Int) 4 v1 v2 v8 v9 (.slice (some ⟨b,0,none⟩) nE c) (.int .i64 (i:Int)) v12' r') wx)):
  Code.wp Tryz.prog gB Q (Fu g w gi (j:Int) 4 v1 v2 v8 v9 (.slice (some ⟨b,0,none⟩) nE c) (.int .i64 (i:Int)) v12 r) W:=by
 have hM:nE=M.length:=by obtain⟨a',c',e,-⟩:=zh Z.out.o;injection e
 have hrow:W.ownsRow WB 88 3 (.slice (some ⟨b,0,none⟩) nE c) nE (M.flatMap Po.cells):=by
  have:=Z.out.o;unfold OwnO zH at this;rw[←hM]at this;exact this
 obtain⟨p0,-⟩:=zk (i:=i*3) hrow ((zm Po.len i M p 0 hp.out (by omega)).trans (show _=some (.int .i64 p.k)from rfl));obtain⟨p1,-⟩:=zk (i:=i*3+1) hrow ((zm Po.len i M p 1 hp.out (by omega)).trans (show _=some (.int .i64 p.v)from rfl));obtain⟨p2,-⟩:=zk (i:=i*3+2) hrow ((zm Po.len i M p 2 hp.out (by omega)).trans (show _=some (.string ⟨p.n.toArray⟩)from rfl));have i0:(0:Int)≤(i:Int):=by omega
 have il:(i:Int)<(nE:Int):=by omega
 have HM:=Hm hM;have kk:(p.k==9)=true:=by simp[hk.out]
 obtain⟨w3,hw3⟩:∃W',W'=W.alloc (.cells #[.int .i64 p.k,.int .i64 p.v,.string ⟨p.n.toArray⟩] 88):=⟨_,rfl⟩;have hb3:Below W.heap.size W w3:=by rw[hw3];exact zd (Below.refl _ _) _
 have G3:Hid (w3.heap[W.heap.size]? =some (.cells #[.int .i64 p.k,.int .i64 p.v,.string ⟨p.n.toArray⟩] 88)):=by rw[hw3];exact zo _ _
 have Z3:=Hm (Z.out.below hb3);have hW0:=Z.out.z.c.size;clear hb3 hM hrow;revert r;refine @zp 188 _ ?_
 iterate 188 (intro _)
 show Code.wp _ _ _ _ _
 conv=>arg 2;dsimp only[gB,gL,uG,u5,u0,Tryz.f32,Option.getD,sR,sL,cT,cF,bk,lpo]
 conv=>arg 4;dsimp only[Fu]
 go_upto_region 29 with fail;rw[←hw3];clear hw3 p0 p1 p2;have g0:=cL0 G3.out;have g1:=cL1 G3.out;have g2:=cL2 G3.out;go_wp2_with fail;clear g0 g1 g2;refine(xl Z3.out.z.c 2 (by omega) (by omega)).mono ?_;rintro e' w4 ⟨bb,s4,hx,rfl,hc,hgb⟩;rw[Hb.out]at hx;obtain⟨rfl,rfl⟩:=Prod.mk.inj hx;have Z4:=Hm (Z3.out.cur hc hgb);have G4:=Hm (Z3.out.z.c.blk hW0 G3.out hgb);clear hx hc hgb Z3 G3;have g0:=cL0 G4.out;have g1:=cL1 G4.out;have g2:=cL2 G4.out;have f0:=zc G4.out 1;obtain⟨w5,hw⟩:∃W',W'=w4.setCell ⟨W.heap.size,1,none⟩ (.int .i64 (Int.tmod (wrap64 (p.v+3)) 8)):=⟨_,rfl⟩;have Z5:=Hm (Lz.opb (i:=1) (v:=.int .i64 (Int.tmod (wrap64 (p.v+3)) 8)) Z4.out Z.out ⟨_,_,G4.out⟩);have G5:=Hm (zq G4.out 1 (.int .i64 (Int.tmod (wrap64 (p.v+3)) 8)))
 simp only[qa,qb,qc]at G5;rw[←hw]at Z5 G5;go_upto_region 35 with fail;rw[←hw];clear hw f0 g0 g1 g2 Z4 G4;have g0:=cL0 G5.out;have g1:=cL1 G5.out;have g2:=cL2 G5.out
 have hrow:w5.ownsRow WB 88 3 (.slice (some ⟨b,0,none⟩) nE c) nE (M.flatMap Po.cells):=by
  have:=Z5.out.o;unfold OwnO zH at this;rw[←HM.out]at this;exact this
 obtain⟨p0,f0⟩:=zk (i:=i*3) hrow ((zm Po.len i M p 0 hp.out (by omega)).trans (show _=some (.int .i64 p.k)from rfl));obtain⟨p1,f1⟩:=zk (i:=i*3+1) hrow ((zm Po.len i M p 1 hp.out (by omega)).trans (show _=some (.int .i64 p.v)from rfl));obtain⟨p2,f2⟩:=zk (i:=i*3+2) hrow ((zm Po.len i M p 2 hp.out (by omega)).trans (show _=some (.string ⟨p.n.toArray⟩)from rfl));clear hrow;have Z9:=Hm (Z5.out.put (p':=⟨p.k,Int.tmod (wrap64 (p.v+3)) 8,p.n⟩) hp.out);go_wp2_with fail;refine hn.out _ _ _ sb ⟨p.k,Int.tmod (wrap64 (p.v+3)) 8,p.n⟩ ?_ Z9.out ?_
 ·rfl
 ·unfold unOp;simp[hk.out,Hb.out]
theorem gb4b {W:World} {gi j i nE c b WB:Nat} {x:Xi} {M:List Po} {p:Po} {Q:Exit→Act→World→Prop} {v1 v2 v8 v9 v12:Value} {r:List Value} (hr:r.length=188) (Z:Hid (Lz B g w0 w W bs D s iv X gi x WB b nE c M)) (hi:i<nE) (hp:Hid (M[i]? =some p)) (hk:Hid (p.k=9)) {sb:DS} (Hb:Hid (D.once s 2=(false,sb)))
  (hn:Hid (∀v12' r' wx s' p',r'.length=188→Lz B g w0 w wx bs D s' iv X gi x WB b nE c (M.set i p')→unOp D 4 p s=(p',s')→Q .normal (Fu g w gi (j:Int) 4 v1 v2 v8 v9 (.slice (some ⟨b,0,none⟩) nE c) (.int .i64 (i:Int)) v12' r') wx)):
  Code.wp Tryz.prog gB Q (Fu g w gi (j:Int) 4 v1 v2 v8 v9 (.slice (some ⟨b,0,none⟩) nE c) (.int .i64 (i:Int)) v12 r) W:=by
 have hM:nE=M.length:=by obtain⟨a',c',e,-⟩:=zh Z.out.o;injection e
 have hrow:W.ownsRow WB 88 3 (.slice (some ⟨b,0,none⟩) nE c) nE (M.flatMap Po.cells):=by
  have:=Z.out.o;unfold OwnO zH at this;rw[←hM]at this;exact this
 obtain⟨p0,-⟩:=zk (i:=i*3) hrow ((zm Po.len i M p 0 hp.out (by omega)).trans (show _=some (.int .i64 p.k)from rfl));obtain⟨p1,-⟩:=zk (i:=i*3+1) hrow ((zm Po.len i M p 1 hp.out (by omega)).trans (show _=some (.int .i64 p.v)from rfl));obtain⟨p2,-⟩:=zk (i:=i*3+2) hrow ((zm Po.len i M p 2 hp.out (by omega)).trans (show _=some (.string ⟨p.n.toArray⟩)from rfl));have i0:(0:Int)≤(i:Int):=by omega
 have il:(i:Int)<(nE:Int):=by omega
 have HM:=Hm hM;have kk:(p.k==9)=true:=by simp[hk.out]
 obtain⟨w3,hw3⟩:∃W',W'=W.alloc (.cells #[.int .i64 p.k,.int .i64 p.v,.string ⟨p.n.toArray⟩] 88):=⟨_,rfl⟩;have hb3:Below W.heap.size W w3:=by rw[hw3];exact zd (Below.refl _ _) _
 have G3:Hid (w3.heap[W.heap.size]? =some (.cells #[.int .i64 p.k,.int .i64 p.v,.string ⟨p.n.toArray⟩] 88)):=by rw[hw3];exact zo _ _
 have Z3:=Hm (Z.out.below hb3);have hW0:=Z.out.z.c.size;clear hb3 hM hrow;revert r;refine @zp 188 _ ?_
 iterate 188 (intro _)
 show Code.wp _ _ _ _ _
 conv=>arg 2;dsimp only[gB,gL,uG,u5,u0,Tryz.f32,Option.getD,sR,sL,cT,cF,bk,lpo]
 conv=>arg 4;dsimp only[Fu]
 go_upto_region 29 with fail;rw[←hw3];clear hw3 p0 p1 p2;have g0:=cL0 G3.out;have g1:=cL1 G3.out;have g2:=cL2 G3.out;go_wp2_with fail;clear g0 g1 g2;refine(xl Z3.out.z.c 2 (by omega) (by omega)).mono ?_;rintro e' w4 ⟨bb,s4,hx,rfl,hc,hgb⟩;rw[Hb.out]at hx;obtain⟨rfl,rfl⟩:=Prod.mk.inj hx;have Z4:=Hm (Z3.out.cur hc hgb);have G4:=Hm (Z3.out.z.c.blk hW0 G3.out hgb);clear hx hc hgb Z3 G3;have g0:=cL0 G4.out;have g1:=cL1 G4.out;have g2:=cL2 G4.out;go_upto_region 35 with fail;clear g0 g1 g2;have g0:=cL0 G4.out;have g1:=cL1 G4.out;have g2:=cL2 G4.out
 have hrow:w4.ownsRow WB 88 3 (.slice (some ⟨b,0,none⟩) nE c) nE (M.flatMap Po.cells):=by
  have:=Z4.out.o;unfold OwnO zH at this;rw[←HM.out]at this;exact this
 obtain⟨p0,f0⟩:=zk (i:=i*3) hrow ((zm Po.len i M p 0 hp.out (by omega)).trans (show _=some (.int .i64 p.k)from rfl));obtain⟨p1,f1⟩:=zk (i:=i*3+1) hrow ((zm Po.len i M p 1 hp.out (by omega)).trans (show _=some (.int .i64 p.v)from rfl));obtain⟨p2,f2⟩:=zk (i:=i*3+2) hrow ((zm Po.len i M p 2 hp.out (by omega)).trans (show _=some (.string ⟨p.n.toArray⟩)from rfl));clear hrow;have Z9:=Hm (Z4.out.put (p':=p) hp.out);go_wp2_with fail;refine hn.out _ _ _ sb p ?_ Z9.out ?_
 ·rfl
 ·unfold unOp;simp[hk.out,Hb.out]
theorem gb4c {W:World} {gi j i nE c b WB:Nat} {x:Xi} {M:List Po} {p:Po} {Q:Exit→Act→World→Prop} {v1 v2 v8 v9 v12:Value} {r:List Value} (hr:r.length=188) (Z:Hid (Lz B g w0 w W bs D s iv X gi x WB b nE c M)) (hi:i<nE) (hp:Hid (M[i]? =some p)) (hk:Hid (p.k≠9))
  (hn:Hid (∀v12' r' wx s' p',r'.length=188→Lz B g w0 w wx bs D s' iv X gi x WB b nE c (M.set i p')→unOp D 4 p s=(p',s')→Q .normal (Fu g w gi (j:Int) 4 v1 v2 v8 v9 (.slice (some ⟨b,0,none⟩) nE c) (.int .i64 (i:Int)) v12' r') wx)):
  Code.wp Tryz.prog gB Q (Fu g w gi (j:Int) 4 v1 v2 v8 v9 (.slice (some ⟨b,0,none⟩) nE c) (.int .i64 (i:Int)) v12 r) W:=by
 have hM:nE=M.length:=by obtain⟨a',c',e,-⟩:=zh Z.out.o;injection e
 have hrow:W.ownsRow WB 88 3 (.slice (some ⟨b,0,none⟩) nE c) nE (M.flatMap Po.cells):=by
  have:=Z.out.o;unfold OwnO zH at this;rw[←hM]at this;exact this
 obtain⟨p0,-⟩:=zk (i:=i*3) hrow ((zm Po.len i M p 0 hp.out (by omega)).trans (show _=some (.int .i64 p.k)from rfl));obtain⟨p1,-⟩:=zk (i:=i*3+1) hrow ((zm Po.len i M p 1 hp.out (by omega)).trans (show _=some (.int .i64 p.v)from rfl));obtain⟨p2,-⟩:=zk (i:=i*3+2) hrow ((zm Po.len i M p 2 hp.out (by omega)).trans (show _=some (.string ⟨p.n.toArray⟩)from rfl));have i0:(0:Int)≤(i:Int):=by omega
 have il:(i:Int)<(nE:Int):=by omega
 have HM:=Hm hM;have kk:(p.k==9)=false:=by simp[hk.out]
 obtain⟨w3,hw3⟩:∃W',W'=W.alloc (.cells #[.int .i64 p.k,.int .i64 p.v,.string ⟨p.n.toArray⟩] 88):=⟨_,rfl⟩;have hb3:Below W.heap.size W w3:=by rw[hw3];exact zd (Below.refl _ _) _
 have G3:Hid (w3.heap[W.heap.size]? =some (.cells #[.int .i64 p.k,.int .i64 p.v,.string ⟨p.n.toArray⟩] 88)):=by rw[hw3];exact zo _ _
 have Z3:=Hm (Z.out.below hb3);have hW0:=Z.out.z.c.size;clear hb3 hM hrow;revert r;refine @zp 188 _ ?_
 iterate 188 (intro _)
 show Code.wp _ _ _ _ _
 conv=>arg 2;dsimp only[gB,gL,uG,u5,u0,Tryz.f32,Option.getD,sR,sL,cT,cF,bk,lpo]
 conv=>arg 4;dsimp only[Fu]
 go_upto_region 29 with fail;rw[←hw3];clear hw3 p0 p1 p2;have g0:=cL0 G3.out;have g1:=cL1 G3.out;have g2:=cL2 G3.out;go_upto_region 35 with fail;clear g0 g1 g2;have g0:=cL0 G3.out;have g1:=cL1 G3.out;have g2:=cL2 G3.out
 have hrow:w3.ownsRow WB 88 3 (.slice (some ⟨b,0,none⟩) nE c) nE (M.flatMap Po.cells):=by
  have:=Z3.out.o;unfold OwnO zH at this;rw[←HM.out]at this;exact this
 obtain⟨p0,f0⟩:=zk (i:=i*3) hrow ((zm Po.len i M p 0 hp.out (by omega)).trans (show _=some (.int .i64 p.k)from rfl));obtain⟨p1,f1⟩:=zk (i:=i*3+1) hrow ((zm Po.len i M p 1 hp.out (by omega)).trans (show _=some (.int .i64 p.v)from rfl));obtain⟨p2,f2⟩:=zk (i:=i*3+2) hrow ((zm Po.len i M p 2 hp.out (by omega)).trans (show _=some (.string ⟨p.n.toArray⟩)from rfl));clear hrow;have Z9:=Hm (Z3.out.put (p':=p) hp.out);go_wp2_with fail;refine hn.out _ _ _ s p ?_ Z9.out ?_
 ·rfl
 ·unfold unOp;simp[hk.out]
theorem gb5a {W:World} {gi j i nE c b WB:Nat} {x:Xi} {M:List Po} {p:Po} {Q:Exit→Act→World→Prop} {v1 v2 v8 v9 v12:Value} {r:List Value} (hr:r.length=188) (Z:Hid (Lz B g w0 w W bs D s iv X gi x WB b nE c M)) (hi:i<nE) (hp:Hid (M[i]? =some p)) (HLO:Hid (Yf p=true)) {sb:DS} (Hb:Hid (D.once s 3=(true,sb)))
  (hn:Hid (∀v12' r' wx s' p',r'.length=188→Lz B g w0 w wx bs D s' iv X gi x WB b nE c (M.set i p')→unOp D 5 p s=(p',s')→Q .normal (Fu g w gi (j:Int) 5 v1 v2 v8 v9 (.slice (some ⟨b,0,none⟩) nE c) (.int .i64 (i:Int)) v12' r') wx)):
  Code.wp Tryz.prog gB Q (Fu g w gi (j:Int) 5 v1 v2 v8 v9 (.slice (some ⟨b,0,none⟩) nE c) (.int .i64 (i:Int)) v12 r) W:=by
 have hM:nE=M.length:=by obtain⟨a',c',e,-⟩:=zh Z.out.o;injection e
 have hrow:W.ownsRow WB 88 3 (.slice (some ⟨b,0,none⟩) nE c) nE (M.flatMap Po.cells):=by
  have:=Z.out.o;unfold OwnO zH at this;rw[←hM]at this;exact this
 obtain⟨p0,-⟩:=zk (i:=i*3) hrow ((zm Po.len i M p 0 hp.out (by omega)).trans (show _=some (.int .i64 p.k)from rfl));obtain⟨p1,-⟩:=zk (i:=i*3+1) hrow ((zm Po.len i M p 1 hp.out (by omega)).trans (show _=some (.int .i64 p.v)from rfl));obtain⟨p2,-⟩:=zk (i:=i*3+2) hrow ((zm Po.len i M p 2 hp.out (by omega)).trans (show _=some (.string ⟨p.n.toArray⟩)from rfl));have i0:(0:Int)≤(i:Int):=by omega
 have il:(i:Int)<(nE:Int):=by omega
 have HM:=Hm hM;obtain⟨w3,hw3⟩:∃W',W'=W.alloc (.cells #[.int .i64 p.k,.int .i64 p.v,.string ⟨p.n.toArray⟩] 88):=⟨_,rfl⟩;have hb3:Below W.heap.size W w3:=by rw[hw3];exact zd (Below.refl _ _) _
 have G3:Hid (w3.heap[W.heap.size]? =some (.cells #[.int .i64 p.k,.int .i64 p.v,.string ⟨p.n.toArray⟩] 88)):=by rw[hw3];exact zo _ _
 have Z3:=Hm (Z.out.below hb3);have hW0:=Z.out.z.c.size;clear hb3 hM hrow;revert r;refine @zp 188 _ ?_
 iterate 188 (intro _)
 show Code.wp _ _ _ _ _
 conv=>arg 2;dsimp only[gB,gL,uG,u5,u0,Tryz.f32,Option.getD,sR,sL,cT,cF,bk,lpo]
 conv=>arg 4;dsimp only[Fu]
 go_upto_region 29 with fail;rw[←hw3];clear hw3 p0 p1 p2;have g0:=cL0 G3.out;have g1:=cL1 G3.out;have g2:=cL2 G3.out;go_wp2_with fail;clear g0 g1 g2;refine(arD p _).mono ?_;rintro e' w4 ⟨za,rfl,hza,hb⟩;have Z4:=Hm (Z3.out.below hb);have G4:=Hm (zg G3.out hb);rw[HLO.out]at hza;clear hb Z3 G3;go_wp2_with fail;refine(xl Z4.out.z.c 3 (by omega) (by omega)).mono ?_;rintro e' w5 ⟨bb,s5,hx,rfl,hc,hgb⟩;rw[Hb.out]at hx;obtain⟨rfl,rfl⟩:=Prod.mk.inj hx;have Z5:=Hm (Z4.out.cur hc hgb);have G5:=Hm (Z4.out.z.c.blk hW0 G4.out hgb);clear hx hc hgb Z4 G4;go_wp2_with fail;refine(yq Z5.out.z.c 6 (by omega) (by omega)).mono ?_;rintro e' w6 ⟨u,s6,hx,lu,rfl,hc,hgb⟩;have Qu:=Hm hx;have Z6:=Hm (Z5.out.cur hc hgb);have G6:=Hm (Z5.out.z.c.blk hW0 G5.out hgb);clear hx hc hgb Z5 G5;go_wp2_with fail
 refine(Vs u _).mono ?_;rintro e' w7 ⟨rfl,rfl⟩;obtain⟨nm,hnm⟩:∃nm,nm=ZJ u:=⟨_,rfl⟩;rw[←hnm];have HNM:=Hm hnm;have Z7:=Z6;have G7:=G6;clear hnm Z6 G6;have g0:=cL0 G7.out;have g1:=cL1 G7.out;have g2:=cL2 G7.out;have f0:=zc G7.out 0;have f1:=zc G7.out 1;have f2:=zc G7.out 2;obtain⟨w8,hw⟩:∃W',W'=(((w7.setCell ⟨W.heap.size,0,none⟩ (.int .i64 2)).setCell ⟨W.heap.size,1,none⟩ (.int .i64 0)).setCell ⟨W.heap.size,2,none⟩ (.string ⟨nm.toArray⟩)):=⟨_,rfl⟩
 have Z8:Hid (Lz B g w0 w w8 bs D s6 iv X gi x WB b nE c M):=by
  rw[hw];exact Ys (p:=fun U=>Lz B g w0 w U bs D s6 iv X gi x WB b nE c M) (fun U i v hU hz=>Lz.opb hz Z.out hU) ⟨_,_,G7.out⟩ Z7.out _ _ _ _ _ _
 have G8:Hid (w8.heap[W.heap.size]? =some (.cells #[.int .i64 2,.int .i64 0,.string ⟨nm.toArray⟩] 88)):=by
  have h1:=zq (zq (zq G7.out 0 (.int .i64 2)) 1 (.int .i64 0)) 2 (.string ⟨nm.toArray⟩);simp only[qa,qb,qc]at h1;rw[hw];exact h1
 go_upto_region 35 with fail;rw[←hw];clear hw f0 f1 f2 g0 g1 g2 Z7 G7;have g0:=cL0 G8.out;have g1:=cL1 G8.out;have g2:=cL2 G8.out
 have hrow:w8.ownsRow WB 88 3 (.slice (some ⟨b,0,none⟩) nE c) nE (M.flatMap Po.cells):=by
  have:=Z8.out.o;unfold OwnO zH at this;rw[←HM.out]at this;exact this
 obtain⟨p0,f0⟩:=zk (i:=i*3) hrow ((zm Po.len i M p 0 hp.out (by omega)).trans (show _=some (.int .i64 p.k)from rfl));obtain⟨p1,f1⟩:=zk (i:=i*3+1) hrow ((zm Po.len i M p 1 hp.out (by omega)).trans (show _=some (.int .i64 p.v)from rfl));obtain⟨p2,f2⟩:=zk (i:=i*3+2) hrow ((zm Po.len i M p 2 hp.out (by omega)).trans (show _=some (.string ⟨p.n.toArray⟩)from rfl));clear hrow;have Z9:=Hm (Z8.out.put (p':=⟨2,0,nm⟩) hp.out);go_wp2_with fail;refine hn.out _ _ _ s6 ⟨2,0,nm⟩ ?_ Z9.out ?_
 ·rfl
 ·unfold unOp;simp[HLO.out,Hb.out,Qu.out,HNM.out]
theorem gb5b {W:World} {gi j i nE c b WB:Nat} {x:Xi} {M:List Po} {p:Po} {Q:Exit→Act→World→Prop} {v1 v2 v8 v9 v12:Value} {r:List Value} (hr:r.length=188) (Z:Hid (Lz B g w0 w W bs D s iv X gi x WB b nE c M)) (hi:i<nE) (hp:Hid (M[i]? =some p)) (HLO:Hid (Yf p=true)) {sb:DS} (Hb:Hid (D.once s 3=(false,sb)))
  (hn:Hid (∀v12' r' wx s' p',r'.length=188→Lz B g w0 w wx bs D s' iv X gi x WB b nE c (M.set i p')→unOp D 5 p s=(p',s')→Q .normal (Fu g w gi (j:Int) 5 v1 v2 v8 v9 (.slice (some ⟨b,0,none⟩) nE c) (.int .i64 (i:Int)) v12' r') wx)):
  Code.wp Tryz.prog gB Q (Fu g w gi (j:Int) 5 v1 v2 v8 v9 (.slice (some ⟨b,0,none⟩) nE c) (.int .i64 (i:Int)) v12 r) W:=by
 have hM:nE=M.length:=by obtain⟨a',c',e,-⟩:=zh Z.out.o;injection e
 have hrow:W.ownsRow WB 88 3 (.slice (some ⟨b,0,none⟩) nE c) nE (M.flatMap Po.cells):=by
  have:=Z.out.o;unfold OwnO zH at this;rw[←hM]at this;exact this
 obtain⟨p0,-⟩:=zk (i:=i*3) hrow ((zm Po.len i M p 0 hp.out (by omega)).trans (show _=some (.int .i64 p.k)from rfl));obtain⟨p1,-⟩:=zk (i:=i*3+1) hrow ((zm Po.len i M p 1 hp.out (by omega)).trans (show _=some (.int .i64 p.v)from rfl));obtain⟨p2,-⟩:=zk (i:=i*3+2) hrow ((zm Po.len i M p 2 hp.out (by omega)).trans (show _=some (.string ⟨p.n.toArray⟩)from rfl));have i0:(0:Int)≤(i:Int):=by omega
 have il:(i:Int)<(nE:Int):=by omega
 have HM:=Hm hM;obtain⟨w3,hw3⟩:∃W',W'=W.alloc (.cells #[.int .i64 p.k,.int .i64 p.v,.string ⟨p.n.toArray⟩] 88):=⟨_,rfl⟩;have hb3:Below W.heap.size W w3:=by rw[hw3];exact zd (Below.refl _ _) _
 have G3:Hid (w3.heap[W.heap.size]? =some (.cells #[.int .i64 p.k,.int .i64 p.v,.string ⟨p.n.toArray⟩] 88)):=by rw[hw3];exact zo _ _
 have Z3:=Hm (Z.out.below hb3);have hW0:=Z.out.z.c.size;clear hb3 hM hrow;revert r;refine @zp 188 _ ?_
 iterate 188 (intro _)
 show Code.wp _ _ _ _ _
 conv=>arg 2;dsimp only[gB,gL,uG,u5,u0,Tryz.f32,Option.getD,sR,sL,cT,cF,bk,lpo]
 conv=>arg 4;dsimp only[Fu]
 go_upto_region 29 with fail;rw[←hw3];clear hw3 p0 p1 p2;have g0:=cL0 G3.out;have g1:=cL1 G3.out;have g2:=cL2 G3.out;go_wp2_with fail;clear g0 g1 g2;refine(arD p _).mono ?_;rintro e' w4 ⟨za,rfl,hza,hb⟩;have Z4:=Hm (Z3.out.below hb);have G4:=Hm (zg G3.out hb);rw[HLO.out]at hza;clear hb Z3 G3;go_wp2_with fail;refine(xl Z4.out.z.c 3 (by omega) (by omega)).mono ?_;rintro e' w5 ⟨bb,s5,hx,rfl,hc,hgb⟩;rw[Hb.out]at hx;obtain⟨rfl,rfl⟩:=Prod.mk.inj hx;have Z5:=Hm (Z4.out.cur hc hgb);have G5:=Hm (Z4.out.z.c.blk hW0 G4.out hgb);clear hx hc hgb Z4 G4;have g0:=cL0 G5.out;have g1:=cL1 G5.out;have g2:=cL2 G5.out;go_upto_region 35 with fail;clear g0 g1 g2;have g0:=cL0 G5.out;have g1:=cL1 G5.out;have g2:=cL2 G5.out
 have hrow:w5.ownsRow WB 88 3 (.slice (some ⟨b,0,none⟩) nE c) nE (M.flatMap Po.cells):=by
  have:=Z5.out.o;unfold OwnO zH at this;rw[←HM.out]at this;exact this
 obtain⟨p0,f0⟩:=zk (i:=i*3) hrow ((zm Po.len i M p 0 hp.out (by omega)).trans (show _=some (.int .i64 p.k)from rfl));obtain⟨p1,f1⟩:=zk (i:=i*3+1) hrow ((zm Po.len i M p 1 hp.out (by omega)).trans (show _=some (.int .i64 p.v)from rfl));obtain⟨p2,f2⟩:=zk (i:=i*3+2) hrow ((zm Po.len i M p 2 hp.out (by omega)).trans (show _=some (.string ⟨p.n.toArray⟩)from rfl));clear hrow;have Z9:=Hm (Z5.out.put (p':=p) hp.out);go_wp2_with fail;refine hn.out _ _ _ sb p ?_ Z9.out ?_
 ·rfl
 ·unfold unOp;simp[HLO.out,Hb.out]
theorem gb5c {W:World} {gi j i nE c b WB:Nat} {x:Xi} {M:List Po} {p:Po} {Q:Exit→Act→World→Prop} {v1 v2 v8 v9 v12:Value} {r:List Value} (hr:r.length=188) (Z:Hid (Lz B g w0 w W bs D s iv X gi x WB b nE c M)) (hi:i<nE) (hp:Hid (M[i]? =some p)) (HLO:Hid (Yf p=false))
  (hn:Hid (∀v12' r' wx s' p',r'.length=188→Lz B g w0 w wx bs D s' iv X gi x WB b nE c (M.set i p')→unOp D 5 p s=(p',s')→Q .normal (Fu g w gi (j:Int) 5 v1 v2 v8 v9 (.slice (some ⟨b,0,none⟩) nE c) (.int .i64 (i:Int)) v12' r') wx)):
  Code.wp Tryz.prog gB Q (Fu g w gi (j:Int) 5 v1 v2 v8 v9 (.slice (some ⟨b,0,none⟩) nE c) (.int .i64 (i:Int)) v12 r) W:=by
 have hM:nE=M.length:=by obtain⟨a',c',e,-⟩:=zh Z.out.o;injection e
 have hrow:W.ownsRow WB 88 3 (.slice (some ⟨b,0,none⟩) nE c) nE (M.flatMap Po.cells):=by
  have:=Z.out.o;unfold OwnO zH at this;rw[←hM]at this;exact this
 obtain⟨p0,-⟩:=zk (i:=i*3) hrow ((zm Po.len i M p 0 hp.out (by omega)).trans (show _=some (.int .i64 p.k)from rfl));obtain⟨p1,-⟩:=zk (i:=i*3+1) hrow ((zm Po.len i M p 1 hp.out (by omega)).trans (show _=some (.int .i64 p.v)from rfl));obtain⟨p2,-⟩:=zk (i:=i*3+2) hrow ((zm Po.len i M p 2 hp.out (by omega)).trans (show _=some (.string ⟨p.n.toArray⟩)from rfl));have i0:(0:Int)≤(i:Int):=by omega
 have il:(i:Int)<(nE:Int):=by omega
 have HM:=Hm hM;obtain⟨w3,hw3⟩:∃W',W'=W.alloc (.cells #[.int .i64 p.k,.int .i64 p.v,.string ⟨p.n.toArray⟩] 88):=⟨_,rfl⟩;have hb3:Below W.heap.size W w3:=by rw[hw3];exact zd (Below.refl _ _) _
 have G3:Hid (w3.heap[W.heap.size]? =some (.cells #[.int .i64 p.k,.int .i64 p.v,.string ⟨p.n.toArray⟩] 88)):=by rw[hw3];exact zo _ _
 have Z3:=Hm (Z.out.below hb3);have hW0:=Z.out.z.c.size;clear hb3 hM hrow;revert r;refine @zp 188 _ ?_
 iterate 188 (intro _)
 show Code.wp _ _ _ _ _
 conv=>arg 2;dsimp only[gB,gL,uG,u5,u0,Tryz.f32,Option.getD,sR,sL,cT,cF,bk,lpo]
 conv=>arg 4;dsimp only[Fu]
 go_upto_region 29 with fail;rw[←hw3];clear hw3 p0 p1 p2;have g0:=cL0 G3.out;have g1:=cL1 G3.out;have g2:=cL2 G3.out;go_wp2_with fail;clear g0 g1 g2;refine(arD p _).mono ?_;rintro e' w4 ⟨za,rfl,hza,hb⟩;have Z4:=Hm (Z3.out.below hb);have G4:=Hm (zg G3.out hb);rw[HLO.out]at hza;clear hb Z3 G3;have g0:=cL0 G4.out;have g1:=cL1 G4.out;have g2:=cL2 G4.out;go_upto_region 35 with fail;clear g0 g1 g2;have g0:=cL0 G4.out;have g1:=cL1 G4.out;have g2:=cL2 G4.out
 have hrow:w4.ownsRow WB 88 3 (.slice (some ⟨b,0,none⟩) nE c) nE (M.flatMap Po.cells):=by
  have:=Z4.out.o;unfold OwnO zH at this;rw[←HM.out]at this;exact this
 obtain⟨p0,f0⟩:=zk (i:=i*3) hrow ((zm Po.len i M p 0 hp.out (by omega)).trans (show _=some (.int .i64 p.k)from rfl));obtain⟨p1,f1⟩:=zk (i:=i*3+1) hrow ((zm Po.len i M p 1 hp.out (by omega)).trans (show _=some (.int .i64 p.v)from rfl));obtain⟨p2,f2⟩:=zk (i:=i*3+2) hrow ((zm Po.len i M p 2 hp.out (by omega)).trans (show _=some (.string ⟨p.n.toArray⟩)from rfl));clear hrow;have Z9:=Hm (Z4.out.put (p':=p) hp.out);go_wp2_with fail;refine hn.out _ _ _ s p ?_ Z9.out ?_
 ·rfl
 ·unfold unOp;simp[HLO.out]
theorem gb6 {W:World} {gi j i nE c b WB:Nat} {x:Xi} {M:List Po} {p:Po} {Q:Exit→Act→World→Prop} {v1 v2 v8 v9 v12:Value} {r:List Value} (hr:r.length=188) (Z:Hid (Lz B g w0 w W bs D s iv X gi x WB b nE c M)) (hi:i<nE) (hp:Hid (M[i]? =some p))
  (hn:Hid (∀v12' r' wx s' p',r'.length=188→Lz B g w0 w wx bs D s' iv X gi x WB b nE c (M.set i p')→unOp D 6 p s=(p',s')→Q .normal (Fu g w gi (j:Int) 6 v1 v2 v8 v9 (.slice (some ⟨b,0,none⟩) nE c) (.int .i64 (i:Int)) v12' r') wx)):
  Code.wp Tryz.prog gB Q (Fu g w gi (j:Int) 6 v1 v2 v8 v9 (.slice (some ⟨b,0,none⟩) nE c) (.int .i64 (i:Int)) v12 r) W:=by
 have hM:nE=M.length:=by obtain⟨a',c',e,-⟩:=zh Z.out.o;injection e
 have hrow:W.ownsRow WB 88 3 (.slice (some ⟨b,0,none⟩) nE c) nE (M.flatMap Po.cells):=by
  have:=Z.out.o;unfold OwnO zH at this;rw[←hM]at this;exact this
 obtain⟨p0,-⟩:=zk (i:=i*3) hrow ((zm Po.len i M p 0 hp.out (by omega)).trans (show _=some (.int .i64 p.k)from rfl));obtain⟨p1,-⟩:=zk (i:=i*3+1) hrow ((zm Po.len i M p 1 hp.out (by omega)).trans (show _=some (.int .i64 p.v)from rfl));obtain⟨p2,-⟩:=zk (i:=i*3+2) hrow ((zm Po.len i M p 2 hp.out (by omega)).trans (show _=some (.string ⟨p.n.toArray⟩)from rfl));have i0:(0:Int)≤(i:Int):=by omega
 have il:(i:Int)<(nE:Int):=by omega
 have HM:=Hm hM;obtain⟨w3,hw3⟩:∃W',W'=W.alloc (.cells #[.int .i64 p.k,.int .i64 p.v,.string ⟨p.n.toArray⟩] 88):=⟨_,rfl⟩;have hb3:Below W.heap.size W w3:=by rw[hw3];exact zd (Below.refl _ _) _
 have G3:Hid (w3.heap[W.heap.size]? =some (.cells #[.int .i64 p.k,.int .i64 p.v,.string ⟨p.n.toArray⟩] 88)):=by rw[hw3];exact zo _ _
 have Z3:=Hm (Z.out.below hb3);have hW0:=Z.out.z.c.size;clear hb3 hM hrow;revert r;refine @zp 188 _ ?_
 iterate 188 (intro _)
 show Code.wp _ _ _ _ _
 conv=>arg 2;dsimp only[gB,gL,uG,u5,u0,Tryz.f32,Option.getD,sR,sL,cT,cF,bk,lpo]
 conv=>arg 4;dsimp only[Fu]
 go_upto_region 29 with fail;rw[←hw3];clear hw3 p0 p1 p2;have g0:=cL0 G3.out;have g1:=cL1 G3.out;have g2:=cL2 G3.out;go_upto_region 35 with fail;clear g0 g1 g2;have g0:=cL0 G3.out;have g1:=cL1 G3.out;have g2:=cL2 G3.out
 have hrow:w3.ownsRow WB 88 3 (.slice (some ⟨b,0,none⟩) nE c) nE (M.flatMap Po.cells):=by
  have:=Z3.out.o;unfold OwnO zH at this;rw[←HM.out]at this;exact this
 obtain⟨p0,f0⟩:=zk (i:=i*3) hrow ((zm Po.len i M p 0 hp.out (by omega)).trans (show _=some (.int .i64 p.k)from rfl));obtain⟨p1,f1⟩:=zk (i:=i*3+1) hrow ((zm Po.len i M p 1 hp.out (by omega)).trans (show _=some (.int .i64 p.v)from rfl));obtain⟨p2,f2⟩:=zk (i:=i*3+2) hrow ((zm Po.len i M p 2 hp.out (by omega)).trans (show _=some (.string ⟨p.n.toArray⟩)from rfl));clear hrow;have Z9:=Hm (Z3.out.put (p':=p) hp.out);go_wp2_with fail;refine hn.out _ _ _ s p ?_ Z9.out ?_
 ·rfl
 ·unfold unOp;simp
theorem gb7 {W:World} {gi j i nE c b WB:Nat} {x:Xi} {M:List Po} {p:Po} {Q:Exit→Act→World→Prop} {v1 v2 v8 v9 v12:Value} {r:List Value} (hr:r.length=188) (Z:Hid (Lz B g w0 w W bs D s iv X gi x WB b nE c M)) (hi:i<nE) (hp:Hid (M[i]? =some p))
  (hn:Hid (∀v12' r' wx s' p',r'.length=188→Lz B g w0 w wx bs D s' iv X gi x WB b nE c (M.set i p')→unOp D 7 p s=(p',s')→Q .normal (Fu g w gi (j:Int) 7 v1 v2 v8 v9 (.slice (some ⟨b,0,none⟩) nE c) (.int .i64 (i:Int)) v12' r') wx)):
  Code.wp Tryz.prog gB Q (Fu g w gi (j:Int) 7 v1 v2 v8 v9 (.slice (some ⟨b,0,none⟩) nE c) (.int .i64 (i:Int)) v12 r) W:=by
 have hM:nE=M.length:=by obtain⟨a',c',e,-⟩:=zh Z.out.o;injection e
 have hrow:W.ownsRow WB 88 3 (.slice (some ⟨b,0,none⟩) nE c) nE (M.flatMap Po.cells):=by
  have:=Z.out.o;unfold OwnO zH at this;rw[←hM]at this;exact this
 obtain⟨p0,-⟩:=zk (i:=i*3) hrow ((zm Po.len i M p 0 hp.out (by omega)).trans (show _=some (.int .i64 p.k)from rfl));obtain⟨p1,-⟩:=zk (i:=i*3+1) hrow ((zm Po.len i M p 1 hp.out (by omega)).trans (show _=some (.int .i64 p.v)from rfl));obtain⟨p2,-⟩:=zk (i:=i*3+2) hrow ((zm Po.len i M p 2 hp.out (by omega)).trans (show _=some (.string ⟨p.n.toArray⟩)from rfl));have i0:(0:Int)≤(i:Int):=by omega
 have il:(i:Int)<(nE:Int):=by omega
 have HM:=Hm hM;obtain⟨w3,hw3⟩:∃W',W'=W.alloc (.cells #[.int .i64 p.k,.int .i64 p.v,.string ⟨p.n.toArray⟩] 88):=⟨_,rfl⟩;have hb3:Below W.heap.size W w3:=by rw[hw3];exact zd (Below.refl _ _) _
 have G3:Hid (w3.heap[W.heap.size]? =some (.cells #[.int .i64 p.k,.int .i64 p.v,.string ⟨p.n.toArray⟩] 88)):=by rw[hw3];exact zo _ _
 have Z3:=Hm (Z.out.below hb3);have hW0:=Z.out.z.c.size;clear hb3 hM hrow;revert r;refine @zp 188 _ ?_
 iterate 188 (intro _)
 show Code.wp _ _ _ _ _
 conv=>arg 2;dsimp only[gB,gL,uG,u5,u0,Tryz.f32,Option.getD,sR,sL,cT,cF,bk,lpo]
 conv=>arg 4;dsimp only[Fu]
 go_upto_region 29 with fail;rw[←hw3];clear hw3 p0 p1 p2;have g0:=cL0 G3.out;have g1:=cL1 G3.out;have g2:=cL2 G3.out;go_upto_region 35 with fail;clear g0 g1 g2;have g0:=cL0 G3.out;have g1:=cL1 G3.out;have g2:=cL2 G3.out
 have hrow:w3.ownsRow WB 88 3 (.slice (some ⟨b,0,none⟩) nE c) nE (M.flatMap Po.cells):=by
  have:=Z3.out.o;unfold OwnO zH at this;rw[←HM.out]at this;exact this
 obtain⟨p0,f0⟩:=zk (i:=i*3) hrow ((zm Po.len i M p 0 hp.out (by omega)).trans (show _=some (.int .i64 p.k)from rfl));obtain⟨p1,f1⟩:=zk (i:=i*3+1) hrow ((zm Po.len i M p 1 hp.out (by omega)).trans (show _=some (.int .i64 p.v)from rfl));obtain⟨p2,f2⟩:=zk (i:=i*3+2) hrow ((zm Po.len i M p 2 hp.out (by omega)).trans (show _=some (.string ⟨p.n.toArray⟩)from rfl));clear hrow;have Z9:=Hm (Z3.out.put (p':=p) hp.out);go_wp2_with fail;refine hn.out _ _ _ s p ?_ Z9.out ?_
 ·rfl
 ·unfold unOp;simp
end Go.Proofs.YtbkajklninmhiaaGreatDoor.Dq
