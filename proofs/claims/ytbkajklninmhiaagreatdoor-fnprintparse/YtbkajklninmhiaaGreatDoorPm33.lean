import Derived.Test.YtbkajklninmhiaaGreatDoorPm32
set_option maxHeartbeats 6400000
set_option maxRecDepth 1000000
set_option linter.unusedVariables false
set_option linter.unusedSimpArgs false
open Nat renaming le_refl → qp
namespace Go.Proofs.YtbkajklninmhiaaGreatDoor.Dq
open Go Go.RowKit Mem Syn Parse Par Draw
attribute [local go_sem ↓] Go.wp_at_zero Go.wp_at_succ
variable {B g:Nat} {w0 w w':World} {bs:List UInt8} {D:Sr} {s s':DS}
variable {iv:Value} {X:List Xi}
theorem gCopy {W:World} {gi j nE qE nF qF bE:Nat} {aF:Option Addr} {im:Im} {k:Int} {Q:Exit→Act→World→Prop} {v1 v2 v8 v9 v10 v11 v12:Value} {r:List Value} (hr:r.length=188) (Z:Hid (Sz B g w0 w W bs D s iv X gi ⟨im,.slice (some ⟨bE,0,none⟩) nE qE,.slice aF nF qF⟩)) (hnE:nE=im.E.length) (hE0:0<nE) (hE3:nE≤3000)
  (hn:Hid (∀b c r' wx,r'.length=188→Lz B g w0 w wx bs D s iv X gi ⟨im,.slice (some ⟨bE,0,none⟩) nE qE,.slice aF nF qF⟩ W.heap.size b nE c im.E→Q .normal (Fu g w gi (j:Int) k v1 v2 v8 v9 (.slice (some ⟨b,0,none⟩) nE c) v11 v12 r') wx)):
  Code.wp Tryz.prog (sL uG) Q (Fu g w gi (j:Int) k v1 v2 v8 v9 v10 v11 v12 r) W:=by
 obtain⟨i0,hi,hz0,hz1,hz2⟩:=info_parts yl;have HNE:=Hm hnE;have hb0:Below W.heap.size W (W.alloc (.cells #[] 88)):=zd (Below.refl _ _) _;have B0:=Hm hb0;have R0:Hid ((W.alloc (.cells #[] 88)).ownsRow W.heap.size 88 3 (.slice (some ⟨W.heap.size,0,none⟩) 0 0) 0 (zH [])):=XV W;have z0:W.heap.size≤(W.alloc (.cells #[] 88)).heap.size:=hb0.size
 have newsA:∀j u,(zH im.E)[j]? =some u→(W.alloc (.cells #[] 88)).cell? ((⟨bE,0,none⟩:Addr).add j)=some u:=by
  have:=Z.out.e.below hb0;dsimp only at this;rw[hnE]at this;exact YC this
 have hlen:(zH im.E).length=nE*3:=by rw[yo,hnE]
 have y1:=(zb (zg Z.out.it hb0) 2).trans (show _=some (.slice (some ⟨bE,0,none⟩) nE qE)from rfl);clear hnE hb0;revert r;refine @zp 188 _ ?_
 iterate 188 (intro _)
 show Code.wp _ _ _ _ _
 conv=>arg 2;dsimp only[uG,u5,u0,Tryz.f32,Option.getD,sR,sL,cT,cF,bk,lpo]
 conv=>arg 4;dsimp only[Fu]
 go_wp2_with (at_builtin;go_must (refine wpList_append_own_at _ rfl _ _ 36 rfl W.heap.size 88 i0 (.agg #[.int .i64 0,.int .i64 0,.string ⟨#[]⟩]) 3 32 Tryz.underlying36 hi hz0 hz1 hz2 rfl (by decide) _ 0 (zH []) rfl R0.out ⟨bE,0,none⟩ nE qE (zH im.E) rfl hlen newsA (Yb im.E) (by unfold maxLen;omega) (by omega) z0 ?_));clear y1;intro v8' w1 ho hgr _ _;have hb1:=yk B0.out R0.out (qp _) z0 hgr
 have O1:Hid (OwnO W.heap.size w1 v8' im.E):=by
  unfold Hid OwnO;rw[←HNE.out];simpa[zH]using ho
 have Z1:=Hm (Z.out.below hb1);obtain⟨b8,c8,rfl,hb8,-⟩:=OwnO.some' O1.out (by rw[←HNE.out];exact hE0);rw[←HNE.out]at O1 ⊢;have L1:Hid (Lz B g w0 w w1 bs D s iv X gi ⟨im,.slice (some ⟨bE,0,none⟩) nE qE,.slice aF nF qF⟩ W.heap.size b8 nE c8 im.E):=⟨Z1.out,O1.out,hb8,Z.out.c.size,fun y hy=>⟨zM (Z.out.p.e y hy) hb8,zM (Z.out.p.f y hy) hb8⟩,zM Z.out.e hb8,zM Z.out.f hb8⟩;clear ho hgr hb1 newsA hlen R0 B0 z0;refine Hid.out ?_;refine Lib.hid ?_;go_wp2_with fail;refine hn.out _ _ _ _ ?_ L1.out;rfl
theorem gZero {W:World} {gi j:Nat} {k:Int} {Q:Exit→Act→World→Prop} {v1 v2 v8 v9 v10 v11 v12:Value} {r:List Value} (hr:r.length=188)
  (hn:Hid (∀r',r'.length=188→Q .normal (Fu g w gi (j:Int) k v1 v2 v8 v9 v10 (.int .i64 0) v12 r') W)):
  Code.wp Tryz.prog (sL (sL (sR uG))) Q (Fu g w gi (j:Int) k v1 v2 v8 v9 v10 v11 v12 r) W:=by
 revert r;refine @zp 188 _ ?_
 iterate 188 (intro _)
 show Code.wp _ _ _ _ _
 conv=>arg 2;dsimp only[uG,u5,u0,Tryz.f32,Option.getD,sR,sL,cT,cF,bk,lpo]
 conv=>arg 4;dsimp only[Fu]
 go_wp2_with fail;refine hn.out _ ?_;rfl
theorem gTestA {W:World} {gi j nE c b i:Nat} {k:Int} {Q:Exit→Act→World→Prop} {v1 v2 v8 v9 v12:Value} {r:List Value} (hr:r.length=188) (hi:i<nE)
  (hn:Hid (∀r',r'.length=188→Q .normal (Fu g w gi (j:Int) k v1 v2 v8 v9 (.slice (some ⟨b,0,none⟩) nE c) (.int .i64 (i:Int)) v12 r') W)):
  Code.wp Tryz.prog (sL gL) Q (Fu g w gi (j:Int) k v1 v2 v8 v9 (.slice (some ⟨b,0,none⟩) nE c) (.int .i64 (i:Int)) v12 r) W:=by
 have k0:(i:Int)<(nE:Int):=by omega
 revert r;refine @zp 188 _ ?_
 iterate 188 (intro _)
 show Code.wp _ _ _ _ _
 conv=>arg 2;dsimp only[gL,uG,u5,u0,Tryz.f32,Option.getD,sR,sL,cT,cF,bk,lpo]
 conv=>arg 4;dsimp only[Fu]
 go_wp2_with fail;refine hn.out _ ?_;rfl
theorem gTestB {W:World} {gi j nE c b i:Nat} {k:Int} {Q:Exit→Act→World→Prop} {v1 v2 v8 v9 v12:Value} {r:List Value} (hr:r.length=188) (hi:nE≤i)
  (hn:Hid (∀r',r'.length=188→Q (.exit 0) (Fu g w gi (j:Int) k v1 v2 v8 v9 (.slice (some ⟨b,0,none⟩) nE c) (.int .i64 (i:Int)) v12 r') W)):
  Code.wp Tryz.prog (sL gL) Q (Fu g w gi (j:Int) k v1 v2 v8 v9 (.slice (some ⟨b,0,none⟩) nE c) (.int .i64 (i:Int)) v12 r) W:=by
 have k0:decide ((i:Int)<(nE:Int))=false:=by simp;omega
 have k1:¬i<nE:=by omega
 have k2:decide (i<nE)=false:=by simp;omega
 revert r;refine @zp 188 _ ?_
 iterate 188 (intro _)
 show Code.wp _ _ _ _ _
 conv=>arg 2;dsimp only[gL,uG,u5,u0,Tryz.f32,Option.getD,sR,sL,cT,cF,bk,lpo]
 conv=>arg 4;dsimp only[Fu]
 go_wp2_with fail;refine hn.out _ ?_;rfl
theorem gInc {W:World} {gi j i:Nat} {k:Int} {Q:Exit→Act→World→Prop} {v1 v2 v8 v9 v10 v12:Value} {r:List Value} (hr:r.length=188) (hi:i≤100000)
  (hn:Hid (∀r',r'.length=188→Q .normal (Fu g w gi (j:Int) k v1 v2 v8 v9 v10 (.int .i64 ((i+1:Nat):Int)) v12 r') W)):
  Code.wp Tryz.prog (sR (sR gL)) Q (Fu g w gi (j:Int) k v1 v2 v8 v9 v10 (.int .i64 (i:Int)) v12 r) W:=by
 have e1:IntKind.i64.wrap ((i:Int)+1)=((i+1:Nat):Int):=by rw[IntKind.wrap_i64];omega
 revert r;refine @zp 188 _ ?_
 iterate 188 (intro _)
 show Code.wp _ _ _ _ _
 conv=>arg 2;dsimp only[gL,uG,u5,u0,Tryz.f32,Option.getD,sR,sL,cT,cF,bk,lpo]
 conv=>arg 4;dsimp only[Fu]
 go_wp2_with fail;refine hn.out _ ?_;rfl
theorem Uj {u v:Value} {b:Nat} (hu:u.ownBlock≠some b) (hv:v.ownBlock=some b):Ap u v:=fun b' h1 h2=>by
 rw[hv]at h2;injection h2 with h2;subst h2;exact absurd h1 hu
theorem Lz.newE {W:World} {gi WB b nE c:Nat} {x:Xi} {M:List Po} (h:Lz B g w0 w W bs D s iv X gi x WB b nE c M) (ap:∀z∈X,Ap z.e x.f∧Ap z.f x.f) (l3:x.im.F.length≤3000) (hM:M.length≤3000):Uz B g w0 w (W.setCell ⟨gi,2,none⟩ (.slice (some ⟨b,0,none⟩) nE c)) bs D s iv X gi ⟨⟨x.im.k,x.im.n,M,x.im.F,x.im.K,x.im.lo,x.im.hi⟩,.slice (some ⟨b,0,none⟩) nE c,x.f⟩:=
 ⟨h.z.set rfl (h.o.low h.h0) h.z.f ⟨by show M.length≤3010;omega,h.z.le.2⟩,fun z hz=>⟨Uj (h.nx z hz).1 rfl,(ap z hz).1,Uj (h.nx z hz).2 rfl,(ap z hz).2⟩,(Uj h.nf rfl).symm,⟨hM,l3⟩⟩
theorem Uz.dupF {W:World} {gi:Nat} {x:Xi} (h:Uz B g w0 w W bs D s iv X gi x):Uz B g w0 w (W.setCell ⟨gi,3,none⟩ x.e) bs D s iv X gi ⟨⟨x.im.k,x.im.n,x.im.E,x.im.E,x.im.K,x.im.lo,x.im.hi⟩,x.e,x.e⟩:=
 ⟨h.toSz.set rfl h.e h.e ⟨h.le.1,h.le.1⟩,fun z hz=>⟨(h.ap z hz).1,(h.ap z hz).1,(h.ap z hz).2.2.1,(h.ap z hz).2.2.1⟩,yH _,⟨h.l3.1,h.l3.1⟩⟩
theorem gSetE {W:World} {gi j nE c b WB qE nF qF bE:Nat} {aF:Option Addr} {im:Im} {M:List Po} {k:Int} {Q:Exit→Act→World→Prop} {v1 v2 v8 v9 v11 v12:Value} {r:List Value} (hr:r.length=188) (Z:Hid (Lz B g w0 w W bs D s iv X gi ⟨im,.slice (some ⟨bE,0,none⟩) nE qE,.slice aF nF qF⟩ WB b nE c M)) (ap:Hid (∀z∈X,Ap z.e (.slice aF nF qF)∧Ap z.f (.slice aF nF qF))) (l3:im.F.length≤3000) (hM:M.length≤3000)
  (hn:Hid (∀r' wx,r'.length=188→Uz B g w0 w wx bs D s iv X gi ⟨⟨im.k,im.n,M,im.F,im.K,im.lo,im.hi⟩,(.slice (some ⟨b,0,none⟩) nE c),.slice aF nF qF⟩→Q .normal (Fu g w gi (j:Int) k v1 v2 v8 v9 (.slice (some ⟨b,0,none⟩) nE c) v11 v12 r') wx)):
  Code.wp Tryz.prog (sL (sR (sR uG))) Q (Fu g w gi (j:Int) k v1 v2 v8 v9 (.slice (some ⟨b,0,none⟩) nE c) v11 v12 r) W:=by
 have y1:=(zb Z.out.z.it 2).trans (show _=some (.slice (some ⟨bE,0,none⟩) nE qE)from rfl);have f1:=zc Z.out.z.it 2;have Z9:=Hm (Z.out.newE ap.out l3 hM);revert r;refine @zp 188 _ ?_
 iterate 188 (intro _)
 show Code.wp _ _ _ _ _
 conv=>arg 2;dsimp only[uG,u5,u0,Tryz.f32,Option.getD,sR,sL,cT,cF,bk,lpo]
 conv=>arg 4;dsimp only[Fu]
 go_wp2_with fail;refine hn.out _ _ ?_ Z9.out;rfl
theorem g37 {W:World} {gi j nE c b nF qF:Nat} {aF:Option Addr} {im:Im} {M:List Po} {k:Int} {Q:Exit→Act→World→Prop} {v1 v2 v8 v9 v11 v12:Value} {r:List Value} (hr:r.length=188) (Z:Hid (Uz B g w0 w W bs D s iv X gi ⟨⟨im.k,im.n,M,im.F,im.K,im.lo,im.hi⟩,(.slice (some ⟨b,0,none⟩) nE c),.slice aF nF qF⟩))
  (hn:Hid (∀r' wx s' y bb,r'.length=188→D.once s 3=(bb,s')→Uz B g w0 w wx bs D s' iv X gi y→y.im=⟨im.k,im.n,M,if bb=true∧im.k=5 then M else im.F,im.K,im.lo,im.hi⟩→Q .normal (Fu g w gi (j:Int) k v1 v2 v8 v9 (.slice (some ⟨b,0,none⟩) nE c) v11 v12 r') wx)):
  Code.wp Tryz.prog (sL (sR (sR (sR uG)))) Q (Fu g w gi (j:Int) k v1 v2 v8 v9 (.slice (some ⟨b,0,none⟩) nE c) v11 v12 r) W:=by
 revert r;refine @zp 188 _ ?_
 iterate 188 (intro _)
 show Code.wp _ _ _ _ _
 conv=>arg 2;dsimp only[uG,u5,u0,Tryz.f32,Option.getD,sR,sL,cT,cF,bk,lpo]
 conv=>arg 4;dsimp only[Fu]
 go_wp2_with fail;refine(xl Z.out.c 3 (by omega) (by omega)).mono ?_;rintro e' w1 ⟨bb,s1,hx,rfl,hc,hgb⟩;have Qb:=Hm hx;have Z1:=Hm (Z.out.cur hc hgb);clear hx hc hgb;have y0:=(zb Z1.out.it 0).trans (show _=some (.int .i64 im.k)from rfl)
 cases bb with
 |true=>
  by_cases h5:im.k=5
  ·have k5:(im.k==5)=true:=by simp[h5]
   have H5:=Hm h5;clear h5;have y1:=(zb Z1.out.it 3).trans (show _=some (.slice aF nF qF)from rfl);have f1:=zc Z1.out.it 3;have Z9:Hid (Uz B g w0 w (w1.setCell ⟨gi,3,none⟩ (.slice (some ⟨b,0,none⟩) nE c)) bs D s1 iv X gi ⟨⟨im.k,im.n,M,M,im.K,im.lo,im.hi⟩,(.slice (some ⟨b,0,none⟩) nE c),(.slice (some ⟨b,0,none⟩) nE c)⟩):=Z1.out.dupF;go_wp2_with fail;refine hn.out _ _ s1 ⟨⟨im.k,im.n,M,M,im.K,im.lo,im.hi⟩,(.slice (some ⟨b,0,none⟩) nE c),(.slice (some ⟨b,0,none⟩) nE c)⟩ true ?_ Qb.out Z9.out ?_
   ·rfl
   ·simp[H5.out]
  ·have k5:(im.k==5)=false:=by simp[h5]
   go_wp2_with fail;refine hn.out _ _ s1 ⟨⟨im.k,im.n,M,im.F,im.K,im.lo,im.hi⟩,(.slice (some ⟨b,0,none⟩) nE c),.slice aF nF qF⟩ true ?_ Qb.out Z1.out ?_
   ·rfl
   ·simp[h5]
 |false=>
  go_wp2_with fail;refine hn.out _ _ s1 ⟨⟨im.k,im.n,M,im.F,im.K,im.lo,im.hi⟩,(.slice (some ⟨b,0,none⟩) nE c),.slice aF nF qF⟩ false ?_ Qb.out Z1.out ?_
  ·rfl
  ·simp
theorem gTo3 {W:World} {gi j n cI bI nE qE nF qF:Nat} {aE aF:Option Addr} {im:Im} {A:Code} {Q:Exit→Act→World→Prop} {v1 v2 v8 v9 v10 v11 v12:Value} {r:List Value} (hr:r.length=188) (Z:Hid (Sz B g w0 w W bs D s (.slice (some ⟨bI,0,none⟩) n cI) X gi ⟨im,.slice aE nE qE,.slice aF nF qF⟩)) (hmem:Hid (X[j]? =some ⟨im,.slice aE nE qE,.slice aF nF qF⟩)) (hn:n=X.length) (hn1:n≤190) (hE:0<nE) {Bc:Code}
  (hB:Hid (∀(K:Act→World→Prop) r',(∀a w',Code.wp Tryz.prog A Q a w'→K a w')→r'.length=188→Code.wp Tryz.prog Bc (Exit.then K Q) (Fu g w gi (j:Int) 3 v1 v2 v8 v9 v10 v11 v12 r') W)):Code.wp Tryz.prog (.seq (sL u5) (.seq (sL (sR u5)) (.seq (sL (sR (sR u5))) (.seq (sL (sR (sR (sR u5)))) (.seq (.seq (sL (sL (sR (sR (sR (sR u5)))))) (.cond (.tmp 118) Bc .skip)) A))))) Q (Fu g w gi (j:Int) 3 v1 v2 v8 v9 v10 v11 v12 r) W:=by
 have y0:=(zb Z.out.it 2).trans (show _=some (.slice aE nE qE)from rfl);have kE:(0:Int)<(nE:Int):=by omega
 revert r;refine @zp 188 _ ?_
 iterate 188 (intro _)
 show Code.wp _ _ _ _ _
 conv=>arg 2;dsimp only[u5,u0,Tryz.f32,Option.getD,sR,sL,cT,cF,bk,lpo]
 conv=>arg 4;dsimp only[Fu]
 go_wp2_with fail;refine hB.out _ _ (by assumption) ?_;rfl
theorem gTo4 {W:World} {gi j n cI bI nE qE nF qF:Nat} {aE aF:Option Addr} {im:Im} {A:Code} {Q:Exit→Act→World→Prop} {v1 v2 v8 v9 v10 v11 v12:Value} {r:List Value} (hr:r.length=188) (Z:Hid (Sz B g w0 w W bs D s (.slice (some ⟨bI,0,none⟩) n cI) X gi ⟨im,.slice aE nE qE,.slice aF nF qF⟩)) (hmem:Hid (X[j]? =some ⟨im,.slice aE nE qE,.slice aF nF qF⟩)) (hn:n=X.length) (hn1:n≤190) (hE:0<nE) {Bc:Code}
  (hB:Hid (∀(K:Act→World→Prop) r',(∀a w',Code.wp Tryz.prog A Q a w'→K a w')→r'.length=188→Code.wp Tryz.prog Bc (Exit.then K Q) (Fu g w gi (j:Int) 4 v1 v2 v8 v9 v10 v11 v12 r') W)):Code.wp Tryz.prog (.seq (sL u5) (.seq (sL (sR u5)) (.seq (sL (sR (sR u5))) (.seq (sL (sR (sR (sR u5)))) (.seq (.seq (sL (sL (sR (sR (sR (sR u5)))))) (.cond (.tmp 118) Bc .skip)) A))))) Q (Fu g w gi (j:Int) 4 v1 v2 v8 v9 v10 v11 v12 r) W:=by
 have y0:=(zb Z.out.it 2).trans (show _=some (.slice aE nE qE)from rfl);have kE:(0:Int)<(nE:Int):=by omega
 revert r;refine @zp 188 _ ?_
 iterate 188 (intro _)
 show Code.wp _ _ _ _ _
 conv=>arg 2;dsimp only[u5,u0,Tryz.f32,Option.getD,sR,sL,cT,cF,bk,lpo]
 conv=>arg 4;dsimp only[Fu]
 go_wp2_with fail;refine hB.out _ _ (by assumption) ?_;rfl
theorem gTo5 {W:World} {gi j n cI bI nE qE nF qF:Nat} {aE aF:Option Addr} {im:Im} {A:Code} {Q:Exit→Act→World→Prop} {v1 v2 v8 v9 v10 v11 v12:Value} {r:List Value} (hr:r.length=188) (Z:Hid (Sz B g w0 w W bs D s (.slice (some ⟨bI,0,none⟩) n cI) X gi ⟨im,.slice aE nE qE,.slice aF nF qF⟩)) (hmem:Hid (X[j]? =some ⟨im,.slice aE nE qE,.slice aF nF qF⟩)) (hn:n=X.length) (hn1:n≤190) (hE:0<nE) {Bc:Code}
  (hB:Hid (∀(K:Act→World→Prop) r',(∀a w',Code.wp Tryz.prog A Q a w'→K a w')→r'.length=188→Code.wp Tryz.prog Bc (Exit.then K Q) (Fu g w gi (j:Int) 5 v1 v2 v8 v9 v10 v11 v12 r') W)):Code.wp Tryz.prog (.seq (sL u5) (.seq (sL (sR u5)) (.seq (sL (sR (sR u5))) (.seq (sL (sR (sR (sR u5)))) (.seq (.seq (sL (sL (sR (sR (sR (sR u5)))))) (.cond (.tmp 118) Bc .skip)) A))))) Q (Fu g w gi (j:Int) 5 v1 v2 v8 v9 v10 v11 v12 r) W:=by
 have y0:=(zb Z.out.it 2).trans (show _=some (.slice aE nE qE)from rfl);have kE:(0:Int)<(nE:Int):=by omega
 revert r;refine @zp 188 _ ?_
 iterate 188 (intro _)
 show Code.wp _ _ _ _ _
 conv=>arg 2;dsimp only[u5,u0,Tryz.f32,Option.getD,sR,sL,cT,cF,bk,lpo]
 conv=>arg 4;dsimp only[Fu]
 go_wp2_with fail;refine hB.out _ _ (by assumption) ?_;rfl
theorem gTo6 {W:World} {gi j n cI bI nE qE nF qF:Nat} {aE aF:Option Addr} {im:Im} {A:Code} {Q:Exit→Act→World→Prop} {v1 v2 v8 v9 v10 v11 v12:Value} {r:List Value} (hr:r.length=188) (Z:Hid (Sz B g w0 w W bs D s (.slice (some ⟨bI,0,none⟩) n cI) X gi ⟨im,.slice aE nE qE,.slice aF nF qF⟩)) (hmem:Hid (X[j]? =some ⟨im,.slice aE nE qE,.slice aF nF qF⟩)) (hn:n=X.length) (hn1:n≤190) (hE:0<nE) (hhE:Hid (xS im.k=false)) {Bc:Code}
  (hB:Hid (∀(K:Act→World→Prop) r',(∀a w',Code.wp Tryz.prog A Q a w'→K a w')→r'.length=188→Code.wp Tryz.prog Bc (Exit.then K Q) (Fu g w gi (j:Int) 6 v1 v2 v8 v9 v10 v11 v12 r') W)):Code.wp Tryz.prog (.seq (sL u5) (.seq (sL (sR u5)) (.seq (sL (sR (sR u5))) (.seq (sL (sR (sR (sR u5)))) (.seq (.seq (sL (sL (sR (sR (sR (sR u5)))))) (.cond (.tmp 118) Bc .skip)) A))))) Q (Fu g w gi (j:Int) 6 v1 v2 v8 v9 v10 v11 v12 r) W:=by
 have y0:=(zb Z.out.it 2).trans (show _=some (.slice aE nE qE)from rfl);have kE:(0:Int)<(nE:Int):=by omega
 have y1:=(zb Z.out.it 0).trans (show _=some (.int .i64 im.k)from rfl);have CH:Hid (∀w,Calls Tryz.prog 36 #[.int .i64 im.k] w fun e w'=>e=.returned (.bool false)∧w'=w):=fun w=>by have:=Wp im.k w;rw[hhE.out]at this;exact this
 revert r;refine @zp 188 _ ?_
 iterate 188 (intro _)
 show Code.wp _ _ _ _ _
 conv=>arg 2;dsimp only[u5,u0,Tryz.f32,Option.getD,sR,sL,cT,cF,bk,lpo]
 conv=>arg 4;dsimp only[Fu]
 go_wp2_with (go_at_call 36;go_must (refine(CH.out _).mono ?_;rintro e' w2 ⟨rfl,hww⟩;rw[hww];clear hww));refine hB.out _ _ (by assumption) ?_;rfl
theorem gTo7 {W:World} {gi j n cI bI nE qE nF qF:Nat} {aE aF:Option Addr} {im:Im} {A:Code} {Q:Exit→Act→World→Prop} {v1 v2 v8 v9 v10 v11 v12:Value} {r:List Value} (hr:r.length=188) (Z:Hid (Sz B g w0 w W bs D s (.slice (some ⟨bI,0,none⟩) n cI) X gi ⟨im,.slice aE nE qE,.slice aF nF qF⟩)) (hmem:Hid (X[j]? =some ⟨im,.slice aE nE qE,.slice aF nF qF⟩)) (hn:n=X.length) (hn1:n≤190) (hE:0<nE) (hhE:Hid (xS im.k=false)) {Bc:Code}
  (hB:Hid (∀(K:Act→World→Prop) r',(∀a w',Code.wp Tryz.prog A Q a w'→K a w')→r'.length=188→Code.wp Tryz.prog Bc (Exit.then K Q) (Fu g w gi (j:Int) 7 v1 v2 v8 v9 v10 v11 v12 r') W)):Code.wp Tryz.prog (.seq (sL u5) (.seq (sL (sR u5)) (.seq (sL (sR (sR u5))) (.seq (sL (sR (sR (sR u5)))) (.seq (.seq (sL (sL (sR (sR (sR (sR u5)))))) (.cond (.tmp 118) Bc .skip)) A))))) Q (Fu g w gi (j:Int) 7 v1 v2 v8 v9 v10 v11 v12 r) W:=by
 have y0:=(zb Z.out.it 2).trans (show _=some (.slice aE nE qE)from rfl);have kE:(0:Int)<(nE:Int):=by omega
 have y1:=(zb Z.out.it 0).trans (show _=some (.int .i64 im.k)from rfl);have CH:Hid (∀w,Calls Tryz.prog 36 #[.int .i64 im.k] w fun e w'=>e=.returned (.bool false)∧w'=w):=fun w=>by have:=Wp im.k w;rw[hhE.out]at this;exact this
 revert r;refine @zp 188 _ ?_
 iterate 188 (intro _)
 show Code.wp _ _ _ _ _
 conv=>arg 2;dsimp only[u5,u0,Tryz.f32,Option.getD,sR,sL,cT,cF,bk,lpo]
 conv=>arg 4;dsimp only[Fu]
 go_wp2_with (go_at_call 36;go_must (refine(CH.out _).mono ?_;rintro e' w2 ⟨rfl,hww⟩;rw[hww];clear hww));refine hB.out _ _ (by assumption) ?_;rfl
end Go.Proofs.YtbkajklninmhiaaGreatDoor.Dq
namespace Go.Proofs.YtbkajklninmhiaaGreatDoor.Dq
open Go Go.RowKit Mem Syn Parse Par Draw
attribute [local go_sem ↓] Go.wp_at_zero Go.wp_at_succ
variable {B g:Nat} {w0 w w':World} {bs:List UInt8} {D:Sr} {s s':DS}
variable {iv:Value} {X:List Xi}
theorem gBody {k:Nat} (hk:3≤k∧k≤7) {W:World} {gi j i nE c b WB:Nat} {x:Xi} {M:List Po} {p:Po} {Q:Exit→Act→World→Prop} {v1 v2 v8 v9 v12:Value} {r:List Value} (hr:r.length=188) (Z:Hid (Lz B g w0 w W bs D s iv X gi x WB b nE c M)) (hi:i<nE) (hp:Hid (M[i]? =some p))
  (hn:Hid (∀v12' r' wx s' p',r'.length=188→Lz B g w0 w wx bs D s' iv X gi x WB b nE c (M.set i p')→unOp D k p s=(p',s')→Q .normal (Fu g w gi (j:Int) (k:Int) v1 v2 v8 v9 (.slice (some ⟨b,0,none⟩) nE c) (.int .i64 (i:Int)) v12' r') wx)):
  Code.wp Tryz.prog gB Q (Fu g w gi (j:Int) (k:Int) v1 v2 v8 v9 (.slice (some ⟨b,0,none⟩) nE c) (.int .i64 (i:Int)) v12 r) W:=by
 rcases(show k=3∨k=4∨k=5∨k=6∨k=7 by omega)with rfl|rfl|rfl|rfl|rfl
 ·by_cases h:p.k=3
  ·obtain⟨bb,sb,hb⟩:=two (D.once s 2)
   cases bb with
   |true=>exact gb3a hr Z hi hp (Hm h) (Hm hb) hn
   |false=>exact gb3b hr Z hi hp (Hm h) (Hm hb) hn
  ·exact gb3c hr Z hi hp (Hm h) hn
 ·by_cases h:p.k=9
  ·obtain⟨bb,sb,hb⟩:=two (D.once s 2)
   cases bb with
   |true=>exact gb4a hr Z hi hp (Hm h) (Hm hb) hn
   |false=>exact gb4b hr Z hi hp (Hm h) (Hm hb) hn
  ·exact gb4c hr Z hi hp (Hm h) hn
 ·cases h:Yf p with
  |true=>
   obtain⟨bb,sb,hb⟩:=two (D.once s 3)
   cases bb with
   |true=>exact gb5a hr Z hi hp (Hm h) (Hm hb) hn
   |false=>exact gb5b hr Z hi hp (Hm h) (Hm hb) hn
  |false=>exact gb5c hr Z hi hp (Hm h) hn
 ·exact gb6 hr Z hi hp hn
 ·exact gb7 hr Z hi hp hn
theorem uG_eq:uG=.seq (sL uG) (.seq (.seq (sL (sL (sR uG))) (.block 0 (.loop gL))) (.seq (sL (sR (sR uG))) (.seq (sL (sR (sR (sR uG)))) (sR (sR (sR (sR uG))))))):=rfl
theorem gL_eq:gL=.seq (sL gL) (.seq (.block 1 gB) (sR (sR gL))):=rfl
theorem gAll {k:Nat} (hk:3≤k∧k≤7) {W:World} {gi j n cI bI nE qE nF qF bE:Nat} {aF:Option Addr} {im:Im} {Q:Exit→Act→World→Prop} {v1 v2 v8 v9 v10 v11 v12:Value} {r:List Value} (hr:r.length=188) (Z:Sz B g w0 w W bs D s (.slice (some ⟨bI,0,none⟩) n cI) X gi ⟨im,.slice (some ⟨bE,0,none⟩) nE qE,.slice aF nF qF⟩) (hmem:X[j]? =some ⟨im,.slice (some ⟨bE,0,none⟩) nE qE,.slice aF nF qF⟩) (hnX:n=X.length) (hnX1:n≤190) (hnE:nE=im.E.length) (hE0:0<nE)
  (hA:∀v10 v11 v12 r' wx s' y,r'.length=188→Ue B g w0 w wx bs D s' (.slice (some ⟨bI,0,none⟩) n cI) (X.set j y)→Ut D im k s=(y.im,s')→Q .normal (Fu g w gi (j:Int) (k:Int) v1 v2 v8 v9 v10 v11 v12 r') wx):
  Code.wp Tryz.prog uG Q (Fu g w gi (j:Int) (k:Int) v1 v2 v8 v9 v10 v11 v12 r) W:=by
 have U:=Z.uz hmem;have hl3:=U.l3;dsimp only at hl3;rw[uG_eq];refine wp_seq (gCopy hr (Hm Z) hnE hE0 (by omega) (Hm fun b c r1 w1 hr1 L1=>?_));show Code.wp _ (.seq _ _) _ _ _;refine wp_seq (wp_seq (gZero hr1 (Hm fun r2 hr2=>?_)));show Code.wp _ (.block 0 (.loop gL)) _ _ _;refine wp_block ?_;refine wp_loop_ghost (fun q a' wx=>∃(i:Nat) (v12:Value) (r:List Value) (M:List Po) (s':DS),a'=(Fu g w gi (j:Int) (k:Int) v1 v2 v8 v9 (.slice (some ⟨b,0,none⟩) nE c) (.int .i64 (i:Int)) v12 r)∧r.length=188∧q=nE-i∧i≤nE∧Uo D k i im.E s=(M,s')∧M.length=nE∧Lz B g w0 w wx bs D s' (.slice (some ⟨bI,0,none⟩) n cI) X gi ⟨im,.slice (some ⟨bE,0,none⟩) nE qE,.slice aF nF qF⟩ W.heap.size b nE c M) nE ⟨0,v12,r2,im.E,s,rfl,hr2,by omega,by omega,rfl,hnE.symm,L1⟩ ?_
 rintro q a' wx ⟨i,v12,r,M,s',rfl,hr,rfl,hi,hu,hM,L⟩;rw[gL_eq];refine wp_seq ?_;by_cases hlt:i<nE
 ·refine gTestA hr hlt (Hm fun r3 hr3=>?_)
  show Code.wp _ (.seq (.block 1 gB) (sR (sR gL))) _ _ _;refine wp_seq (wp_block ?_);obtain⟨p,hp⟩:∃p,M[i]? =some p:=⟨M[i]'(by omega),List.getElem?_eq_getElem _⟩;refine gBody hk hr3 (Hm L) hlt (Hm hp) (Hm fun v12' r4 wy s2 p' hr4 L2 ho=>?_);show Code.wp _ (sR (sR gL)) _ _ _;refine gInc hr4 (by omega) (Hm fun r5 hr5=>?_);refine⟨nE- (i+1),by omega,i+1,v12',r5,M.set i p',s2,rfl,hr5,rfl,by omega,?_,by rw[List.length_set];exact hM,L2⟩;rw[Uo,hu];dsimp only;rw[List.getD_eq_getElem?_getD,hp];dsimp only[Option.getD];rw[ho]
 ·refine gTestB hr (by omega) (Hm fun r3 hr3=>?_)
  obtain rfl:i=nE:=by omega
  show Code.wp _ (.seq (sL (sR (sR uG))) (.seq (sL (sR (sR (sR uG)))) (sR (sR (sR (sR uG)))))) _ _ _;refine wp_seq (gSetE hr3 (Hm L) (Hm fun z hz=>⟨(U.ap z hz).2.1,(U.ap z hz).2.2.2⟩) hl3.2 (by omega) (Hm fun r4 w4 hr4 U4=>?_));show Code.wp _ (.seq _ _) _ _ _;refine wp_seq (g37 hr4 (Hm U4) (Hm fun r5 w5 s5 y bb hr5 hb U5 hy=>?_));show Code.wp _ (sR (sR (sR (sR uG)))) _ _ _;refine Rk hr5 (Hm U5) hnX hnX1 hmem (Hm fun r6 w6 hr6 E6=>?_);refine hA _ _ _ _ _ s5 y hr6 E6 ?_;unfold Ut;rw[←hnE,hu];simp only[hb];rw[hy]
theorem uB_eq:uB=.seq (sL uB) (.seq (sL (sR uB)) (.seq (sL (sR (sR uB))) (.seq (sL (sR (sR (sR uB)))) (.seq (sL (sR (sR (sR (sR uB))))) (sR (sR (sR (sR (sR uB))))))))):=rfl
theorem u0_eq:u0=.seq (sL u0) (.seq (sL (sR u0)) (.seq (sL (sR (sR u0))) (.seq (sL (sR (sR (sR u0)))) (.seq (sL (sR (sR (sR (sR u0))))) u5)))):=rfl
theorem Y4:u5=.seq (sL u5) (.seq (sL (sR u5)) (.seq (sL (sR (sR u5))) (.seq (sL (sR (sR (sR u5)))) (.seq (sL (sR (sR (sR (sR u5))))) (u10))))):=rfl
theorem Tt:u5=.seq (sL u5) (.seq (.seq (sL (sL (sR u5))) (.cond (.tmp 45) uB .skip)) (sR (sR u5))):=rfl
theorem Xr:u5=.seq (sL u5) (.seq (sL (sR u5)) (.seq (sL (sR (sR u5))) (.seq (sL (sR (sR (sR u5)))) (.seq (.seq (sL (sL (sR (sR (sR (sR u5)))))) (.cond (.tmp 118) uG .skip)) u10)))):=rfl
theorem unsD (C0:Cu B g w0 w bs D s) (P0:PgO w0.heap.size w iv X) (hX:X.length≤190):Calls Tryz.prog 32 #[.pointer (some ⟨g,0,none⟩),.agg #[iv]] w (RU B g w0 w bs D (V9 D (X.map Xi.im) s)):=by
 refine calls_of_wp Tryz.func32 (c:=u0) rfl ?_;rw[show(#[.pointer (some ⟨g,0,none⟩),.agg #[iv]]++Array.replicate (Tryz.f32.ntmps- (#[.pointer (some ⟨g,0,none⟩),.agg #[iv]]:Array Value).size) undef)=(.pointer (some ⟨g,0,none⟩)::.agg #[iv]::List.replicate 199 undef).toArray from UT _ _ 199,u0_eq];by_cases h0:X.length=0
 ·have hX0:X=[]:=List.eq_nil_of_length_eq_zero h0
  exact unNil (r:=List.replicate 199 undef) List.length_replicate (Hm C0) (Hm P0) hX0 (Hm (by subst hX0;rfl))
 obtain⟨bI,cI,hiv⟩:∃b c,iv=.slice (some ⟨b,0,none⟩) X.length c:=by
  rcases P0.row.2 with⟨_,e⟩|⟨g,cap,cur,e,_⟩
  ·exact absurd e h0
  ·exact⟨_,_,e⟩
 subst hiv;refine unTop (r:=List.replicate 199 undef) List.length_replicate (Hm C0) (Hm P0) rfl (by omega) (by omega) (Hm fun j k s1 s2 gi x v1 v2 v8 v9 v10 v11 v12 r' wx hj hk qj qk hx hr Z=>?_)
 have hD:V9 D (X.map Xi.im) s=ya D (X.map Xi.im) j k s2:=by
  unfold V9;rw[List.length_map,if_neg h0,qj];simp only[qk]
 rw[hD];obtain⟨im,xe,xf⟩:=x;obtain⟨aE,nE,qE,rfl⟩:∃a n c,xe=.slice a n c:=by obtain⟨a,c,e,-⟩:=zh Z.e;exact⟨_,_,_,e⟩
 obtain⟨aF,nF,qF,rfl⟩:∃a n c,xf=.slice a n c:=by obtain⟨a,c,e,-⟩:=zh Z.f;exact⟨_,_,_,e⟩
 have hgD:(X.map Xi.im).getD j imZ=im:=by rw[List.getD_eq_getElem?_getD,List.getElem?_map,hx];rfl
 have hnE:nE=im.E.length:=by obtain⟨a',c',e,-⟩:=zh Z.e;injection e
 have HZ:=Hm Z;have HM:=Hm hx;have tail:∀{k:Nat} {v1 v2:Value},Hid (∀v8 v9 v10 v11 v12 r' wx s' iv' X',r'.length=188→Ue B g w0 w wx bs D s' iv' X'→ya D (X.map Xi.im) j k s2=(X'.map Xi.im,s')→Code.wp Tryz.prog u10 (bodyPost Tryz.prog Tryz.f32 (RU B g w0 w bs D (ya D (X.map Xi.im) j k s2))) (Fu g w gi (j:Int) (k:Int) v1 v2 v8 v9 v10 v11 v12 r') wx):=fun {k v1 v2}=>Hm fun v8 v9 v10 v11 v12 r' wx s' iv' X' hr hz hs=>unEnd hr (Hm hz) (Hm hs)
 -- the loop over E
 have lop:∀{k:Nat},3≤k∧k≤7→ya D (X.map Xi.im) j k s2=(match Ut D im k s2 with|(it,s1)=>((X.map Xi.im).set j it,s1))→0<nE→∀{v1 v2 v8 v9 v10 v11 v12:Value},Hid (∀(K:Act→World→Prop) r',(∀a w',Code.wp Tryz.prog u10 (bodyPost Tryz.prog Tryz.f32 (RU B g w0 w bs D (ya D (X.map Xi.im) j k s2))) a w'→K a w')→r'.length=188→Code.wp Tryz.prog uG (Exit.then K (bodyPost Tryz.prog Tryz.f32 (RU B g w0 w bs D (ya D (X.map Xi.im) j k s2)))) (Fu g w gi (j:Int) (k:Int) v1 v2 v8 v9 v10 v11 v12 r') wx):=fun {k} hk hd hE {v1 v2 v8 v9 v10 v11 v12}=>Hm fun K r' hK hr'=>by
  obtain⟨bE,qE',e0,-,-⟩:=OwnO.some' Z.e (by show 0<im.E.length;omega);injection e0 with e1 _ e3;subst e1 e3;refine gAll hk hr' Z hx rfl hX hnE hE (fun v10 v11 v12 r' wy s' y hr hz hs=>?_);refine hK _ _ (tail.out _ _ _ _ _ _ _ s' _ _ hr hz ?_);rw[hd,hs];dsimp only;rw[List.map_set]
 -- an expression of the wrong type
 have wro:∀{k:Nat},ya D (X.map Xi.im) j k s2=(match xR D im s2 with|(it,s1)=>((X.map Xi.im).set j it,s1))→∀{v1 v2 v8 v9 v10 v11 v12:Value},Hid (∀(K:Act→World→Prop) r',r'.length=188→Code.wp Tryz.prog uB (Exit.then K (bodyPost Tryz.prog Tryz.f32 (RU B g w0 w bs D (ya D (X.map Xi.im) j k s2)))) (Fu g w gi (j:Int) (k:Int) v1 v2 v8 v9 v10 v11 v12 r') wx):=fun {k} hd {v1 v2 v8 v9 v10 v11 v12}=>Hm fun K r' hr'=>by
  have fin:∀{v1 v2 v10 v11 v12:Value},Hid (∀v8 v9 r' wx s' y,r'.length=188→Uz B g w0 w wx bs D s' (.slice (some ⟨bI,0,none⟩) X.length cI) X gi y→xR D im s2=(y.im,s')→Code.wp Tryz.prog (.seq (sL (sR (sR (sR (sR uB))))) (sR (sR (sR (sR (sR uB)))))) (Exit.then K (bodyPost Tryz.prog Tryz.f32 (RU B g w0 w bs D (ya D (X.map Xi.im) j k s2)))) (Fu g w gi (j:Int) (k:Int) v1 v2 v8 v9 v10 v11 v12 r') wx):=fun {v1 v2 v10 v11 v12}=>Hm fun v8 v9 r' wy s' y hr hz hs=>by
   refine wp_seq (Rl hr (Hm hz) rfl hX hx (Hm fun r3 w3 hr3 E3=>?_));show Code.wp _ (sR (sR (sR (sR (sR uB))))) _ _ _;refine unRet hr3 (Hm E3) (Hm ?_);rw[hd,hs];dsimp only;rw[List.map_set]
  have HU:=Hm (Z.uz hx);rw[uB_eq];by_cases h1:im.k=1
  ·exact unW1 hr' HU h1 fin
  by_cases h4:im.k=4∨im.k=8
  ·exact unW4 hr' HU h4 fin
  by_cases h5:im.k=5
  ·exact unW5 hr' HU h5 fin
  exact unW0 hr' HU h1 h4 h5 fin
 rcases(show k=0∨k=1∨k=2∨k=3∨k=4∨k=5∨k=6∨k=7 by omega)with rfl|rfl|rfl|rfl|rfl|rfl|rfl|rfl
 ·rw[Y4]
  exact unK0 hr HZ HM rfl hX (tail (k:=0))
 ·rw[Y4]
  exact unK1 hr HZ HM rfl hX (Hm Zc) (tail (k:=1))
 ·rw[Y4]
  by_cases hj1:j+1<X.length
  ·exact unK2y hr HZ HM rfl hX hj1 (Hm Zc) (tail (k:=2))
  ·exact unK2n hr HZ HM rfl hX hj1 (tail (k:=2))
 ·by_cases hE:im.E.length=0
  ·rw[Y4]
   exact unN3 hr HZ HM rfl hX hE (tail (k:=3))
  ·rw[Xr]
   exact gTo3 hr HZ HM rfl hX (by omega) (lop (k:=3) (by omega) (by unfold ya;rw[hgD];simp only[Nat.reduceEqDiff,if_false,Nat.reduceLT,false_and];rw[if_pos (by omega)]) (by omega))
 ·by_cases hE:im.E.length=0
  ·rw[Y4]
   exact unN4 hr HZ HM rfl hX hE (tail (k:=4))
  ·rw[Xr]
   exact gTo4 hr HZ HM rfl hX (by omega) (lop (k:=4) (by omega) (by unfold ya;rw[hgD];simp only[Nat.reduceEqDiff,if_false,Nat.reduceLT,false_and];rw[if_pos (by omega)]) (by omega))
 ·by_cases hE:im.E.length=0
  ·rw[Y4]
   exact unN5 hr HZ HM rfl hX hE (tail (k:=5))
  ·rw[Xr]
   exact gTo5 hr HZ HM rfl hX (by omega) (lop (k:=5) (by omega) (by unfold ya;rw[hgD];simp only[Nat.reduceEqDiff,if_false,Nat.reduceLT,false_and];rw[if_pos (by omega)]) (by omega))
 ·cases hh:xS im.k with
  |true=>
   rw[Tt];exact unTo6 hr HZ HM rfl hX (Hm hh) (wro (k:=6) (by unfold ya;rw[hgD,hh];simp))
  |false=>
   by_cases hE:im.E.length=0
   ·rw[Y4]
    exact unN6 hr HZ HM rfl hX hE (Hm hh) (tail (k:=6))
   ·rw[Xr]
    exact gTo6 hr HZ HM rfl hX (by omega) (Hm hh) (lop (k:=6) (by omega) (by unfold ya;rw[hgD,hh];simp only[Nat.reduceEqDiff,if_false,Nat.reduceLT,Bool.false_eq_true,and_false];rw[if_pos (by omega)]) (by omega))
 ·cases hh:xS im.k with
  |true=>
   rw[Tt];exact unTo7 hr HZ HM rfl hX (Hm hh) (wro (k:=7) (by unfold ya;rw[hgD,hh];simp))
  |false=>
   by_cases hE:im.E.length=0
   ·rw[Y4]
    exact unN7 hr HZ HM rfl hX hE (Hm hh) (tail (k:=7))
   ·rw[Xr]
    exact gTo7 hr HZ HM rfl hX (by omega) (Hm hh) (lop (k:=7) (by omega) (by unfold ya;rw[hgD,hh];simp only[Nat.reduceEqDiff,if_false,Nat.reduceLT,Bool.false_eq_true,and_false];rw[if_pos (by omega)]) (by omega))
end Go.Proofs.YtbkajklninmhiaaGreatDoor.Dq
