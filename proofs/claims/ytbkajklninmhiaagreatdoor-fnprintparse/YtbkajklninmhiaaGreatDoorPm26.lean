import Derived.Test.YtbkajklninmhiaaGreatDoorPm25
set_option maxHeartbeats 6400000
set_option maxRecDepth 1000000
set_option linter.unusedVariables false
set_option linter.unusedSimpArgs false
open List renaming setIfInBounds_toArray → qa, set_cons_zero → qb, set_cons_succ → qc
open Nat renaming le_refl → qp
namespace Go.Proofs.YtbkajklninmhiaaGreatDoor.Dq
open Go Go.RowKit Mem Syn Parse Par Draw
attribute [local go_sem ↓] Go.wp_at_zero Go.wp_at_succ
variable {B g:Nat} {w0 w w':World} {bs:List UInt8} {D:Sr} {s s':DS}
variable {iv:Value} {X:List Xi}
theorem xI {W:World} {b b':Nat} {C C':Array Value} {T T':TypeId} {fr fr':Nat×Nat} (h:W.heap[b]? =some (.cells C T fr)) (h':W.heap[b']? =some (.cells C' T' fr')) (hT:T≠T'):b≠b':=fun e=>by
 subst e;rw[h]at h';injection h' with h';injection h' with _ h' _;exact hT h'
theorem Sz.opb {W:World} {gi r i:Nat} {v:Value} {x:Xi} (h:Sz B g w0 w W bs D s iv X gi x) (hr:Blk W r 88) (hne:∀y∈X,y.e.ownBlock≠some r∧y.f.ownBlock≠some r) (he:x.e.ownBlock≠some r) (hf:x.f.ownBlock≠some r) (hr0:w0.heap.size≤r):Sz B g w0 w (W.setCell ⟨r,i,none⟩ v) bs D s iv X gi x:=by
 obtain⟨C,fr,hc⟩:=hr;exact⟨h.c.set hr0,h.p.opb ⟨C,fr,hc⟩ hne,h.lo,h.l0,h.ni,zu h.box (xI h.box hc (by decide)) i v,zu h.res (xI h.res hc (by decide)) i v,zu h.it (xI h.it hc (by decide)) i v,xW h.e he,xW h.f hf,h.le,h.od.oth ⟨C,fr,hc⟩ (by decide)⟩
theorem zM {B' r:Nat} {W:World} {v:Value} {L:List Po} (h:OwnO B' W v L) (hr:W.heap.size≤r):v.ownBlock≠some r:=fun e=>by
 have:=(World.ownsRow.lt h r e).2;omega
theorem spN7 {W:World} {gi j n cI bI nE qE nF qF:Nat} {aE aF:Option Addr} {im:Im} {A:Code} {Q:Exit→Act→World→Prop} {v1 v2 v8 v9 v10:Value} {r:List Value} (hr:r.length=108) (Z:Hid (Sz B g w0 w W bs D s (.slice (some ⟨bI,0,none⟩) n cI) X gi ⟨im,.slice aE nE qE,.slice aF nF qF⟩)) (hmem:Hid (⟨im,.slice aE nE qE,.slice aF nF qF⟩∈X)) (hE:im.E.length=0)
  (hA:Hid (∀v8 v9 v10 r' wx s' y,r'.length=108→Sz B g w0 w wx bs D s' (.slice (some ⟨bI,0,none⟩) n cI) X gi y→yP D im 7 s=(y.im,s')→Code.wp Tryz.prog A Q (Fx g w gi (j:Int) 7 v1 v2 v8 v9 v10 r') wx)):Code.wp Tryz.prog (.seq (sL t5) (.seq (sL (sR t5)) (.seq (sL (sR (sR t5))) (.seq (sL (sR (sR (sR t5)))) (.seq (sL (sR (sR (sR (sR t5))))) (.seq (sL (sR (sR (sR (sR (sR t5)))))) (.seq (sL (sR (sR (sR (sR (sR (sR t5))))))) (.seq (sL (sR (sR (sR (sR (sR (sR (sR t5)))))))) (A))))))))) Q (Fx g w gi (j:Int) 7 v1 v2 v8 v9 v10 r) W:=by
 have hnE:nE=0:=by obtain⟨a',c',e,-⟩:=zh Z.out.e;injection e with _ e _;rw[e];exact hE
 have k0:decide ((0:Int)<(nE:Int))=false:=by simp;omega
 have k1:¬0<nE:=by omega
 have k2:decide (0<nE)=false:=by simp;omega
 have y0:=(zb Z.out.it 2).trans (show _=some (.slice aE nE qE)from rfl);clear hnE;revert r;refine @zp 108 _ ?_
 iterate 108 (intro _)
 show Code.wp _ _ _ _ _
 conv=>arg 2;dsimp only[t5,t0,Tryz.f33,Option.getD,sR,sL,cT,cF,bk,lpo]
 conv=>arg 4;dsimp only[Fx]
 go_wp2_with fail;refine hA.out _ _ _ _ _ s ⟨im,.slice aE nE qE,.slice aF nF qF⟩ ?_ Z.out ?_
 ·rfl
 ·simp[yP,hE]
theorem spN8 {W:World} {gi j n cI bI nE qE nF qF:Nat} {aE aF:Option Addr} {im:Im} {A:Code} {Q:Exit→Act→World→Prop} {v1 v2 v8 v9 v10:Value} {r:List Value} (hr:r.length=108) (Z:Hid (Sz B g w0 w W bs D s (.slice (some ⟨bI,0,none⟩) n cI) X gi ⟨im,.slice aE nE qE,.slice aF nF qF⟩)) (hmem:Hid (⟨im,.slice aE nE qE,.slice aF nF qF⟩∈X)) (hE:im.E.length=0)
  (hA:Hid (∀v8 v9 v10 r' wx s' y,r'.length=108→Sz B g w0 w wx bs D s' (.slice (some ⟨bI,0,none⟩) n cI) X gi y→yP D im 8 s=(y.im,s')→Code.wp Tryz.prog A Q (Fx g w gi (j:Int) 8 v1 v2 v8 v9 v10 r') wx)):Code.wp Tryz.prog (.seq (sL t5) (.seq (sL (sR t5)) (.seq (sL (sR (sR t5))) (.seq (sL (sR (sR (sR t5)))) (.seq (sL (sR (sR (sR (sR t5))))) (.seq (sL (sR (sR (sR (sR (sR t5)))))) (.seq (sL (sR (sR (sR (sR (sR (sR t5))))))) (.seq (sL (sR (sR (sR (sR (sR (sR (sR t5)))))))) (A))))))))) Q (Fx g w gi (j:Int) 8 v1 v2 v8 v9 v10 r) W:=by
 have hnE:nE=0:=by obtain⟨a',c',e,-⟩:=zh Z.out.e;injection e with _ e _;rw[e];exact hE
 have k0:decide ((0:Int)<(nE:Int))=false:=by simp;omega
 have k1:¬0<nE:=by omega
 have k2:decide (0<nE)=false:=by simp;omega
 have y0:=(zb Z.out.it 2).trans (show _=some (.slice aE nE qE)from rfl);clear hnE;revert r;refine @zp 108 _ ?_
 iterate 108 (intro _)
 show Code.wp _ _ _ _ _
 conv=>arg 2;dsimp only[t5,t0,Tryz.f33,Option.getD,sR,sL,cT,cF,bk,lpo]
 conv=>arg 4;dsimp only[Fx]
 go_wp2_with fail;refine hA.out _ _ _ _ _ s ⟨im,.slice aE nE qE,.slice aF nF qF⟩ ?_ Z.out ?_
 ·rfl
 ·simp[yP,hE]
theorem spN9 {W:World} {gi j n cI bI nE qE nF qF:Nat} {aE aF:Option Addr} {im:Im} {A:Code} {Q:Exit→Act→World→Prop} {v1 v2 v8 v9 v10:Value} {r:List Value} (hr:r.length=108) (Z:Hid (Sz B g w0 w W bs D s (.slice (some ⟨bI,0,none⟩) n cI) X gi ⟨im,.slice aE nE qE,.slice aF nF qF⟩)) (hmem:Hid (⟨im,.slice aE nE qE,.slice aF nF qF⟩∈X)) (hE:im.E.length=0)
  (hA:Hid (∀v8 v9 v10 r' wx s' y,r'.length=108→Sz B g w0 w wx bs D s' (.slice (some ⟨bI,0,none⟩) n cI) X gi y→yP D im 9 s=(y.im,s')→Code.wp Tryz.prog A Q (Fx g w gi (j:Int) 9 v1 v2 v8 v9 v10 r') wx)):Code.wp Tryz.prog (.seq (sL t5) (.seq (sL (sR t5)) (.seq (sL (sR (sR t5))) (.seq (sL (sR (sR (sR t5)))) (.seq (sL (sR (sR (sR (sR t5))))) (.seq (sL (sR (sR (sR (sR (sR t5)))))) (.seq (sL (sR (sR (sR (sR (sR (sR t5))))))) (.seq (sL (sR (sR (sR (sR (sR (sR (sR t5)))))))) (A))))))))) Q (Fx g w gi (j:Int) 9 v1 v2 v8 v9 v10 r) W:=by
 have hnE:nE=0:=by obtain⟨a',c',e,-⟩:=zh Z.out.e;injection e with _ e _;rw[e];exact hE
 have k0:decide ((0:Int)<(nE:Int))=false:=by simp;omega
 have k1:¬0<nE:=by omega
 have k2:decide (0<nE)=false:=by simp;omega
 have y0:=(zb Z.out.it 2).trans (show _=some (.slice aE nE qE)from rfl);clear hnE;revert r;refine @zp 108 _ ?_
 iterate 108 (intro _)
 show Code.wp _ _ _ _ _
 conv=>arg 2;dsimp only[t5,t0,Tryz.f33,Option.getD,sR,sL,cT,cF,bk,lpo]
 conv=>arg 4;dsimp only[Fx]
 go_wp2_with fail;refine hA.out _ _ _ _ _ s ⟨im,.slice aE nE qE,.slice aF nF qF⟩ ?_ Z.out ?_
 ·rfl
 ·simp[yP,hE]
theorem spN10 {W:World} {gi j n cI bI nE qE nF qF:Nat} {aE aF:Option Addr} {im:Im} {A:Code} {Q:Exit→Act→World→Prop} {v1 v2 v8 v9 v10:Value} {r:List Value} (hr:r.length=108) (Z:Hid (Sz B g w0 w W bs D s (.slice (some ⟨bI,0,none⟩) n cI) X gi ⟨im,.slice aE nE qE,.slice aF nF qF⟩)) (hmem:Hid (⟨im,.slice aE nE qE,.slice aF nF qF⟩∈X)) (hE:im.E.length=0)
  (hA:Hid (∀v8 v9 v10 r' wx s' y,r'.length=108→Sz B g w0 w wx bs D s' (.slice (some ⟨bI,0,none⟩) n cI) X gi y→yP D im 10 s=(y.im,s')→Code.wp Tryz.prog A Q (Fx g w gi (j:Int) 10 v1 v2 v8 v9 v10 r') wx)):Code.wp Tryz.prog (.seq (sL t5) (.seq (sL (sR t5)) (.seq (sL (sR (sR t5))) (.seq (sL (sR (sR (sR t5)))) (.seq (sL (sR (sR (sR (sR t5))))) (.seq (sL (sR (sR (sR (sR (sR t5)))))) (.seq (sL (sR (sR (sR (sR (sR (sR t5))))))) (.seq (sL (sR (sR (sR (sR (sR (sR (sR t5)))))))) (A))))))))) Q (Fx g w gi (j:Int) 10 v1 v2 v8 v9 v10 r) W:=by
 have hnE:nE=0:=by obtain⟨a',c',e,-⟩:=zh Z.out.e;injection e with _ e _;rw[e];exact hE
 have k0:decide ((0:Int)<(nE:Int))=false:=by simp;omega
 have k1:¬0<nE:=by omega
 have k2:decide (0<nE)=false:=by simp;omega
 have y0:=(zb Z.out.it 2).trans (show _=some (.slice aE nE qE)from rfl);clear hnE;revert r;refine @zp 108 _ ?_
 iterate 108 (intro _)
 show Code.wp _ _ _ _ _
 conv=>arg 2;dsimp only[t5,t0,Tryz.f33,Option.getD,sR,sL,cT,cF,bk,lpo]
 conv=>arg 4;dsimp only[Fx]
 go_wp2_with fail;refine hA.out _ _ _ _ _ s ⟨im,.slice aE nE qE,.slice aF nF qF⟩ ?_ Z.out ?_
 ·rfl
 ·simp[yP,hE]
theorem spN11 {W:World} {gi j n cI bI nE qE nF qF:Nat} {aE aF:Option Addr} {im:Im} {A:Code} {Q:Exit→Act→World→Prop} {v1 v2 v8 v9 v10:Value} {r:List Value} (hr:r.length=108) (Z:Hid (Sz B g w0 w W bs D s (.slice (some ⟨bI,0,none⟩) n cI) X gi ⟨im,.slice aE nE qE,.slice aF nF qF⟩)) (hmem:Hid (⟨im,.slice aE nE qE,.slice aF nF qF⟩∈X)) (hE:im.E.length=0)
  (hA:Hid (∀v8 v9 v10 r' wx s' y,r'.length=108→Sz B g w0 w wx bs D s' (.slice (some ⟨bI,0,none⟩) n cI) X gi y→yP D im 11 s=(y.im,s')→Code.wp Tryz.prog A Q (Fx g w gi (j:Int) 11 v1 v2 v8 v9 v10 r') wx)):Code.wp Tryz.prog (.seq (sL t5) (.seq (sL (sR t5)) (.seq (sL (sR (sR t5))) (.seq (sL (sR (sR (sR t5)))) (.seq (sL (sR (sR (sR (sR t5))))) (.seq (sL (sR (sR (sR (sR (sR t5)))))) (.seq (sL (sR (sR (sR (sR (sR (sR t5))))))) (.seq (sL (sR (sR (sR (sR (sR (sR (sR t5)))))))) (A))))))))) Q (Fx g w gi (j:Int) 11 v1 v2 v8 v9 v10 r) W:=by
 have hnE:nE=0:=by obtain⟨a',c',e,-⟩:=zh Z.out.e;injection e with _ e _;rw[e];exact hE
 have k0:decide ((0:Int)<(nE:Int))=false:=by simp;omega
 have k1:¬0<nE:=by omega
 have k2:decide (0<nE)=false:=by simp;omega
 have y0:=(zb Z.out.it 2).trans (show _=some (.slice aE nE qE)from rfl);clear hnE;revert r;refine @zp 108 _ ?_
 iterate 108 (intro _)
 show Code.wp _ _ _ _ _
 conv=>arg 2;dsimp only[t5,t0,Tryz.f33,Option.getD,sR,sL,cT,cF,bk,lpo]
 conv=>arg 4;dsimp only[Fx]
 go_wp2_with fail;refine hA.out _ _ _ _ _ s ⟨im,.slice aE nE qE,.slice aF nF qF⟩ ?_ Z.out ?_
 ·rfl
 ·simp[yP,hE]
theorem spE7 {W:World} {gi j n cI bI nE qE nF qF:Nat} {aE aF:Option Addr} {im:Im} {A:Code} {Q:Exit→Act→World→Prop} {v1 v2 v8 v9 v10:Value} {r:List Value} (hr:r.length=108) (Z:Hid (Sz B g w0 w W bs D s (.slice (some ⟨bI,0,none⟩) n cI) X gi ⟨im,.slice aE nE qE,.slice aF nF qF⟩)) (hmem:Hid (⟨im,.slice aE nE qE,.slice aF nF qF⟩∈X)) (hE:0<im.E.length)
  (hA:Hid (∀v8 v9 v10 r' wx s' y,r'.length=108→Sz B g w0 w wx bs D s' (.slice (some ⟨bI,0,none⟩) n cI) X gi y→yP D im 7 s=(y.im,s')→Code.wp Tryz.prog A Q (Fx g w gi (j:Int) 7 v1 v2 v8 v9 v10 r') wx)):Code.wp Tryz.prog (.seq (sL t5) (.seq (sL (sR t5)) (.seq (sL (sR (sR t5))) (.seq (sL (sR (sR (sR t5)))) (.seq (sL (sR (sR (sR (sR t5))))) (.seq (sL (sR (sR (sR (sR (sR t5)))))) (.seq (sL (sR (sR (sR (sR (sR (sR t5))))))) (.seq (sL (sR (sR (sR (sR (sR (sR (sR t5)))))))) (A))))))))) Q (Fx g w gi (j:Int) 7 v1 v2 v8 v9 v10 r) W:=by
 obtain⟨i0,hi,hz0,hz1,hz2⟩:=info_parts yl;have hle:=Z.out.p.le _ hmem.out;dsimp only at hle;obtain⟨bE,qE',e0,-,-⟩:=OwnO.some' Z.out.e hE;injection e0 with e1 hnE e3;subst e1 e3;dsimp only at hnE;have HNE:=Hm hnE;have hE0:0<nE:=by omega
 have hE3:nE≤3000:=by omega
 have HLE:=Hm hle;have HE:=Hm hE;have kE:(0:Int)<(nE:Int):=by omega
 have hb0:Below W.heap.size W (W.alloc (.cells #[] 88)):=zd (Below.refl _ _) _;have B0:=Hm hb0;have R0:Hid ((W.alloc (.cells #[] 88)).ownsRow W.heap.size 88 3 (.slice (some ⟨W.heap.size,0,none⟩) 0 0) 0 (zH [])):=XV W;have z0:W.heap.size≤(W.alloc (.cells #[] 88)).heap.size:=hb0.size
 have newsA:∀j u,(zH im.E)[j]? =some u→(W.alloc (.cells #[] 88)).cell? ((⟨bE,0,none⟩:Addr).add j)=some u:=by
  have:=Z.out.e.below hb0;dsimp only at this;rw[hnE]at this;exact YC this
 have hlen:(zH im.E).length=nE*3:=by rw[yo,hnE]
 have y0:=(zb Z.out.it 2).trans (show _=some (.slice (some ⟨bE,0,none⟩) nE qE)from rfl);have y1:=(zb (zg Z.out.it hb0) 2).trans (show _=some (.slice (some ⟨bE,0,none⟩) nE qE)from rfl);clear hnE hle hE hb0;revert r;refine @zp 108 _ ?_
 iterate 108 (intro _)
 show Code.wp _ _ _ _ _
 conv=>arg 2;dsimp only[t5,t0,Tryz.f33,Option.getD,sR,sL,cT,cF,bk,lpo]
 conv=>arg 4;dsimp only[Fx]
 go_wp2_with (at_builtin;go_must (refine wpList_append_own_at _ rfl _ _ 36 rfl W.heap.size 88 i0 (.agg #[.int .i64 0,.int .i64 0,.string ⟨#[]⟩]) 3 32 Tryz.underlying36 hi hz0 hz1 hz2 rfl (by decide) _ 0 (zH []) rfl R0.out ⟨bE,0,none⟩ nE qE (zH im.E) rfl hlen newsA (Yb im.E) (by unfold maxLen;omega) (by omega) z0 ?_));clear y0 y1;intro v8 w1 ho hgr _ _;have hb1:=yk B0.out R0.out (qp _) z0 hgr
 have O1:Hid (OwnO W.heap.size w1 v8 im.E):=by
  unfold Hid OwnO;rw[←HNE.out];simpa[zH]using ho
 have Z1:=Hm (Z.out.below hb1);have hW0:=Z.out.c.size;obtain⟨b8,c8,rfl,hb8,-⟩:=OwnO.some' O1.out HE.out;rw[←HNE.out]at O1 ⊢;have HN8:Hid (∀y∈X,y.e.ownBlock≠some b8∧y.f.ownBlock≠some b8):=fun y hy=>⟨zM (Z.out.p.e y hy) hb8,zM (Z.out.p.f y hy) hb8⟩
 have HE8:Hid ((Value.slice (some ⟨bE,0,none⟩) nE qE).ownBlock≠some b8):=zM Z.out.e hb8;have HF8:Hid ((Value.slice aF nF qF).ownBlock≠some b8):=zM Z.out.f hb8;clear ho hgr hb1 newsA hlen R0 B0 z0;refine Hid.out ?_;refine Lib.hid ?_;go_wp2_with fail;refine(yq Z1.out.c nE hE0 (by omega)).mono ?_;rintro e' w2 ⟨i,s1,hx,li,rfl,hc,hgb⟩;have Qi:=Hm hx;have O2:=Hm (Z1.out.c.own O1.out hgb);have Z2:=Hm (Z1.out.cur hc hgb);clear hx hc hgb Z1 O1;obtain⟨p,hp⟩:∃p,im.E[i]? =some p:=⟨im.E[i]'(by rw[←HNE.out];exact li),List.getElem?_eq_getElem _⟩;have HPP:=Hm hp;have hgD:im.E.getD i ⟨0,0,[]⟩=p:=by rw[List.getD_eq_getElem?_getD,hp];rfl
 have HGD:=Hm hgD
 have O2':w2.ownsRow W.heap.size 88 3 (.slice (some ⟨b8,0,none⟩) nE c8) nE (im.E.flatMap Po.cells):=by
  have:=O2.out;unfold OwnO zH at this;rw[←HNE.out]at this;exact this
 obtain⟨p0,-⟩:=zk (i:=i*3) O2' ((zm Po.len i im.E p 0 hp (by omega)).trans (show _=some (.int .i64 p.k)from rfl));obtain⟨p1,-⟩:=zk (i:=i*3+1) O2' ((zm Po.len i im.E p 1 hp (by omega)).trans (show _=some (.int .i64 p.v)from rfl));obtain⟨p2,-⟩:=zk (i:=i*3+2) O2' ((zm Po.len i im.E p 2 hp (by omega)).trans (show _=some (.string ⟨p.n.toArray⟩)from rfl));have i0':(0:Int)≤(i:Int):=by omega
 have il:(i:Int)<(nE:Int):=by omega
 clear O2' hp hgD;obtain⟨w3,hw3⟩:∃W',W'=w2.alloc (.cells #[.int .i64 p.k,.int .i64 p.v,.string ⟨p.n.toArray⟩] 88):=⟨_,rfl⟩;have hb3:Below w2.heap.size w2 w3:=by rw[hw3];exact zd (Below.refl _ _) _
 have G3:Hid (w3.heap[w2.heap.size]? =some (.cells #[.int .i64 p.k,.int .i64 p.v,.string ⟨p.n.toArray⟩] 88)):=by rw[hw3];exact zo _ _
 have HNG:Hid (∀y∈X,y.e.ownBlock≠some w2.heap.size∧y.f.ownBlock≠some w2.heap.size):=fun y hy=>⟨zM (Z2.out.p.e y hy) (qp _),zM (Z2.out.p.f y hy) (qp _)⟩
 have HEG:Hid ((Value.slice (some ⟨bE,0,none⟩) nE qE).ownBlock≠some w2.heap.size):=zM Z2.out.e (qp _);have HFG:Hid ((Value.slice aF nF qF).ownBlock≠some w2.heap.size):=zM Z2.out.f (qp _);have H8G:Hid ((Value.slice (some ⟨b8,0,none⟩) nE c8).ownBlock≠some w2.heap.size):=zM O2.out (qp _);have h8g:b8≠w2.heap.size:=fun e=>H8G.out (by rw[←e];rfl)
 have hw20:=Z2.out.c.size;have Z3:=Hm (Z2.out.below hb3);have O3:=Hm (OwnO.below O2.out hb3);clear hb3 Z2 O2;go_upto_region 24 with fail;rw[←hw3];clear hw3 p0 p1 p2;have y0:=cL1 G3.out;have f0:=zc G3.out 1;obtain⟨w5,hw5⟩:∃W',W'=w3.setCell ⟨w2.heap.size,1,none⟩ (.int .i64 (wrap64 (p.v+16))):=⟨_,rfl⟩;have Z5:=Hm (Z3.out.opb (i:=1) (v:=.int .i64 (wrap64 (p.v+16))) ⟨_,_,G3.out⟩ HNG.out HEG.out HFG.out hw20);have O5:=Hm (xW (r:=w2.heap.size) (i:=1) (v:=.int .i64 (wrap64 (p.v+16))) O3.out H8G.out);have G5:=Hm (zq G3.out 1 (.int .i64 (wrap64 (p.v+16))));simp only[qa,qb,qc]at G5;rw[←hw5]at Z5 O5 G5;go_upto_region 32 with fail;rw[←hw5];clear hw5 y0 f0 Z3 O3 G3;have g0:=cL0 G5.out;have g1:=cL1 G5.out
 have g2:=cL2 G5.out
 have O5':w5.ownsRow W.heap.size 88 3 (.slice (some ⟨b8,0,none⟩) nE c8) nE (im.E.flatMap Po.cells):=by
  have:=O5.out;unfold OwnO zH at this;rw[←HNE.out]at this;exact this
 obtain⟨p0,f0⟩:=zk (i:=i*3) O5' ((zm Po.len i im.E p 0 HPP.out (by omega)).trans (show _=some (.int .i64 p.k)from rfl));obtain⟨p1,f1⟩:=zk (i:=i*3+1) O5' ((zm Po.len i im.E p 1 HPP.out (by omega)).trans (show _=some (.int .i64 p.v)from rfl));obtain⟨p2,f2⟩:=zk (i:=i*3+2) O5' ((zm Po.len i im.E p 2 HPP.out (by omega)).trans (show _=some (.string ⟨p.n.toArray⟩)from rfl))
 have H85:Blk w5 b8 88:=by
  obtain⟨c,fz,hc⟩:=yC O5' b8 rfl;exact⟨c,fz,hc⟩
 clear O5';obtain⟨w6,hw6⟩:∃W',W'=(((w5.setCell ⟨b8,i*3,none⟩ (.int .i64 p.k)).setCell ⟨b8,i*3+1,none⟩ (.int .i64 (wrap64 (p.v+16)))).setCell ⟨b8,i*3+2,none⟩ (.string ⟨p.n.toArray⟩)):=⟨_,rfl⟩
 have Z6:Hid (Sz B g w0 w w6 bs D s1 (.slice (some ⟨bI,0,none⟩) n cI) X gi ⟨im,.slice (some ⟨bE,0,none⟩) nE qE,.slice aF nF qF⟩):=by
  rw[hw6];exact Ys (p:=fun U=>Sz B g w0 w U bs D s1 (.slice (some ⟨bI,0,none⟩) n cI) X gi ⟨im,.slice (some ⟨bE,0,none⟩) nE qE,.slice aF nF qF⟩) (fun U i v hU hz=>hz.opb hU HN8.out HE8.out HF8.out (by omega)) H85 Z5.out _ _ _ _ _ _
 have O6:Hid (OwnO W.heap.size w6 (.slice (some ⟨b8,0,none⟩) nE c8) (im.E.set i ⟨p.k,wrap64 (p.v+16),p.n⟩)):=by
  rw[hw6];exact YR (x':=⟨p.k,wrap64 (p.v+16),p.n⟩) O5.out HPP.out
 go_upto_region 35 with fail;rw[←hw6];clear hw6 g0 g1 g2 p0 p1 p2 f0 f1 f2 Z5 O5 G5 H85;have y0:=(zb Z6.out.it 2).trans (show _=some (.slice (some ⟨bE,0,none⟩) nE qE)from rfl);have f0:=zc Z6.out.it 2;have Z7:Hid (Sz B g w0 w (w6.setCell ⟨gi,2,none⟩ (.slice (some ⟨b8,0,none⟩) nE c8)) bs D s1 (.slice (some ⟨bI,0,none⟩) n cI) X gi ⟨⟨im.k,im.n,im.E.set i ⟨p.k,wrap64 (p.v+16),p.n⟩,im.F,im.K,im.lo,im.hi⟩,.slice (some ⟨b8,0,none⟩) nE c8,.slice aF nF qF⟩):=Z6.out.set rfl (O6.out.low hW0) Z6.out.f ⟨by have:=HLE.out.1;show(im.E.set i _).length≤3010;rw[List.length_set];omega,by have:=HLE.out.2;show im.F.length≤3010;omega⟩;go_wp2_with fail
 refine hA.out _ _ _ _ _ s1 ⟨⟨im.k,im.n,im.E.set i ⟨p.k,wrap64 (p.v+16),p.n⟩,im.F,im.K,im.lo,im.hi⟩,.slice (some ⟨b8,0,none⟩) nE c8,.slice aF nF qF⟩ ?_ Z7.out ?_
 ·rfl
 ·have hE9:¬nE=0:=by omega
  unfold yP;rw[←HNE.out];simp only[Nat.reduceEqDiff,if_false,if_neg hE9,Qi.out,HGD.out,TH,if_true]
theorem spE8 {W:World} {gi j n cI bI nE qE nF qF:Nat} {aE aF:Option Addr} {im:Im} {A:Code} {Q:Exit→Act→World→Prop} {v1 v2 v8 v9 v10:Value} {r:List Value} (hr:r.length=108) (Z:Hid (Sz B g w0 w W bs D s (.slice (some ⟨bI,0,none⟩) n cI) X gi ⟨im,.slice aE nE qE,.slice aF nF qF⟩)) (hmem:Hid (⟨im,.slice aE nE qE,.slice aF nF qF⟩∈X)) (hE:0<im.E.length)
  (hA:Hid (∀v8 v9 v10 r' wx s' y,r'.length=108→Sz B g w0 w wx bs D s' (.slice (some ⟨bI,0,none⟩) n cI) X gi y→yP D im 8 s=(y.im,s')→Code.wp Tryz.prog A Q (Fx g w gi (j:Int) 8 v1 v2 v8 v9 v10 r') wx)):Code.wp Tryz.prog (.seq (sL t5) (.seq (sL (sR t5)) (.seq (sL (sR (sR t5))) (.seq (sL (sR (sR (sR t5)))) (.seq (sL (sR (sR (sR (sR t5))))) (.seq (sL (sR (sR (sR (sR (sR t5)))))) (.seq (sL (sR (sR (sR (sR (sR (sR t5))))))) (.seq (sL (sR (sR (sR (sR (sR (sR (sR t5)))))))) (A))))))))) Q (Fx g w gi (j:Int) 8 v1 v2 v8 v9 v10 r) W:=by
 obtain⟨i0,hi,hz0,hz1,hz2⟩:=info_parts yl;have hle:=Z.out.p.le _ hmem.out;dsimp only at hle;obtain⟨bE,qE',e0,-,-⟩:=OwnO.some' Z.out.e hE;injection e0 with e1 hnE e3;subst e1 e3;dsimp only at hnE;have HNE:=Hm hnE;have hE0:0<nE:=by omega
 have hE3:nE≤3000:=by omega
 have HLE:=Hm hle;have HE:=Hm hE;have kE:(0:Int)<(nE:Int):=by omega
 have hb0:Below W.heap.size W (W.alloc (.cells #[] 88)):=zd (Below.refl _ _) _;have B0:=Hm hb0;have R0:Hid ((W.alloc (.cells #[] 88)).ownsRow W.heap.size 88 3 (.slice (some ⟨W.heap.size,0,none⟩) 0 0) 0 (zH [])):=XV W;have z0:W.heap.size≤(W.alloc (.cells #[] 88)).heap.size:=hb0.size
 have newsA:∀j u,(zH im.E)[j]? =some u→(W.alloc (.cells #[] 88)).cell? ((⟨bE,0,none⟩:Addr).add j)=some u:=by
  have:=Z.out.e.below hb0;dsimp only at this;rw[hnE]at this;exact YC this
 have hlen:(zH im.E).length=nE*3:=by rw[yo,hnE]
 have y0:=(zb Z.out.it 2).trans (show _=some (.slice (some ⟨bE,0,none⟩) nE qE)from rfl);have y1:=(zb (zg Z.out.it hb0) 2).trans (show _=some (.slice (some ⟨bE,0,none⟩) nE qE)from rfl);clear hnE hle hE hb0;revert r;refine @zp 108 _ ?_
 iterate 108 (intro _)
 show Code.wp _ _ _ _ _
 conv=>arg 2;dsimp only[t5,t0,Tryz.f33,Option.getD,sR,sL,cT,cF,bk,lpo]
 conv=>arg 4;dsimp only[Fx]
 go_wp2_with (at_builtin;go_must (refine wpList_append_own_at _ rfl _ _ 36 rfl W.heap.size 88 i0 (.agg #[.int .i64 0,.int .i64 0,.string ⟨#[]⟩]) 3 32 Tryz.underlying36 hi hz0 hz1 hz2 rfl (by decide) _ 0 (zH []) rfl R0.out ⟨bE,0,none⟩ nE qE (zH im.E) rfl hlen newsA (Yb im.E) (by unfold maxLen;omega) (by omega) z0 ?_));clear y0 y1;intro v8 w1 ho hgr _ _;have hb1:=yk B0.out R0.out (qp _) z0 hgr
 have O1:Hid (OwnO W.heap.size w1 v8 im.E):=by
  unfold Hid OwnO;rw[←HNE.out];simpa[zH]using ho
 have Z1:=Hm (Z.out.below hb1);have hW0:=Z.out.c.size;obtain⟨b8,c8,rfl,hb8,-⟩:=OwnO.some' O1.out HE.out;rw[←HNE.out]at O1 ⊢;have HN8:Hid (∀y∈X,y.e.ownBlock≠some b8∧y.f.ownBlock≠some b8):=fun y hy=>⟨zM (Z.out.p.e y hy) hb8,zM (Z.out.p.f y hy) hb8⟩
 have HE8:Hid ((Value.slice (some ⟨bE,0,none⟩) nE qE).ownBlock≠some b8):=zM Z.out.e hb8;have HF8:Hid ((Value.slice aF nF qF).ownBlock≠some b8):=zM Z.out.f hb8;clear ho hgr hb1 newsA hlen R0 B0 z0;refine Hid.out ?_;refine Lib.hid ?_;go_wp2_with fail;refine(yq Z1.out.c nE hE0 (by omega)).mono ?_;rintro e' w2 ⟨i,s1,hx,li,rfl,hc,hgb⟩;have Qi:=Hm hx;have O2:=Hm (Z1.out.c.own O1.out hgb);have Z2:=Hm (Z1.out.cur hc hgb);clear hx hc hgb Z1 O1;obtain⟨p,hp⟩:∃p,im.E[i]? =some p:=⟨im.E[i]'(by rw[←HNE.out];exact li),List.getElem?_eq_getElem _⟩;have HPP:=Hm hp;have hgD:im.E.getD i ⟨0,0,[]⟩=p:=by rw[List.getD_eq_getElem?_getD,hp];rfl
 have HGD:=Hm hgD
 have O2':w2.ownsRow W.heap.size 88 3 (.slice (some ⟨b8,0,none⟩) nE c8) nE (im.E.flatMap Po.cells):=by
  have:=O2.out;unfold OwnO zH at this;rw[←HNE.out]at this;exact this
 obtain⟨p0,-⟩:=zk (i:=i*3) O2' ((zm Po.len i im.E p 0 hp (by omega)).trans (show _=some (.int .i64 p.k)from rfl));obtain⟨p1,-⟩:=zk (i:=i*3+1) O2' ((zm Po.len i im.E p 1 hp (by omega)).trans (show _=some (.int .i64 p.v)from rfl));obtain⟨p2,-⟩:=zk (i:=i*3+2) O2' ((zm Po.len i im.E p 2 hp (by omega)).trans (show _=some (.string ⟨p.n.toArray⟩)from rfl));have i0':(0:Int)≤(i:Int):=by omega
 have il:(i:Int)<(nE:Int):=by omega
 clear O2' hp hgD;obtain⟨w3,hw3⟩:∃W',W'=w2.alloc (.cells #[.int .i64 p.k,.int .i64 p.v,.string ⟨p.n.toArray⟩] 88):=⟨_,rfl⟩;have hb3:Below w2.heap.size w2 w3:=by rw[hw3];exact zd (Below.refl _ _) _
 have G3:Hid (w3.heap[w2.heap.size]? =some (.cells #[.int .i64 p.k,.int .i64 p.v,.string ⟨p.n.toArray⟩] 88)):=by rw[hw3];exact zo _ _
 have HNG:Hid (∀y∈X,y.e.ownBlock≠some w2.heap.size∧y.f.ownBlock≠some w2.heap.size):=fun y hy=>⟨zM (Z2.out.p.e y hy) (qp _),zM (Z2.out.p.f y hy) (qp _)⟩
 have HEG:Hid ((Value.slice (some ⟨bE,0,none⟩) nE qE).ownBlock≠some w2.heap.size):=zM Z2.out.e (qp _);have HFG:Hid ((Value.slice aF nF qF).ownBlock≠some w2.heap.size):=zM Z2.out.f (qp _);have H8G:Hid ((Value.slice (some ⟨b8,0,none⟩) nE c8).ownBlock≠some w2.heap.size):=zM O2.out (qp _);have h8g:b8≠w2.heap.size:=fun e=>H8G.out (by rw[←e];rfl)
 have hw20:=Z2.out.c.size;have Z3:=Hm (Z2.out.below hb3);have O3:=Hm (OwnO.below O2.out hb3);clear hb3 Z2 O2;go_upto_region 24 with fail;rw[←hw3];clear hw3 p0 p1 p2;have y0:=cL2 G3.out;have f0:=zc G3.out 2;obtain⟨w5,hw5⟩:∃W',W'=w3.setCell ⟨w2.heap.size,2,none⟩ (.string ⟨#[112,111,115]⟩):=⟨_,rfl⟩;have Z5:=Hm (Z3.out.opb (i:=2) (v:=.string ⟨#[112,111,115]⟩) ⟨_,_,G3.out⟩ HNG.out HEG.out HFG.out hw20);have O5:=Hm (xW (r:=w2.heap.size) (i:=2) (v:=.string ⟨#[112,111,115]⟩) O3.out H8G.out);have G5:=Hm (zq G3.out 2 (.string ⟨#[112,111,115]⟩));simp only[qa,qb,qc]at G5;rw[←hw5]at Z5 O5 G5;go_upto_region 32 with fail;rw[←hw5];clear hw5 y0 f0 Z3 O3 G3;have g0:=cL0 G5.out;have g1:=cL1 G5.out
 have g2:=cL2 G5.out
 have O5':w5.ownsRow W.heap.size 88 3 (.slice (some ⟨b8,0,none⟩) nE c8) nE (im.E.flatMap Po.cells):=by
  have:=O5.out;unfold OwnO zH at this;rw[←HNE.out]at this;exact this
 obtain⟨p0,f0⟩:=zk (i:=i*3) O5' ((zm Po.len i im.E p 0 HPP.out (by omega)).trans (show _=some (.int .i64 p.k)from rfl));obtain⟨p1,f1⟩:=zk (i:=i*3+1) O5' ((zm Po.len i im.E p 1 HPP.out (by omega)).trans (show _=some (.int .i64 p.v)from rfl));obtain⟨p2,f2⟩:=zk (i:=i*3+2) O5' ((zm Po.len i im.E p 2 HPP.out (by omega)).trans (show _=some (.string ⟨p.n.toArray⟩)from rfl))
 have H85:Blk w5 b8 88:=by
  obtain⟨c,fz,hc⟩:=yC O5' b8 rfl;exact⟨c,fz,hc⟩
 clear O5';obtain⟨w6,hw6⟩:∃W',W'=(((w5.setCell ⟨b8,i*3,none⟩ (.int .i64 p.k)).setCell ⟨b8,i*3+1,none⟩ (.int .i64 p.v)).setCell ⟨b8,i*3+2,none⟩ (.string ⟨#[112,111,115]⟩)):=⟨_,rfl⟩
 have Z6:Hid (Sz B g w0 w w6 bs D s1 (.slice (some ⟨bI,0,none⟩) n cI) X gi ⟨im,.slice (some ⟨bE,0,none⟩) nE qE,.slice aF nF qF⟩):=by
  rw[hw6];exact Ys (p:=fun U=>Sz B g w0 w U bs D s1 (.slice (some ⟨bI,0,none⟩) n cI) X gi ⟨im,.slice (some ⟨bE,0,none⟩) nE qE,.slice aF nF qF⟩) (fun U i v hU hz=>hz.opb hU HN8.out HE8.out HF8.out (by omega)) H85 Z5.out _ _ _ _ _ _
 have O6:Hid (OwnO W.heap.size w6 (.slice (some ⟨b8,0,none⟩) nE c8) (im.E.set i ⟨p.k,p.v,[112,111,115]⟩)):=by
  rw[hw6];exact YR (x':=⟨p.k,p.v,[112,111,115]⟩) O5.out HPP.out
 go_upto_region 35 with fail;rw[←hw6];clear hw6 g0 g1 g2 p0 p1 p2 f0 f1 f2 Z5 O5 G5 H85;have y0:=(zb Z6.out.it 2).trans (show _=some (.slice (some ⟨bE,0,none⟩) nE qE)from rfl);have f0:=zc Z6.out.it 2;have Z7:Hid (Sz B g w0 w (w6.setCell ⟨gi,2,none⟩ (.slice (some ⟨b8,0,none⟩) nE c8)) bs D s1 (.slice (some ⟨bI,0,none⟩) n cI) X gi ⟨⟨im.k,im.n,im.E.set i ⟨p.k,p.v,[112,111,115]⟩,im.F,im.K,im.lo,im.hi⟩,.slice (some ⟨b8,0,none⟩) nE c8,.slice aF nF qF⟩):=Z6.out.set rfl (O6.out.low hW0) Z6.out.f ⟨by have:=HLE.out.1;show(im.E.set i _).length≤3010;rw[List.length_set];omega,by have:=HLE.out.2;show im.F.length≤3010;omega⟩;go_wp2_with fail
 refine hA.out _ _ _ _ _ s1 ⟨⟨im.k,im.n,im.E.set i ⟨p.k,p.v,[112,111,115]⟩,im.F,im.K,im.lo,im.hi⟩,.slice (some ⟨b8,0,none⟩) nE c8,.slice aF nF qF⟩ ?_ Z7.out ?_
 ·rfl
 ·have hE9:¬nE=0:=by omega
  unfold yP;rw[←HNE.out];simp only[Nat.reduceEqDiff,if_false,if_neg hE9,Qi.out,HGD.out,TH,if_true]
theorem spE9 {W:World} {gi j n cI bI nE qE nF qF:Nat} {aE aF:Option Addr} {im:Im} {A:Code} {Q:Exit→Act→World→Prop} {v1 v2 v8 v9 v10:Value} {r:List Value} (hr:r.length=108) (Z:Hid (Sz B g w0 w W bs D s (.slice (some ⟨bI,0,none⟩) n cI) X gi ⟨im,.slice aE nE qE,.slice aF nF qF⟩)) (hmem:Hid (⟨im,.slice aE nE qE,.slice aF nF qF⟩∈X)) (hE:0<im.E.length)
  (hA:Hid (∀v8 v9 v10 r' wx s' y,r'.length=108→Sz B g w0 w wx bs D s' (.slice (some ⟨bI,0,none⟩) n cI) X gi y→yP D im 9 s=(y.im,s')→Code.wp Tryz.prog A Q (Fx g w gi (j:Int) 9 v1 v2 v8 v9 v10 r') wx)):Code.wp Tryz.prog (.seq (sL t5) (.seq (sL (sR t5)) (.seq (sL (sR (sR t5))) (.seq (sL (sR (sR (sR t5)))) (.seq (sL (sR (sR (sR (sR t5))))) (.seq (sL (sR (sR (sR (sR (sR t5)))))) (.seq (sL (sR (sR (sR (sR (sR (sR t5))))))) (.seq (sL (sR (sR (sR (sR (sR (sR (sR t5)))))))) (A))))))))) Q (Fx g w gi (j:Int) 9 v1 v2 v8 v9 v10 r) W:=by
 obtain⟨i0,hi,hz0,hz1,hz2⟩:=info_parts yl;have hle:=Z.out.p.le _ hmem.out;dsimp only at hle;obtain⟨bE,qE',e0,-,-⟩:=OwnO.some' Z.out.e hE;injection e0 with e1 hnE e3;subst e1 e3;dsimp only at hnE;have HNE:=Hm hnE;have hE0:0<nE:=by omega
 have hE3:nE≤3000:=by omega
 have HLE:=Hm hle;have HE:=Hm hE;have kE:(0:Int)<(nE:Int):=by omega
 have hb0:Below W.heap.size W (W.alloc (.cells #[] 88)):=zd (Below.refl _ _) _;have B0:=Hm hb0;have R0:Hid ((W.alloc (.cells #[] 88)).ownsRow W.heap.size 88 3 (.slice (some ⟨W.heap.size,0,none⟩) 0 0) 0 (zH [])):=XV W;have z0:W.heap.size≤(W.alloc (.cells #[] 88)).heap.size:=hb0.size
 have newsA:∀j u,(zH im.E)[j]? =some u→(W.alloc (.cells #[] 88)).cell? ((⟨bE,0,none⟩:Addr).add j)=some u:=by
  have:=Z.out.e.below hb0;dsimp only at this;rw[hnE]at this;exact YC this
 have hlen:(zH im.E).length=nE*3:=by rw[yo,hnE]
 have y0:=(zb Z.out.it 2).trans (show _=some (.slice (some ⟨bE,0,none⟩) nE qE)from rfl);have y1:=(zb (zg Z.out.it hb0) 2).trans (show _=some (.slice (some ⟨bE,0,none⟩) nE qE)from rfl);clear hnE hle hE hb0;revert r;refine @zp 108 _ ?_
 iterate 108 (intro _)
 show Code.wp _ _ _ _ _
 conv=>arg 2;dsimp only[t5,t0,Tryz.f33,Option.getD,sR,sL,cT,cF,bk,lpo]
 conv=>arg 4;dsimp only[Fx]
 go_wp2_with (at_builtin;go_must (refine wpList_append_own_at _ rfl _ _ 36 rfl W.heap.size 88 i0 (.agg #[.int .i64 0,.int .i64 0,.string ⟨#[]⟩]) 3 32 Tryz.underlying36 hi hz0 hz1 hz2 rfl (by decide) _ 0 (zH []) rfl R0.out ⟨bE,0,none⟩ nE qE (zH im.E) rfl hlen newsA (Yb im.E) (by unfold maxLen;omega) (by omega) z0 ?_));clear y0 y1;intro v8 w1 ho hgr _ _;have hb1:=yk B0.out R0.out (qp _) z0 hgr
 have O1:Hid (OwnO W.heap.size w1 v8 im.E):=by
  unfold Hid OwnO;rw[←HNE.out];simpa[zH]using ho
 have Z1:=Hm (Z.out.below hb1);have hW0:=Z.out.c.size;obtain⟨b8,c8,rfl,hb8,-⟩:=OwnO.some' O1.out HE.out;rw[←HNE.out]at O1 ⊢;have HN8:Hid (∀y∈X,y.e.ownBlock≠some b8∧y.f.ownBlock≠some b8):=fun y hy=>⟨zM (Z.out.p.e y hy) hb8,zM (Z.out.p.f y hy) hb8⟩
 have HE8:Hid ((Value.slice (some ⟨bE,0,none⟩) nE qE).ownBlock≠some b8):=zM Z.out.e hb8;have HF8:Hid ((Value.slice aF nF qF).ownBlock≠some b8):=zM Z.out.f hb8;clear ho hgr hb1 newsA hlen R0 B0 z0;refine Hid.out ?_;refine Lib.hid ?_;go_wp2_with fail;refine(yq Z1.out.c nE hE0 (by omega)).mono ?_;rintro e' w2 ⟨i,s1,hx,li,rfl,hc,hgb⟩;have Qi:=Hm hx;have O2:=Hm (Z1.out.c.own O1.out hgb);have Z2:=Hm (Z1.out.cur hc hgb);clear hx hc hgb Z1 O1;obtain⟨p,hp⟩:∃p,im.E[i]? =some p:=⟨im.E[i]'(by rw[←HNE.out];exact li),List.getElem?_eq_getElem _⟩;have HPP:=Hm hp;have hgD:im.E.getD i ⟨0,0,[]⟩=p:=by rw[List.getD_eq_getElem?_getD,hp];rfl
 have HGD:=Hm hgD
 have O2':w2.ownsRow W.heap.size 88 3 (.slice (some ⟨b8,0,none⟩) nE c8) nE (im.E.flatMap Po.cells):=by
  have:=O2.out;unfold OwnO zH at this;rw[←HNE.out]at this;exact this
 obtain⟨p0,-⟩:=zk (i:=i*3) O2' ((zm Po.len i im.E p 0 hp (by omega)).trans (show _=some (.int .i64 p.k)from rfl));obtain⟨p1,-⟩:=zk (i:=i*3+1) O2' ((zm Po.len i im.E p 1 hp (by omega)).trans (show _=some (.int .i64 p.v)from rfl));obtain⟨p2,-⟩:=zk (i:=i*3+2) O2' ((zm Po.len i im.E p 2 hp (by omega)).trans (show _=some (.string ⟨p.n.toArray⟩)from rfl));have i0':(0:Int)≤(i:Int):=by omega
 have il:(i:Int)<(nE:Int):=by omega
 clear O2' hp hgD;obtain⟨w3,hw3⟩:∃W',W'=w2.alloc (.cells #[.int .i64 p.k,.int .i64 p.v,.string ⟨p.n.toArray⟩] 88):=⟨_,rfl⟩;have hb3:Below w2.heap.size w2 w3:=by rw[hw3];exact zd (Below.refl _ _) _
 have G3:Hid (w3.heap[w2.heap.size]? =some (.cells #[.int .i64 p.k,.int .i64 p.v,.string ⟨p.n.toArray⟩] 88)):=by rw[hw3];exact zo _ _
 have HNG:Hid (∀y∈X,y.e.ownBlock≠some w2.heap.size∧y.f.ownBlock≠some w2.heap.size):=fun y hy=>⟨zM (Z2.out.p.e y hy) (qp _),zM (Z2.out.p.f y hy) (qp _)⟩
 have HEG:Hid ((Value.slice (some ⟨bE,0,none⟩) nE qE).ownBlock≠some w2.heap.size):=zM Z2.out.e (qp _);have HFG:Hid ((Value.slice aF nF qF).ownBlock≠some w2.heap.size):=zM Z2.out.f (qp _);have H8G:Hid ((Value.slice (some ⟨b8,0,none⟩) nE c8).ownBlock≠some w2.heap.size):=zM O2.out (qp _);have h8g:b8≠w2.heap.size:=fun e=>H8G.out (by rw[←e];rfl)
 have hw20:=Z2.out.c.size;have Z3:=Hm (Z2.out.below hb3);have O3:=Hm (OwnO.below O2.out hb3);clear hb3 Z2 O2;go_upto_region 24 with fail;rw[←hw3];clear hw3 p0 p1 p2;go_wp2_with fail;refine(yq Z3.out.c 12 (by omega) (by omega)).mono ?_;rintro e' w4 ⟨u,s2,hx,lu,rfl,hc,hgb⟩;have Qu:=Hm hx;have O4:=Hm (Z3.out.c.own O3.out hgb);have G4:=Hm (Z3.out.c.blk hw20 G3.out hgb);have Z4:=Hm (Z3.out.cur hc hgb);clear hx hc hgb Z3 O3 G3;have y0:=cL0 G4.out;have f0:=zc G4.out 0;obtain⟨w5,hw5⟩:∃W',W'=w4.setCell ⟨w2.heap.size,0,none⟩ (.int .i64 (u:Int)):=⟨_,rfl⟩;have Z5:=Hm (Z4.out.opb (i:=0) (v:=.int .i64 (u:Int)) ⟨_,_,G4.out⟩ HNG.out HEG.out HFG.out hw20);have O5:=Hm (xW (r:=w2.heap.size) (i:=0) (v:=.int .i64 (u:Int)) O4.out H8G.out)
 have G5:=Hm (zq G4.out 0 (.int .i64 (u:Int)));simp only[qa,qb,qc]at G5;rw[←hw5]at Z5 O5 G5;go_upto_region 32 with fail;rw[←hw5];clear hw5 y0 f0 Z4 O4 G4;have g0:=cL0 G5.out;have g1:=cL1 G5.out;have g2:=cL2 G5.out
 have O5':w5.ownsRow W.heap.size 88 3 (.slice (some ⟨b8,0,none⟩) nE c8) nE (im.E.flatMap Po.cells):=by
  have:=O5.out;unfold OwnO zH at this;rw[←HNE.out]at this;exact this
 obtain⟨p0,f0⟩:=zk (i:=i*3) O5' ((zm Po.len i im.E p 0 HPP.out (by omega)).trans (show _=some (.int .i64 p.k)from rfl));obtain⟨p1,f1⟩:=zk (i:=i*3+1) O5' ((zm Po.len i im.E p 1 HPP.out (by omega)).trans (show _=some (.int .i64 p.v)from rfl));obtain⟨p2,f2⟩:=zk (i:=i*3+2) O5' ((zm Po.len i im.E p 2 HPP.out (by omega)).trans (show _=some (.string ⟨p.n.toArray⟩)from rfl))
 have H85:Blk w5 b8 88:=by
  obtain⟨c,fz,hc⟩:=yC O5' b8 rfl;exact⟨c,fz,hc⟩
 clear O5';obtain⟨w6,hw6⟩:∃W',W'=(((w5.setCell ⟨b8,i*3,none⟩ (.int .i64 (u:Int))).setCell ⟨b8,i*3+1,none⟩ (.int .i64 p.v)).setCell ⟨b8,i*3+2,none⟩ (.string ⟨p.n.toArray⟩)):=⟨_,rfl⟩
 have Z6:Hid (Sz B g w0 w w6 bs D s2 (.slice (some ⟨bI,0,none⟩) n cI) X gi ⟨im,.slice (some ⟨bE,0,none⟩) nE qE,.slice aF nF qF⟩):=by
  rw[hw6];exact Ys (p:=fun U=>Sz B g w0 w U bs D s2 (.slice (some ⟨bI,0,none⟩) n cI) X gi ⟨im,.slice (some ⟨bE,0,none⟩) nE qE,.slice aF nF qF⟩) (fun U i v hU hz=>hz.opb hU HN8.out HE8.out HF8.out (by omega)) H85 Z5.out _ _ _ _ _ _
 have O6:Hid (OwnO W.heap.size w6 (.slice (some ⟨b8,0,none⟩) nE c8) (im.E.set i ⟨(u:Int),p.v,p.n⟩)):=by
  rw[hw6];exact YR (x':=⟨(u:Int),p.v,p.n⟩) O5.out HPP.out
 go_upto_region 35 with fail;rw[←hw6];clear hw6 g0 g1 g2 p0 p1 p2 f0 f1 f2 Z5 O5 G5 H85;have y0:=(zb Z6.out.it 2).trans (show _=some (.slice (some ⟨bE,0,none⟩) nE qE)from rfl);have f0:=zc Z6.out.it 2;have Z7:Hid (Sz B g w0 w (w6.setCell ⟨gi,2,none⟩ (.slice (some ⟨b8,0,none⟩) nE c8)) bs D s2 (.slice (some ⟨bI,0,none⟩) n cI) X gi ⟨⟨im.k,im.n,im.E.set i ⟨(u:Int),p.v,p.n⟩,im.F,im.K,im.lo,im.hi⟩,.slice (some ⟨b8,0,none⟩) nE c8,.slice aF nF qF⟩):=Z6.out.set rfl (O6.out.low hW0) Z6.out.f ⟨by have:=HLE.out.1;show(im.E.set i _).length≤3010;rw[List.length_set];omega,by have:=HLE.out.2;show im.F.length≤3010;omega⟩;go_wp2_with fail
 refine hA.out _ _ _ _ _ s2 ⟨⟨im.k,im.n,im.E.set i ⟨(u:Int),p.v,p.n⟩,im.F,im.K,im.lo,im.hi⟩,.slice (some ⟨b8,0,none⟩) nE c8,.slice aF nF qF⟩ ?_ Z7.out ?_
 ·rfl
 ·have hE9:¬nE=0:=by omega
  unfold yP;rw[←HNE.out];simp only[Nat.reduceEqDiff,if_false,if_neg hE9,Qi.out,HGD.out,TH,if_true,Qu.out]
theorem spE10 {W:World} {gi j n cI bI nE qE nF qF:Nat} {aE aF:Option Addr} {im:Im} {A:Code} {Q:Exit→Act→World→Prop} {v1 v2 v8 v9 v10:Value} {r:List Value} (hr:r.length=108) (Z:Hid (Sz B g w0 w W bs D s (.slice (some ⟨bI,0,none⟩) n cI) X gi ⟨im,.slice aE nE qE,.slice aF nF qF⟩)) (hmem:Hid (⟨im,.slice aE nE qE,.slice aF nF qF⟩∈X)) (hE:0<im.E.length)
  (hA:Hid (∀v8 v9 v10 r' wx s' y,r'.length=108→Sz B g w0 w wx bs D s' (.slice (some ⟨bI,0,none⟩) n cI) X gi y→yP D im 10 s=(y.im,s')→Code.wp Tryz.prog A Q (Fx g w gi (j:Int) 10 v1 v2 v8 v9 v10 r') wx)):Code.wp Tryz.prog (.seq (sL t5) (.seq (sL (sR t5)) (.seq (sL (sR (sR t5))) (.seq (sL (sR (sR (sR t5)))) (.seq (sL (sR (sR (sR (sR t5))))) (.seq (sL (sR (sR (sR (sR (sR t5)))))) (.seq (sL (sR (sR (sR (sR (sR (sR t5))))))) (.seq (sL (sR (sR (sR (sR (sR (sR (sR t5)))))))) (A))))))))) Q (Fx g w gi (j:Int) 10 v1 v2 v8 v9 v10 r) W:=by
 obtain⟨i0,hi,hz0,hz1,hz2⟩:=info_parts yl;have hle:=Z.out.p.le _ hmem.out;dsimp only at hle;obtain⟨bE,qE',e0,-,-⟩:=OwnO.some' Z.out.e hE;injection e0 with e1 hnE e3;subst e1 e3;dsimp only at hnE;have HNE:=Hm hnE;have hE0:0<nE:=by omega
 have hE3:nE≤3000:=by omega
 have HLE:=Hm hle;have HE:=Hm hE;have kE:(0:Int)<(nE:Int):=by omega
 have hb0:Below W.heap.size W (W.alloc (.cells #[] 88)):=zd (Below.refl _ _) _;have B0:=Hm hb0;have R0:Hid ((W.alloc (.cells #[] 88)).ownsRow W.heap.size 88 3 (.slice (some ⟨W.heap.size,0,none⟩) 0 0) 0 (zH [])):=XV W;have z0:W.heap.size≤(W.alloc (.cells #[] 88)).heap.size:=hb0.size
 have newsA:∀j u,(zH im.E)[j]? =some u→(W.alloc (.cells #[] 88)).cell? ((⟨bE,0,none⟩:Addr).add j)=some u:=by
  have:=Z.out.e.below hb0;dsimp only at this;rw[hnE]at this;exact YC this
 have hlen:(zH im.E).length=nE*3:=by rw[yo,hnE]
 have y0:=(zb Z.out.it 2).trans (show _=some (.slice (some ⟨bE,0,none⟩) nE qE)from rfl);have y1:=(zb (zg Z.out.it hb0) 2).trans (show _=some (.slice (some ⟨bE,0,none⟩) nE qE)from rfl);clear hnE hle hE hb0;revert r;refine @zp 108 _ ?_
 iterate 108 (intro _)
 show Code.wp _ _ _ _ _
 conv=>arg 2;dsimp only[t5,t0,Tryz.f33,Option.getD,sR,sL,cT,cF,bk,lpo]
 conv=>arg 4;dsimp only[Fx]
 go_wp2_with (at_builtin;go_must (refine wpList_append_own_at _ rfl _ _ 36 rfl W.heap.size 88 i0 (.agg #[.int .i64 0,.int .i64 0,.string ⟨#[]⟩]) 3 32 Tryz.underlying36 hi hz0 hz1 hz2 rfl (by decide) _ 0 (zH []) rfl R0.out ⟨bE,0,none⟩ nE qE (zH im.E) rfl hlen newsA (Yb im.E) (by unfold maxLen;omega) (by omega) z0 ?_));clear y0 y1;intro v8 w1 ho hgr _ _;have hb1:=yk B0.out R0.out (qp _) z0 hgr
 have O1:Hid (OwnO W.heap.size w1 v8 im.E):=by
  unfold Hid OwnO;rw[←HNE.out];simpa[zH]using ho
 have Z1:=Hm (Z.out.below hb1);have hW0:=Z.out.c.size;obtain⟨b8,c8,rfl,hb8,-⟩:=OwnO.some' O1.out HE.out;rw[←HNE.out]at O1 ⊢;have HN8:Hid (∀y∈X,y.e.ownBlock≠some b8∧y.f.ownBlock≠some b8):=fun y hy=>⟨zM (Z.out.p.e y hy) hb8,zM (Z.out.p.f y hy) hb8⟩
 have HE8:Hid ((Value.slice (some ⟨bE,0,none⟩) nE qE).ownBlock≠some b8):=zM Z.out.e hb8;have HF8:Hid ((Value.slice aF nF qF).ownBlock≠some b8):=zM Z.out.f hb8;clear ho hgr hb1 newsA hlen R0 B0 z0;refine Hid.out ?_;refine Lib.hid ?_;go_wp2_with fail;refine(yq Z1.out.c nE hE0 (by omega)).mono ?_;rintro e' w2 ⟨i,s1,hx,li,rfl,hc,hgb⟩;have Qi:=Hm hx;have O2:=Hm (Z1.out.c.own O1.out hgb);have Z2:=Hm (Z1.out.cur hc hgb);clear hx hc hgb Z1 O1;obtain⟨p,hp⟩:∃p,im.E[i]? =some p:=⟨im.E[i]'(by rw[←HNE.out];exact li),List.getElem?_eq_getElem _⟩;have HPP:=Hm hp;have hgD:im.E.getD i ⟨0,0,[]⟩=p:=by rw[List.getD_eq_getElem?_getD,hp];rfl
 have HGD:=Hm hgD
 have O2':w2.ownsRow W.heap.size 88 3 (.slice (some ⟨b8,0,none⟩) nE c8) nE (im.E.flatMap Po.cells):=by
  have:=O2.out;unfold OwnO zH at this;rw[←HNE.out]at this;exact this
 obtain⟨p0,-⟩:=zk (i:=i*3) O2' ((zm Po.len i im.E p 0 hp (by omega)).trans (show _=some (.int .i64 p.k)from rfl));obtain⟨p1,-⟩:=zk (i:=i*3+1) O2' ((zm Po.len i im.E p 1 hp (by omega)).trans (show _=some (.int .i64 p.v)from rfl));obtain⟨p2,-⟩:=zk (i:=i*3+2) O2' ((zm Po.len i im.E p 2 hp (by omega)).trans (show _=some (.string ⟨p.n.toArray⟩)from rfl));have i0':(0:Int)≤(i:Int):=by omega
 have il:(i:Int)<(nE:Int):=by omega
 clear O2' hp hgD;obtain⟨w3,hw3⟩:∃W',W'=w2.alloc (.cells #[.int .i64 p.k,.int .i64 p.v,.string ⟨p.n.toArray⟩] 88):=⟨_,rfl⟩;have hb3:Below w2.heap.size w2 w3:=by rw[hw3];exact zd (Below.refl _ _) _
 have G3:Hid (w3.heap[w2.heap.size]? =some (.cells #[.int .i64 p.k,.int .i64 p.v,.string ⟨p.n.toArray⟩] 88)):=by rw[hw3];exact zo _ _
 have HNG:Hid (∀y∈X,y.e.ownBlock≠some w2.heap.size∧y.f.ownBlock≠some w2.heap.size):=fun y hy=>⟨zM (Z2.out.p.e y hy) (qp _),zM (Z2.out.p.f y hy) (qp _)⟩
 have HEG:Hid ((Value.slice (some ⟨bE,0,none⟩) nE qE).ownBlock≠some w2.heap.size):=zM Z2.out.e (qp _);have HFG:Hid ((Value.slice aF nF qF).ownBlock≠some w2.heap.size):=zM Z2.out.f (qp _);have H8G:Hid ((Value.slice (some ⟨b8,0,none⟩) nE c8).ownBlock≠some w2.heap.size):=zM O2.out (qp _);have h8g:b8≠w2.heap.size:=fun e=>H8G.out (by rw[←e];rfl)
 have hw20:=Z2.out.c.size;have Z3:=Hm (Z2.out.below hb3);have O3:=Hm (OwnO.below O2.out hb3);clear hb3 Z2 O2;go_upto_region 24 with fail;rw[←hw3];clear hw3 p0 p1 p2;have y0:=cL1 G3.out;have f0:=zc G3.out 1;obtain⟨w5,hw5⟩:∃W',W'=w3.setCell ⟨w2.heap.size,1,none⟩ (.int .i64 (-1)):=⟨_,rfl⟩;have Z5:=Hm (Z3.out.opb (i:=1) (v:=.int .i64 (-1)) ⟨_,_,G3.out⟩ HNG.out HEG.out HFG.out hw20);have O5:=Hm (xW (r:=w2.heap.size) (i:=1) (v:=.int .i64 (-1)) O3.out H8G.out);have G5:=Hm (zq G3.out 1 (.int .i64 (-1)));simp only[qa,qb,qc]at G5;rw[←hw5]at Z5 O5 G5;go_upto_region 32 with fail;rw[←hw5];clear hw5 y0 f0 Z3 O3 G3;have g0:=cL0 G5.out;have g1:=cL1 G5.out;have g2:=cL2 G5.out
 have O5':w5.ownsRow W.heap.size 88 3 (.slice (some ⟨b8,0,none⟩) nE c8) nE (im.E.flatMap Po.cells):=by
  have:=O5.out;unfold OwnO zH at this;rw[←HNE.out]at this;exact this
 obtain⟨p0,f0⟩:=zk (i:=i*3) O5' ((zm Po.len i im.E p 0 HPP.out (by omega)).trans (show _=some (.int .i64 p.k)from rfl));obtain⟨p1,f1⟩:=zk (i:=i*3+1) O5' ((zm Po.len i im.E p 1 HPP.out (by omega)).trans (show _=some (.int .i64 p.v)from rfl));obtain⟨p2,f2⟩:=zk (i:=i*3+2) O5' ((zm Po.len i im.E p 2 HPP.out (by omega)).trans (show _=some (.string ⟨p.n.toArray⟩)from rfl))
 have H85:Blk w5 b8 88:=by
  obtain⟨c,fz,hc⟩:=yC O5' b8 rfl;exact⟨c,fz,hc⟩
 clear O5';obtain⟨w6,hw6⟩:∃W',W'=(((w5.setCell ⟨b8,i*3,none⟩ (.int .i64 p.k)).setCell ⟨b8,i*3+1,none⟩ (.int .i64 (-1))).setCell ⟨b8,i*3+2,none⟩ (.string ⟨p.n.toArray⟩)):=⟨_,rfl⟩
 have Z6:Hid (Sz B g w0 w w6 bs D s1 (.slice (some ⟨bI,0,none⟩) n cI) X gi ⟨im,.slice (some ⟨bE,0,none⟩) nE qE,.slice aF nF qF⟩):=by
  rw[hw6];exact Ys (p:=fun U=>Sz B g w0 w U bs D s1 (.slice (some ⟨bI,0,none⟩) n cI) X gi ⟨im,.slice (some ⟨bE,0,none⟩) nE qE,.slice aF nF qF⟩) (fun U i v hU hz=>hz.opb hU HN8.out HE8.out HF8.out (by omega)) H85 Z5.out _ _ _ _ _ _
 have O6:Hid (OwnO W.heap.size w6 (.slice (some ⟨b8,0,none⟩) nE c8) (im.E.set i ⟨p.k,-1,p.n⟩)):=by
  rw[hw6];exact YR (x':=⟨p.k,-1,p.n⟩) O5.out HPP.out
 go_upto_region 35 with fail;rw[←hw6];clear hw6 g0 g1 g2 p0 p1 p2 f0 f1 f2 Z5 O5 G5 H85;have y0:=(zb Z6.out.it 2).trans (show _=some (.slice (some ⟨bE,0,none⟩) nE qE)from rfl);have f0:=zc Z6.out.it 2;have Z7:Hid (Sz B g w0 w (w6.setCell ⟨gi,2,none⟩ (.slice (some ⟨b8,0,none⟩) nE c8)) bs D s1 (.slice (some ⟨bI,0,none⟩) n cI) X gi ⟨⟨im.k,im.n,im.E.set i ⟨p.k,-1,p.n⟩,im.F,im.K,im.lo,im.hi⟩,.slice (some ⟨b8,0,none⟩) nE c8,.slice aF nF qF⟩):=Z6.out.set rfl (O6.out.low hW0) Z6.out.f ⟨by have:=HLE.out.1;show(im.E.set i _).length≤3010;rw[List.length_set];omega,by have:=HLE.out.2;show im.F.length≤3010;omega⟩;go_wp2_with fail
 refine hA.out _ _ _ _ _ s1 ⟨⟨im.k,im.n,im.E.set i ⟨p.k,-1,p.n⟩,im.F,im.K,im.lo,im.hi⟩,.slice (some ⟨b8,0,none⟩) nE c8,.slice aF nF qF⟩ ?_ Z7.out ?_
 ·rfl
 ·have hE9:¬nE=0:=by omega
  unfold yP;rw[←HNE.out];simp only[Nat.reduceEqDiff,if_false,if_neg hE9,Qi.out,HGD.out,TH,if_true]
theorem spE11 {W:World} {gi j n cI bI nE qE nF qF:Nat} {aE aF:Option Addr} {im:Im} {A:Code} {Q:Exit→Act→World→Prop} {v1 v2 v8 v9 v10:Value} {r:List Value} (hr:r.length=108) (Z:Hid (Sz B g w0 w W bs D s (.slice (some ⟨bI,0,none⟩) n cI) X gi ⟨im,.slice aE nE qE,.slice aF nF qF⟩)) (hmem:Hid (⟨im,.slice aE nE qE,.slice aF nF qF⟩∈X)) (hE:0<im.E.length)
  (hA:Hid (∀v8 v9 v10 r' wx s' y,r'.length=108→Sz B g w0 w wx bs D s' (.slice (some ⟨bI,0,none⟩) n cI) X gi y→yP D im 11 s=(y.im,s')→Code.wp Tryz.prog A Q (Fx g w gi (j:Int) 11 v1 v2 v8 v9 v10 r') wx)):Code.wp Tryz.prog (.seq (sL t5) (.seq (sL (sR t5)) (.seq (sL (sR (sR t5))) (.seq (sL (sR (sR (sR t5)))) (.seq (sL (sR (sR (sR (sR t5))))) (.seq (sL (sR (sR (sR (sR (sR t5)))))) (.seq (sL (sR (sR (sR (sR (sR (sR t5))))))) (.seq (sL (sR (sR (sR (sR (sR (sR (sR t5)))))))) (A))))))))) Q (Fx g w gi (j:Int) 11 v1 v2 v8 v9 v10 r) W:=by
 obtain⟨i0,hi,hz0,hz1,hz2⟩:=info_parts yl;have hle:=Z.out.p.le _ hmem.out;dsimp only at hle;obtain⟨bE,qE',e0,-,-⟩:=OwnO.some' Z.out.e hE;injection e0 with e1 hnE e3;subst e1 e3;dsimp only at hnE;have HNE:=Hm hnE;have hE0:0<nE:=by omega
 have hE3:nE≤3000:=by omega
 have HLE:=Hm hle;have HE:=Hm hE;have kE:(0:Int)<(nE:Int):=by omega
 have hb0:Below W.heap.size W (W.alloc (.cells #[] 88)):=zd (Below.refl _ _) _;have B0:=Hm hb0;have R0:Hid ((W.alloc (.cells #[] 88)).ownsRow W.heap.size 88 3 (.slice (some ⟨W.heap.size,0,none⟩) 0 0) 0 (zH [])):=XV W;have z0:W.heap.size≤(W.alloc (.cells #[] 88)).heap.size:=hb0.size
 have newsA:∀j u,(zH im.E)[j]? =some u→(W.alloc (.cells #[] 88)).cell? ((⟨bE,0,none⟩:Addr).add j)=some u:=by
  have:=Z.out.e.below hb0;dsimp only at this;rw[hnE]at this;exact YC this
 have hlen:(zH im.E).length=nE*3:=by rw[yo,hnE]
 have y0:=(zb Z.out.it 2).trans (show _=some (.slice (some ⟨bE,0,none⟩) nE qE)from rfl);have y1:=(zb (zg Z.out.it hb0) 2).trans (show _=some (.slice (some ⟨bE,0,none⟩) nE qE)from rfl);clear hnE hle hE hb0;revert r;refine @zp 108 _ ?_
 iterate 108 (intro _)
 show Code.wp _ _ _ _ _
 conv=>arg 2;dsimp only[t5,t0,Tryz.f33,Option.getD,sR,sL,cT,cF,bk,lpo]
 conv=>arg 4;dsimp only[Fx]
 go_wp2_with (at_builtin;go_must (refine wpList_append_own_at _ rfl _ _ 36 rfl W.heap.size 88 i0 (.agg #[.int .i64 0,.int .i64 0,.string ⟨#[]⟩]) 3 32 Tryz.underlying36 hi hz0 hz1 hz2 rfl (by decide) _ 0 (zH []) rfl R0.out ⟨bE,0,none⟩ nE qE (zH im.E) rfl hlen newsA (Yb im.E) (by unfold maxLen;omega) (by omega) z0 ?_));clear y0 y1;intro v8 w1 ho hgr _ _;have hb1:=yk B0.out R0.out (qp _) z0 hgr
 have O1:Hid (OwnO W.heap.size w1 v8 im.E):=by
  unfold Hid OwnO;rw[←HNE.out];simpa[zH]using ho
 have Z1:=Hm (Z.out.below hb1);have hW0:=Z.out.c.size;obtain⟨b8,c8,rfl,hb8,-⟩:=OwnO.some' O1.out HE.out;rw[←HNE.out]at O1 ⊢;have HN8:Hid (∀y∈X,y.e.ownBlock≠some b8∧y.f.ownBlock≠some b8):=fun y hy=>⟨zM (Z.out.p.e y hy) hb8,zM (Z.out.p.f y hy) hb8⟩
 have HE8:Hid ((Value.slice (some ⟨bE,0,none⟩) nE qE).ownBlock≠some b8):=zM Z.out.e hb8;have HF8:Hid ((Value.slice aF nF qF).ownBlock≠some b8):=zM Z.out.f hb8;clear ho hgr hb1 newsA hlen R0 B0 z0;refine Hid.out ?_;refine Lib.hid ?_;go_wp2_with fail;refine(yq Z1.out.c nE hE0 (by omega)).mono ?_;rintro e' w2 ⟨i,s1,hx,li,rfl,hc,hgb⟩;have Qi:=Hm hx;have O2:=Hm (Z1.out.c.own O1.out hgb);have Z2:=Hm (Z1.out.cur hc hgb);clear hx hc hgb Z1 O1;obtain⟨p,hp⟩:∃p,im.E[i]? =some p:=⟨im.E[i]'(by rw[←HNE.out];exact li),List.getElem?_eq_getElem _⟩;have HPP:=Hm hp;have hgD:im.E.getD i ⟨0,0,[]⟩=p:=by rw[List.getD_eq_getElem?_getD,hp];rfl
 have HGD:=Hm hgD
 have O2':w2.ownsRow W.heap.size 88 3 (.slice (some ⟨b8,0,none⟩) nE c8) nE (im.E.flatMap Po.cells):=by
  have:=O2.out;unfold OwnO zH at this;rw[←HNE.out]at this;exact this
 obtain⟨p0,-⟩:=zk (i:=i*3) O2' ((zm Po.len i im.E p 0 hp (by omega)).trans (show _=some (.int .i64 p.k)from rfl));obtain⟨p1,-⟩:=zk (i:=i*3+1) O2' ((zm Po.len i im.E p 1 hp (by omega)).trans (show _=some (.int .i64 p.v)from rfl));obtain⟨p2,-⟩:=zk (i:=i*3+2) O2' ((zm Po.len i im.E p 2 hp (by omega)).trans (show _=some (.string ⟨p.n.toArray⟩)from rfl));have i0':(0:Int)≤(i:Int):=by omega
 have il:(i:Int)<(nE:Int):=by omega
 clear O2' hp hgD;obtain⟨w3,hw3⟩:∃W',W'=w2.alloc (.cells #[.int .i64 p.k,.int .i64 p.v,.string ⟨p.n.toArray⟩] 88):=⟨_,rfl⟩;have hb3:Below w2.heap.size w2 w3:=by rw[hw3];exact zd (Below.refl _ _) _
 have G3:Hid (w3.heap[w2.heap.size]? =some (.cells #[.int .i64 p.k,.int .i64 p.v,.string ⟨p.n.toArray⟩] 88)):=by rw[hw3];exact zo _ _
 have HNG:Hid (∀y∈X,y.e.ownBlock≠some w2.heap.size∧y.f.ownBlock≠some w2.heap.size):=fun y hy=>⟨zM (Z2.out.p.e y hy) (qp _),zM (Z2.out.p.f y hy) (qp _)⟩
 have HEG:Hid ((Value.slice (some ⟨bE,0,none⟩) nE qE).ownBlock≠some w2.heap.size):=zM Z2.out.e (qp _);have HFG:Hid ((Value.slice aF nF qF).ownBlock≠some w2.heap.size):=zM Z2.out.f (qp _);have H8G:Hid ((Value.slice (some ⟨b8,0,none⟩) nE c8).ownBlock≠some w2.heap.size):=zM O2.out (qp _);have h8g:b8≠w2.heap.size:=fun e=>H8G.out (by rw[←e];rfl)
 have hw20:=Z2.out.c.size;have Z3:=Hm (Z2.out.below hb3);have O3:=Hm (OwnO.below O2.out hb3);clear hb3 Z2 O2;go_upto_region 24 with fail;rw[←hw3];clear hw3 p0 p1 p2;obtain⟨w5,hw5⟩:∃W',W'=w3:=⟨_,rfl⟩;rw[←hw5]at Z3 O3 G3;have Z5:=Z3;have O5:=O3;have G5:=G3;go_upto_region 32 with fail;rw[←hw5];clear hw5 Z3 O3 G3;have g0:=cL0 G5.out;have g1:=cL1 G5.out;have g2:=cL2 G5.out
 have O5':w5.ownsRow W.heap.size 88 3 (.slice (some ⟨b8,0,none⟩) nE c8) nE (im.E.flatMap Po.cells):=by
  have:=O5.out;unfold OwnO zH at this;rw[←HNE.out]at this;exact this
 obtain⟨p0,f0⟩:=zk (i:=i*3) O5' ((zm Po.len i im.E p 0 HPP.out (by omega)).trans (show _=some (.int .i64 p.k)from rfl));obtain⟨p1,f1⟩:=zk (i:=i*3+1) O5' ((zm Po.len i im.E p 1 HPP.out (by omega)).trans (show _=some (.int .i64 p.v)from rfl));obtain⟨p2,f2⟩:=zk (i:=i*3+2) O5' ((zm Po.len i im.E p 2 HPP.out (by omega)).trans (show _=some (.string ⟨p.n.toArray⟩)from rfl))
 have H85:Blk w5 b8 88:=by
  obtain⟨c,fz,hc⟩:=yC O5' b8 rfl;exact⟨c,fz,hc⟩
 clear O5';obtain⟨w6,hw6⟩:∃W',W'=(((w5.setCell ⟨b8,i*3,none⟩ (.int .i64 p.k)).setCell ⟨b8,i*3+1,none⟩ (.int .i64 p.v)).setCell ⟨b8,i*3+2,none⟩ (.string ⟨p.n.toArray⟩)):=⟨_,rfl⟩
 have Z6:Hid (Sz B g w0 w w6 bs D s1 (.slice (some ⟨bI,0,none⟩) n cI) X gi ⟨im,.slice (some ⟨bE,0,none⟩) nE qE,.slice aF nF qF⟩):=by
  rw[hw6];exact Ys (p:=fun U=>Sz B g w0 w U bs D s1 (.slice (some ⟨bI,0,none⟩) n cI) X gi ⟨im,.slice (some ⟨bE,0,none⟩) nE qE,.slice aF nF qF⟩) (fun U i v hU hz=>hz.opb hU HN8.out HE8.out HF8.out (by omega)) H85 Z5.out _ _ _ _ _ _
 have O6:Hid (OwnO W.heap.size w6 (.slice (some ⟨b8,0,none⟩) nE c8) (im.E.set i p)):=by
  rw[hw6];exact YR (x':=p) O5.out HPP.out
 go_upto_region 33 with fail;rw[←hw6];clear hw6 g0 g1 g2 p0 p1 p2 f0 f1 f2 Z5 O5 G5 H85
 have hset:im.E.set i p=im.E:=by
  refine List.ext_getElem? fun q=>?_
  rw[List.getElem?_set]
  split
  ·rename_i h;subst h;rw[HPP.out];simp;rw[←HNE.out];exact li
  ·rfl
 rw[hset]at O6;have hc8:nE≤c8:=by obtain⟨a',c',e,hh⟩:=zh O6.out;injection e with _ e1 e2;rw[e1,e2];exact hh
 have il8:(i:Int)≤(c8:Int):=by omega
 have O7:Hid (OwnO W.heap.size w6 (.slice (some ⟨b8,0,none⟩) i c8) (im.E.take i)):=OwnO.take O6.out (by rw[←HNE.out];omega);have y0:=(zb Z6.out.it 2).trans (show _=some (.slice (some ⟨bE,0,none⟩) nE qE)from rfl);have f0:=zc Z6.out.it 2;have Z7:Hid (Sz B g w0 w (w6.setCell ⟨gi,2,none⟩ (.slice (some ⟨b8,0,none⟩) i c8)) bs D s1 (.slice (some ⟨bI,0,none⟩) n cI) X gi ⟨⟨im.k,im.n,im.E.take i,im.F,im.K,im.lo,im.hi⟩,.slice (some ⟨b8,0,none⟩) i c8,.slice aF nF qF⟩):=Z6.out.set rfl (O7.out.low hW0) Z6.out.f ⟨by have:=HLE.out.1;show(im.E.take i).length≤3010;rw[List.length_take];omega,by have:=HLE.out.2;show im.F.length≤3010;omega⟩;go_wp2_with fail
 refine hA.out _ _ _ _ _ s1 ⟨⟨im.k,im.n,im.E.take i,im.F,im.K,im.lo,im.hi⟩,.slice (some ⟨b8,0,none⟩) i c8,.slice aF nF qF⟩ ?_ Z7.out ?_
 ·rfl
 ·have hE9:¬nE=0:=by omega
  unfold yP;rw[←HNE.out];simp only[Nat.reduceEqDiff,if_false,if_neg hE9,Qi.out,if_true]
end Go.Proofs.YtbkajklninmhiaaGreatDoor.Dq
