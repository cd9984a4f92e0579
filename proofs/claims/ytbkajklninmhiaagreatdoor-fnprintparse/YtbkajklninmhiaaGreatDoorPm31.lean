import Derived.Test.YtbkajklninmhiaaGreatDoorPm30
set_option maxHeartbeats 6400000
set_option maxRecDepth 1000000
set_option linter.unusedVariables false
set_option linter.unusedSimpArgs false
open List renaming setIfInBounds_toArray → qa, set_cons_zero → qb, set_cons_succ → qc, getElem_cons_succ → qd, getElem_cons_zero → qe, getElem_toArray → qf, length_append → qg
open Nat renaming le_refl → qp
namespace Go.Proofs.YtbkajklninmhiaaGreatDoor.Dq
open Go Go.RowKit Mem Syn Parse Par Draw
attribute [local go_sem ↓] Go.wp_at_zero Go.wp_at_succ
variable {B g:Nat} {w0 w w':World} {bs:List UInt8} {D:Sr} {s s':DS}
variable {iv:Value} {X:List Xi}
theorem unK1 {W:World} {gi j n cI bI nE qE nF qF:Nat} {aE aF:Option Addr} {im:Im} {A:Code} {Q:Exit→Act→World→Prop} {v1 v2 v8 v9 v10 v11 v12:Value} {r:List Value} (hr:r.length=188) (Z:Hid (Sz B g w0 w W bs D s (.slice (some ⟨bI,0,none⟩) n cI) X gi ⟨im,.slice aE nE qE,.slice aF nF qF⟩)) (hmem:Hid (X[j]? =some ⟨im,.slice aE nE qE,.slice aF nF qF⟩)) (hn:n=X.length) (hn1:n≤190) (HP:Hid (∀(c:List PanicEntry) (a a':Act) (w:World),a.defers=a'.defers→Q (.panic c) a w→Q (.panic c) a' w))
  (hA:Hid (∀v8 v9 v10 v11 v12 r' wx s' iv' X',r'.length=188→Ue B g w0 w wx bs D s' iv' X'→ya D (X.map Xi.im) j 1 s=(X'.map Xi.im,s')→Code.wp Tryz.prog A Q (Fu g w gi (j:Int) 1 v1 v2 v8 v9 v10 v11 v12 r') wx)):Code.wp Tryz.prog (.seq (sL u5) (.seq (sL (sR u5)) (.seq (sL (sR (sR u5))) (.seq (sL (sR (sR (sR u5)))) (.seq (sL (sR (sR (sR (sR u5))))) (A)))))) Q (Fu g w gi (j:Int) 1 v1 v2 v8 v9 v10 v11 v12 r) W:=by
 obtain⟨i0,hi,hz0,hz1,hz2⟩:=info_parts Wo;have HN:=Hm hn;obtain⟨WD,hWD⟩:∃V,V=W.drew:=⟨_,rfl⟩;have ZC:Hid (Sz B g w0 w WD bs D s (.slice (some ⟨bI,0,none⟩) n cI) X gi ⟨im,.slice aE nE qE,.slice aF nF qF⟩):=by rw[hWD];exact Z.out.below (Below.refl _ _).drew
 clear hn;revert r;refine @zp 188 _ ?_
 iterate 188 (intro _)
 show Code.wp _ _ _ _ _
 conv=>arg 2;dsimp only[u5,u0,Tryz.f32,Option.getD,sR,sL,cT,cF,bk,lpo]
 conv=>arg 4;dsimp only[Fu]
 go_upto_region 19 with fail;refine wp_region_held_drew (S:=(fun _=>True)) (by kernel_rfl) ?_ (fun hHeld=>?_)
 ·trivial
 rw[←hWD];clear hWD;refine tK 0 ?_ rfl (by kernel_rfl) (fun _ _ _ h=>HP.out _ _ _ _ (put_defers _ _ _) h) (by rfl) ?_ (by assumption) ?_;rotate_left
 ·intro w hSw;(try dsimp only at hSw);go_simp;(try with_reducible rfl)
 rotate_left;simp only[Act.put,qa,qb,qc,qf,qe,qd];refine tK 2 ?_ rfl (by kernel_rfl) (fun _ _ _ h=>HP.out _ _ _ _ (put_defers _ _ _) h) (by rfl) ?_ (by assumption) ?_;rotate_left
 ·intro w hSw;(try dsimp only at hSw);go_simp;(try with_reducible rfl)
 rotate_left;simp only[Act.put,qa,qb,qc,qf,qe,qd];refine wpAnyH_ready (rs:=[1,3]) (by kernel_rfl) (by simp) ?_;refine AllReadyH.cons rfl (fun K hK=>?_) ?_
 ·have y0:=(zb ZC.out.box 0).trans (show _=some ((.slice (some ⟨bI,0,none⟩) n cI))from rfl)
  go_simp;clear y0;refine hK.out _ _ ?_ (fun hHeld=>?_)
  ·trivial
  clear hK K
  (try simp only[Act.put,qa,qb,qc,qf,qe,qd])
  refine wpAnyH_ready (rs:=[3]) (by kernel_rfl) (by simp) ?_;refine AllReadyH.cons rfl (fun K hK=>?_) ?_
  ·go_simp
   refine(yq ZC.out.c 3 (by omega) (by omega)).mono ?_;rintro e' wa ⟨x,s1,hx,lx,rfl,hc,hgb⟩;have Qx:=Hm hx;have ZC:=Hm (ZC.out.cur hc hgb);clear hx hc hgb;refine hK.out _ _ ?_ (fun hHeld=>?_)
   ·trivial
   clear hK K
   (try simp only[Act.put,qa,qb,qc,qf,qe,qd])
   refine wpAnyH_ready (rs:=[4]) (by kernel_rfl) (by simp) ?_;refine AllReadyH.cons rfl (fun K hK=>?_) ?_
   ·go_simp
    refine(Vs x _).mono ?_;rintro e' wb ⟨rfl,rfl⟩;obtain⟨nm,hnm⟩:∃nm,nm=ZJ x:=⟨_,rfl⟩;rw[←hnm];have HNM:=Hm hnm;clear hnm;refine hK.out _ _ ?_ (fun hHeld=>?_)
    ·trivial
    clear hK K
    (try simp only[Act.put,qa,qb,qc,qf,qe,qd])
    refine wpAnyH_ready (rs:=[5]) (by kernel_rfl) (by simp) ?_;refine AllReadyH.cons rfl (fun K hK=>?_) ?_
    ·go_simp
     refine(xO 1 _).mono ?_;rintro e' wc ⟨vb,rfl,ho,hb⟩;have OB:=Hm (ho.low ZC.out.c.size);have AB:Hid (∀z∈X,Ap z.e vb∧Ap z.f vb):=fun z hz=>⟨yw ho (ZC.out.p.e z hz) (qp _),yw ho (ZC.out.p.f z hz) (qp _)⟩
     have ZC:=Hm (ZC.out.below hb);obtain⟨ab,nb,cb,rfl⟩:∃a n c,vb=.slice a n c:=by obtain⟨a,c,e,-⟩:=zh ho;exact⟨_,_,_,e⟩
     clear ho hb;refine hK.out _ _ ?_ (fun hHeld=>?_)
     ·trivial
     clear hK K
     (try simp only[Act.put,qa,qb,qc,qf,qe,qd])
     refine tK 6 ?_ rfl (by kernel_rfl) (fun _ _ _ h=>HP.out _ _ _ _ (put_defers _ _ _) h) (by rfl) ?_ (by assumption) ?_;rotate_left
     ·intro w hSw;(try dsimp only at hSw);go_simp;(try with_reducible rfl)
     rotate_left;simp only[Act.put,qa,qb,qc,qf,qe,qd];refine wpAnyH_ready (rs:=[7]) (by kernel_rfl) (by simp) ?_;refine AllReadyH.cons rfl (fun K hK=>?_) ?_
     ·have fillA:=xT 1 ⟨nm.toArray⟩ ab nb cb none 0 0 0 0 0
      have hb:Below wc.heap.size wc (wc.alloc (.cells (itC ⟨1,nm,[⟨1,1,[]⟩],[],0,0,0⟩ (.slice ab nb cb) (.slice none 0 0)).toArray 38)):=zd (Below.refl _ _) _;have ZC:=Hm (ZC.out.below hb);have OB:=Hm (OwnO.below OB.out hb);clear hb;refine yx rfl 23 38 (.tmp 81) rfl i0 _ Tryz.underlying23 hi hz0 7 hz1 (itC ⟨1,nm,[⟨1,1,[]⟩],[],0,0,0⟩ (.slice ab nb cb) (.slice none 0 0)) (by simp[Act.eval,Act.put,itC]) fillA (by decide) (by decide) ?_;refine hK.out _ _ ?_ (fun hHeld=>?_)
      ·trivial
      clear hK K
      (try simp only[Act.put,qa,qb,qc,qf,qe,qd])
      refine wpAnyH_ready (rs:=[8]) (by kernel_rfl) (by simp) ?_;refine AllReadyH.cons rfl (fun K hK=>?_) ?_
      ·have RA:(wc.alloc (.cells (itC ⟨1,nm,[⟨1,1,[]⟩],[],0,0,0⟩ (.slice ab nb cb) (.slice none 0 0)).toArray 38)).ownsRow w0.heap.size 38 7 (.slice (some ⟨bI,0,none⟩) n cI) n (X.flatMap Xi.cs):=by have:=ZC.out.p.row;rw[←HN.out]at this;exact this
       have newsA:=Zf (w:=wc) ⟨1,nm,[⟨1,1,[]⟩],[],0,0,0⟩ (.slice ab nb cb) (.slice none 0 0) _ rfl;have oneA:=Yd ⟨1,nm,[⟨1,1,[]⟩],[],0,0,0⟩ ab nb cb none 0 0;have hzA:=ZC.out.c.size;refine yy rfl (.tmp 76) (.tmp 82) 23 rfl w0.heap.size 38 i0 (.agg #[.int .i64 0,.string ⟨#[]⟩,.slice none 0 0,.slice none 0 0,.int .i64 0,.int .i64 0,.int .i64 0]) 7 96 Tryz.underlying23 hi hz0 hz1 hz2 rfl (by decide) (.slice (some ⟨bI,0,none⟩) n cI) n (X.flatMap Xi.cs) (by simp[Act.eval,Act.put]) RA ⟨wc.heap.size,0,none⟩ 1 1 (itC ⟨1,nm,[⟨1,1,[]⟩],[],0,0,0⟩ (.slice ab nb cb) (.slice none 0 0)) (by simp[Act.eval,Act.put]) rfl newsA oneA (by unfold maxLen;omega) (by omega) hzA ?_;intro vi w5 hov hgr _
       have P5:Hid (PgO w0.heap.size w5 vi (X++[⟨⟨1,nm,[⟨1,1,[]⟩],[],0,0,0⟩,.slice ab nb cb,.slice none 0 0⟩])):=by
        refine PgO.snoc (z:=⟨⟨1,nm,[⟨1,1,[]⟩],[],0,0,0⟩,.slice ab nb cb,.slice none 0 0⟩) ZC.out.p OB.out (zP _ _) (zS _) ⟨by simp,by simp⟩ (fun z hz=>⟨(AB.out z hz).1,zS _,(AB.out z hz).2,zS _⟩) ?_ hgr;rw[HN.out]at hov;exact hov
       have C5:=Hm (Cu.app ZC.out.c RA (by decide) hgr);have bx5:=Hm (zz hgr RA ZC.out.box (by decide));have rs5:=Hm (zz hgr RA ZC.out.res (by decide));have hl0:=ZC.out.l0;have OD5:=Hm (ZC.out.od.app RA (by decide) hgr);obtain⟨pj,nj,cj,rfl⟩:∃a n c,vi=.slice a n c:=by obtain⟨a,c,e,-⟩:=zh hov;exact⟨_,_,_,e⟩
       clear hov hgr RA newsA oneA;refine hK.out _ _ ?_ (fun hHeld=>?_)
       ·trivial
       clear hK K
       (try simp only[Act.put,qa,qb,qc,qf,qe,qd])
       refine tK 9 ?_ rfl (by kernel_rfl) (fun _ _ _ h=>HP.out _ _ _ _ (put_defers _ _ _) h) (by rfl) ?_ (by assumption) ?_;rotate_left
       ·intro w hSw;(try dsimp only at hSw);go_simp;(try with_reducible rfl)
       rotate_left;simp only[Act.put,qa,qb,qc,qf,qe,qd];refine wpAnyH_ready (rs:=[10]) (by kernel_rfl) (by simp) ?_;refine AllReadyH.cons rfl (fun K hK=>?_) ?_
       ·have y0:=cL0 bx5.out
        have f0:=zc bx5.out 0;go_simp;clear y0 f0;refine hK.out _ _ ?_ (fun hHeld=>?_)
        ·trivial
        clear hK K
        (try simp only[Act.put,qa,qb,qc,qf,qe,qd])
        refine wpAnyH_done (by kernel_rfl) ?_ _;go_wp2_with fail
        have Z2:Hid (Ue B g w0 w (w5.setCell ⟨w.heap.size,0,none⟩ (.slice pj nj cj)) bs D s1 (.slice pj nj cj) (X++[⟨⟨1,nm,[⟨1,1,[]⟩],[],0,0,0⟩,.slice ab nb cb,.slice none 0 0⟩])):=by
         refine⟨Cu.set C5.out hl0,PgO.far P5.out bx5.out (by decide) (by decide),hl0,?_,zu rs5.out (by omega) 0 _,OD5.out.new (qp _),by rw[qg];have:=HN.out;simp;omega⟩;have b1:=zq bx5.out 0 (.slice pj nj cj);simp only[qa,qb,qc]at b1;exact b1
        refine hA.out _ _ _ _ _ _ _ s1 _ (X++[⟨⟨1,nm,[⟨1,1,[]⟩],[],0,0,0⟩,.slice ab nb cb,.slice none 0 0⟩]) ?_ Z2.out ?_
        ·rfl
        ·simp[ya,Qx.out,HNM.out]
       exact AllReadyH.nil
      exact AllReadyH.nil
     exact AllReadyH.nil
    exact AllReadyH.nil
   exact AllReadyH.nil
  exact AllReadyH.nil
 refine AllReadyH.cons rfl (fun K hK=>?_) ?_
 ·go_simp
  refine(yq ZC.out.c 3 (by omega) (by omega)).mono ?_;rintro e' wa ⟨x,s1,hx,lx,rfl,hc,hgb⟩;have Qx:=Hm hx;have ZC:=Hm (ZC.out.cur hc hgb);clear hx hc hgb;refine hK.out _ _ ?_ (fun hHeld=>?_)
  ·trivial
  clear hK K
  (try simp only[Act.put,qa,qb,qc,qf,qe,qd])
  refine wpAnyH_ready (rs:=[1,4]) (by kernel_rfl) (by simp) ?_;refine AllReadyH.cons rfl (fun K hK=>?_) ?_
  ·have y0:=(zb ZC.out.box 0).trans (show _=some ((.slice (some ⟨bI,0,none⟩) n cI))from rfl)
   go_simp;clear y0;refine hK.out _ _ ?_ (fun hHeld=>?_)
   ·trivial
   clear hK K
   (try simp only[Act.put,qa,qb,qc,qf,qe,qd])
   refine wpAnyH_ready (rs:=[4]) (by kernel_rfl) (by simp) ?_;refine AllReadyH.cons rfl (fun K hK=>?_) ?_
   ·go_simp
    refine(Vs x _).mono ?_;rintro e' wb ⟨rfl,rfl⟩;obtain⟨nm,hnm⟩:∃nm,nm=ZJ x:=⟨_,rfl⟩;rw[←hnm];have HNM:=Hm hnm;clear hnm;refine hK.out _ _ ?_ (fun hHeld=>?_)
    ·trivial
    clear hK K
    (try simp only[Act.put,qa,qb,qc,qf,qe,qd])
    refine wpAnyH_ready (rs:=[5]) (by kernel_rfl) (by simp) ?_;refine AllReadyH.cons rfl (fun K hK=>?_) ?_
    ·go_simp
     refine(xO 1 _).mono ?_;rintro e' wc ⟨vb,rfl,ho,hb⟩;have OB:=Hm (ho.low ZC.out.c.size);have AB:Hid (∀z∈X,Ap z.e vb∧Ap z.f vb):=fun z hz=>⟨yw ho (ZC.out.p.e z hz) (qp _),yw ho (ZC.out.p.f z hz) (qp _)⟩
     have ZC:=Hm (ZC.out.below hb);obtain⟨ab,nb,cb,rfl⟩:∃a n c,vb=.slice a n c:=by obtain⟨a,c,e,-⟩:=zh ho;exact⟨_,_,_,e⟩
     clear ho hb;refine hK.out _ _ ?_ (fun hHeld=>?_)
     ·trivial
     clear hK K
     (try simp only[Act.put,qa,qb,qc,qf,qe,qd])
     refine tK 6 ?_ rfl (by kernel_rfl) (fun _ _ _ h=>HP.out _ _ _ _ (put_defers _ _ _) h) (by rfl) ?_ (by assumption) ?_;rotate_left
     ·intro w hSw;(try dsimp only at hSw);go_simp;(try with_reducible rfl)
     rotate_left;simp only[Act.put,qa,qb,qc,qf,qe,qd];refine wpAnyH_ready (rs:=[7]) (by kernel_rfl) (by simp) ?_;refine AllReadyH.cons rfl (fun K hK=>?_) ?_
     ·have fillA:=xT 1 ⟨nm.toArray⟩ ab nb cb none 0 0 0 0 0
      have hb:Below wc.heap.size wc (wc.alloc (.cells (itC ⟨1,nm,[⟨1,1,[]⟩],[],0,0,0⟩ (.slice ab nb cb) (.slice none 0 0)).toArray 38)):=zd (Below.refl _ _) _;have ZC:=Hm (ZC.out.below hb);have OB:=Hm (OwnO.below OB.out hb);clear hb;refine yx rfl 23 38 (.tmp 81) rfl i0 _ Tryz.underlying23 hi hz0 7 hz1 (itC ⟨1,nm,[⟨1,1,[]⟩],[],0,0,0⟩ (.slice ab nb cb) (.slice none 0 0)) (by simp[Act.eval,Act.put,itC]) fillA (by decide) (by decide) ?_;refine hK.out _ _ ?_ (fun hHeld=>?_)
      ·trivial
      clear hK K
      (try simp only[Act.put,qa,qb,qc,qf,qe,qd])
      refine wpAnyH_ready (rs:=[8]) (by kernel_rfl) (by simp) ?_;refine AllReadyH.cons rfl (fun K hK=>?_) ?_
      ·have RA:(wc.alloc (.cells (itC ⟨1,nm,[⟨1,1,[]⟩],[],0,0,0⟩ (.slice ab nb cb) (.slice none 0 0)).toArray 38)).ownsRow w0.heap.size 38 7 (.slice (some ⟨bI,0,none⟩) n cI) n (X.flatMap Xi.cs):=by have:=ZC.out.p.row;rw[←HN.out]at this;exact this
       have newsA:=Zf (w:=wc) ⟨1,nm,[⟨1,1,[]⟩],[],0,0,0⟩ (.slice ab nb cb) (.slice none 0 0) _ rfl;have oneA:=Yd ⟨1,nm,[⟨1,1,[]⟩],[],0,0,0⟩ ab nb cb none 0 0;have hzA:=ZC.out.c.size;refine yy rfl (.tmp 76) (.tmp 82) 23 rfl w0.heap.size 38 i0 (.agg #[.int .i64 0,.string ⟨#[]⟩,.slice none 0 0,.slice none 0 0,.int .i64 0,.int .i64 0,.int .i64 0]) 7 96 Tryz.underlying23 hi hz0 hz1 hz2 rfl (by decide) (.slice (some ⟨bI,0,none⟩) n cI) n (X.flatMap Xi.cs) (by simp[Act.eval,Act.put]) RA ⟨wc.heap.size,0,none⟩ 1 1 (itC ⟨1,nm,[⟨1,1,[]⟩],[],0,0,0⟩ (.slice ab nb cb) (.slice none 0 0)) (by simp[Act.eval,Act.put]) rfl newsA oneA (by unfold maxLen;omega) (by omega) hzA ?_;intro vi w5 hov hgr _
       have P5:Hid (PgO w0.heap.size w5 vi (X++[⟨⟨1,nm,[⟨1,1,[]⟩],[],0,0,0⟩,.slice ab nb cb,.slice none 0 0⟩])):=by
        refine PgO.snoc (z:=⟨⟨1,nm,[⟨1,1,[]⟩],[],0,0,0⟩,.slice ab nb cb,.slice none 0 0⟩) ZC.out.p OB.out (zP _ _) (zS _) ⟨by simp,by simp⟩ (fun z hz=>⟨(AB.out z hz).1,zS _,(AB.out z hz).2,zS _⟩) ?_ hgr;rw[HN.out]at hov;exact hov
       have C5:=Hm (Cu.app ZC.out.c RA (by decide) hgr);have bx5:=Hm (zz hgr RA ZC.out.box (by decide));have rs5:=Hm (zz hgr RA ZC.out.res (by decide));have hl0:=ZC.out.l0;have OD5:=Hm (ZC.out.od.app RA (by decide) hgr);obtain⟨pj,nj,cj,rfl⟩:∃a n c,vi=.slice a n c:=by obtain⟨a,c,e,-⟩:=zh hov;exact⟨_,_,_,e⟩
       clear hov hgr RA newsA oneA;refine hK.out _ _ ?_ (fun hHeld=>?_)
       ·trivial
       clear hK K
       (try simp only[Act.put,qa,qb,qc,qf,qe,qd])
       refine tK 9 ?_ rfl (by kernel_rfl) (fun _ _ _ h=>HP.out _ _ _ _ (put_defers _ _ _) h) (by rfl) ?_ (by assumption) ?_;rotate_left
       ·intro w hSw;(try dsimp only at hSw);go_simp;(try with_reducible rfl)
       rotate_left;simp only[Act.put,qa,qb,qc,qf,qe,qd];refine wpAnyH_ready (rs:=[10]) (by kernel_rfl) (by simp) ?_;refine AllReadyH.cons rfl (fun K hK=>?_) ?_
       ·have y0:=cL0 bx5.out
        have f0:=zc bx5.out 0;go_simp;clear y0 f0;refine hK.out _ _ ?_ (fun hHeld=>?_)
        ·trivial
        clear hK K
        (try simp only[Act.put,qa,qb,qc,qf,qe,qd])
        refine wpAnyH_done (by kernel_rfl) ?_ _;go_wp2_with fail
        have Z2:Hid (Ue B g w0 w (w5.setCell ⟨w.heap.size,0,none⟩ (.slice pj nj cj)) bs D s1 (.slice pj nj cj) (X++[⟨⟨1,nm,[⟨1,1,[]⟩],[],0,0,0⟩,.slice ab nb cb,.slice none 0 0⟩])):=by
         refine⟨Cu.set C5.out hl0,PgO.far P5.out bx5.out (by decide) (by decide),hl0,?_,zu rs5.out (by omega) 0 _,OD5.out.new (qp _),by rw[qg];have:=HN.out;simp;omega⟩;have b1:=zq bx5.out 0 (.slice pj nj cj);simp only[qa,qb,qc]at b1;exact b1
        refine hA.out _ _ _ _ _ _ _ s1 _ (X++[⟨⟨1,nm,[⟨1,1,[]⟩],[],0,0,0⟩,.slice ab nb cb,.slice none 0 0⟩]) ?_ Z2.out ?_
        ·rfl
        ·simp[ya,Qx.out,HNM.out]
       exact AllReadyH.nil
      exact AllReadyH.nil
     exact AllReadyH.nil
    exact AllReadyH.nil
   exact AllReadyH.nil
  refine AllReadyH.cons rfl (fun K hK=>?_) ?_
  ·go_simp
   refine(Vs x _).mono ?_;rintro e' wb ⟨rfl,rfl⟩;obtain⟨nm,hnm⟩:∃nm,nm=ZJ x:=⟨_,rfl⟩;rw[←hnm];have HNM:=Hm hnm;clear hnm;refine hK.out _ _ ?_ (fun hHeld=>?_)
   ·trivial
   clear hK K
   (try simp only[Act.put,qa,qb,qc,qf,qe,qd])
   refine wpAnyH_ready (rs:=[1,5]) (by kernel_rfl) (by simp) ?_;refine AllReadyH.cons rfl (fun K hK=>?_) ?_
   ·have y0:=(zb ZC.out.box 0).trans (show _=some ((.slice (some ⟨bI,0,none⟩) n cI))from rfl)
    go_simp;clear y0;refine hK.out _ _ ?_ (fun hHeld=>?_)
    ·trivial
    clear hK K
    (try simp only[Act.put,qa,qb,qc,qf,qe,qd])
    refine wpAnyH_ready (rs:=[5]) (by kernel_rfl) (by simp) ?_;refine AllReadyH.cons rfl (fun K hK=>?_) ?_
    ·go_simp
     refine(xO 1 _).mono ?_;rintro e' wc ⟨vb,rfl,ho,hb⟩;have OB:=Hm (ho.low ZC.out.c.size);have AB:Hid (∀z∈X,Ap z.e vb∧Ap z.f vb):=fun z hz=>⟨yw ho (ZC.out.p.e z hz) (qp _),yw ho (ZC.out.p.f z hz) (qp _)⟩
     have ZC:=Hm (ZC.out.below hb);obtain⟨ab,nb,cb,rfl⟩:∃a n c,vb=.slice a n c:=by obtain⟨a,c,e,-⟩:=zh ho;exact⟨_,_,_,e⟩
     clear ho hb;refine hK.out _ _ ?_ (fun hHeld=>?_)
     ·trivial
     clear hK K
     (try simp only[Act.put,qa,qb,qc,qf,qe,qd])
     refine tK 6 ?_ rfl (by kernel_rfl) (fun _ _ _ h=>HP.out _ _ _ _ (put_defers _ _ _) h) (by rfl) ?_ (by assumption) ?_;rotate_left
     ·intro w hSw;(try dsimp only at hSw);go_simp;(try with_reducible rfl)
     rotate_left;simp only[Act.put,qa,qb,qc,qf,qe,qd];refine wpAnyH_ready (rs:=[7]) (by kernel_rfl) (by simp) ?_;refine AllReadyH.cons rfl (fun K hK=>?_) ?_
     ·have fillA:=xT 1 ⟨nm.toArray⟩ ab nb cb none 0 0 0 0 0
      have hb:Below wc.heap.size wc (wc.alloc (.cells (itC ⟨1,nm,[⟨1,1,[]⟩],[],0,0,0⟩ (.slice ab nb cb) (.slice none 0 0)).toArray 38)):=zd (Below.refl _ _) _;have ZC:=Hm (ZC.out.below hb);have OB:=Hm (OwnO.below OB.out hb);clear hb;refine yx rfl 23 38 (.tmp 81) rfl i0 _ Tryz.underlying23 hi hz0 7 hz1 (itC ⟨1,nm,[⟨1,1,[]⟩],[],0,0,0⟩ (.slice ab nb cb) (.slice none 0 0)) (by simp[Act.eval,Act.put,itC]) fillA (by decide) (by decide) ?_;refine hK.out _ _ ?_ (fun hHeld=>?_)
      ·trivial
      clear hK K
      (try simp only[Act.put,qa,qb,qc,qf,qe,qd])
      refine wpAnyH_ready (rs:=[8]) (by kernel_rfl) (by simp) ?_;refine AllReadyH.cons rfl (fun K hK=>?_) ?_
      ·have RA:(wc.alloc (.cells (itC ⟨1,nm,[⟨1,1,[]⟩],[],0,0,0⟩ (.slice ab nb cb) (.slice none 0 0)).toArray 38)).ownsRow w0.heap.size 38 7 (.slice (some ⟨bI,0,none⟩) n cI) n (X.flatMap Xi.cs):=by have:=ZC.out.p.row;rw[←HN.out]at this;exact this
       have newsA:=Zf (w:=wc) ⟨1,nm,[⟨1,1,[]⟩],[],0,0,0⟩ (.slice ab nb cb) (.slice none 0 0) _ rfl;have oneA:=Yd ⟨1,nm,[⟨1,1,[]⟩],[],0,0,0⟩ ab nb cb none 0 0;have hzA:=ZC.out.c.size;refine yy rfl (.tmp 76) (.tmp 82) 23 rfl w0.heap.size 38 i0 (.agg #[.int .i64 0,.string ⟨#[]⟩,.slice none 0 0,.slice none 0 0,.int .i64 0,.int .i64 0,.int .i64 0]) 7 96 Tryz.underlying23 hi hz0 hz1 hz2 rfl (by decide) (.slice (some ⟨bI,0,none⟩) n cI) n (X.flatMap Xi.cs) (by simp[Act.eval,Act.put]) RA ⟨wc.heap.size,0,none⟩ 1 1 (itC ⟨1,nm,[⟨1,1,[]⟩],[],0,0,0⟩ (.slice ab nb cb) (.slice none 0 0)) (by simp[Act.eval,Act.put]) rfl newsA oneA (by unfold maxLen;omega) (by omega) hzA ?_;intro vi w5 hov hgr _
       have P5:Hid (PgO w0.heap.size w5 vi (X++[⟨⟨1,nm,[⟨1,1,[]⟩],[],0,0,0⟩,.slice ab nb cb,.slice none 0 0⟩])):=by
        refine PgO.snoc (z:=⟨⟨1,nm,[⟨1,1,[]⟩],[],0,0,0⟩,.slice ab nb cb,.slice none 0 0⟩) ZC.out.p OB.out (zP _ _) (zS _) ⟨by simp,by simp⟩ (fun z hz=>⟨(AB.out z hz).1,zS _,(AB.out z hz).2,zS _⟩) ?_ hgr;rw[HN.out]at hov;exact hov
       have C5:=Hm (Cu.app ZC.out.c RA (by decide) hgr);have bx5:=Hm (zz hgr RA ZC.out.box (by decide));have rs5:=Hm (zz hgr RA ZC.out.res (by decide));have hl0:=ZC.out.l0;have OD5:=Hm (ZC.out.od.app RA (by decide) hgr);obtain⟨pj,nj,cj,rfl⟩:∃a n c,vi=.slice a n c:=by obtain⟨a,c,e,-⟩:=zh hov;exact⟨_,_,_,e⟩
       clear hov hgr RA newsA oneA;refine hK.out _ _ ?_ (fun hHeld=>?_)
       ·trivial
       clear hK K
       (try simp only[Act.put,qa,qb,qc,qf,qe,qd])
       refine tK 9 ?_ rfl (by kernel_rfl) (fun _ _ _ h=>HP.out _ _ _ _ (put_defers _ _ _) h) (by rfl) ?_ (by assumption) ?_;rotate_left
       ·intro w hSw;(try dsimp only at hSw);go_simp;(try with_reducible rfl)
       rotate_left;simp only[Act.put,qa,qb,qc,qf,qe,qd];refine wpAnyH_ready (rs:=[10]) (by kernel_rfl) (by simp) ?_;refine AllReadyH.cons rfl (fun K hK=>?_) ?_
       ·have y0:=cL0 bx5.out
        have f0:=zc bx5.out 0;go_simp;clear y0 f0;refine hK.out _ _ ?_ (fun hHeld=>?_)
        ·trivial
        clear hK K
        (try simp only[Act.put,qa,qb,qc,qf,qe,qd])
        refine wpAnyH_done (by kernel_rfl) ?_ _;go_wp2_with fail
        have Z2:Hid (Ue B g w0 w (w5.setCell ⟨w.heap.size,0,none⟩ (.slice pj nj cj)) bs D s1 (.slice pj nj cj) (X++[⟨⟨1,nm,[⟨1,1,[]⟩],[],0,0,0⟩,.slice ab nb cb,.slice none 0 0⟩])):=by
         refine⟨Cu.set C5.out hl0,PgO.far P5.out bx5.out (by decide) (by decide),hl0,?_,zu rs5.out (by omega) 0 _,OD5.out.new (qp _),by rw[qg];have:=HN.out;simp;omega⟩;have b1:=zq bx5.out 0 (.slice pj nj cj);simp only[qa,qb,qc]at b1;exact b1
        refine hA.out _ _ _ _ _ _ _ s1 _ (X++[⟨⟨1,nm,[⟨1,1,[]⟩],[],0,0,0⟩,.slice ab nb cb,.slice none 0 0⟩]) ?_ Z2.out ?_
        ·rfl
        ·simp[ya,Qx.out,HNM.out]
       exact AllReadyH.nil
      exact AllReadyH.nil
     exact AllReadyH.nil
    exact AllReadyH.nil
   refine AllReadyH.cons rfl (fun K hK=>?_) ?_
   ·go_simp
    refine(xO 1 _).mono ?_;rintro e' wc ⟨vb,rfl,ho,hb⟩;have OB:=Hm (ho.low ZC.out.c.size);have AB:Hid (∀z∈X,Ap z.e vb∧Ap z.f vb):=fun z hz=>⟨yw ho (ZC.out.p.e z hz) (qp _),yw ho (ZC.out.p.f z hz) (qp _)⟩
    have ZC:=Hm (ZC.out.below hb);obtain⟨ab,nb,cb,rfl⟩:∃a n c,vb=.slice a n c:=by obtain⟨a,c,e,-⟩:=zh ho;exact⟨_,_,_,e⟩
    clear ho hb;refine hK.out _ _ ?_ (fun hHeld=>?_)
    ·trivial
    clear hK K
    (try simp only[Act.put,qa,qb,qc,qf,qe,qd])
    refine tK 6 ?_ rfl (by kernel_rfl) (fun _ _ _ h=>HP.out _ _ _ _ (put_defers _ _ _) h) (by rfl) ?_ (by assumption) ?_;rotate_left
    ·intro w hSw;(try dsimp only at hSw);go_simp;(try with_reducible rfl)
    rotate_left;simp only[Act.put,qa,qb,qc,qf,qe,qd];refine wpAnyH_ready (rs:=[1,7]) (by kernel_rfl) (by simp) ?_;refine AllReadyH.cons rfl (fun K hK=>?_) ?_
    ·have y0:=(zb ZC.out.box 0).trans (show _=some ((.slice (some ⟨bI,0,none⟩) n cI))from rfl)
     go_simp;clear y0;refine hK.out _ _ ?_ (fun hHeld=>?_)
     ·trivial
     clear hK K
     (try simp only[Act.put,qa,qb,qc,qf,qe,qd])
     refine wpAnyH_ready (rs:=[7]) (by kernel_rfl) (by simp) ?_;refine AllReadyH.cons rfl (fun K hK=>?_) ?_
     ·have fillA:=xT 1 ⟨nm.toArray⟩ ab nb cb none 0 0 0 0 0
      have hb:Below wc.heap.size wc (wc.alloc (.cells (itC ⟨1,nm,[⟨1,1,[]⟩],[],0,0,0⟩ (.slice ab nb cb) (.slice none 0 0)).toArray 38)):=zd (Below.refl _ _) _;have ZC:=Hm (ZC.out.below hb);have OB:=Hm (OwnO.below OB.out hb);clear hb;refine yx rfl 23 38 (.tmp 81) rfl i0 _ Tryz.underlying23 hi hz0 7 hz1 (itC ⟨1,nm,[⟨1,1,[]⟩],[],0,0,0⟩ (.slice ab nb cb) (.slice none 0 0)) (by simp[Act.eval,Act.put,itC]) fillA (by decide) (by decide) ?_;refine hK.out _ _ ?_ (fun hHeld=>?_)
      ·trivial
      clear hK K
      (try simp only[Act.put,qa,qb,qc,qf,qe,qd])
      refine wpAnyH_ready (rs:=[8]) (by kernel_rfl) (by simp) ?_;refine AllReadyH.cons rfl (fun K hK=>?_) ?_
      ·have RA:(wc.alloc (.cells (itC ⟨1,nm,[⟨1,1,[]⟩],[],0,0,0⟩ (.slice ab nb cb) (.slice none 0 0)).toArray 38)).ownsRow w0.heap.size 38 7 (.slice (some ⟨bI,0,none⟩) n cI) n (X.flatMap Xi.cs):=by have:=ZC.out.p.row;rw[←HN.out]at this;exact this
       have newsA:=Zf (w:=wc) ⟨1,nm,[⟨1,1,[]⟩],[],0,0,0⟩ (.slice ab nb cb) (.slice none 0 0) _ rfl;have oneA:=Yd ⟨1,nm,[⟨1,1,[]⟩],[],0,0,0⟩ ab nb cb none 0 0;have hzA:=ZC.out.c.size;refine yy rfl (.tmp 76) (.tmp 82) 23 rfl w0.heap.size 38 i0 (.agg #[.int .i64 0,.string ⟨#[]⟩,.slice none 0 0,.slice none 0 0,.int .i64 0,.int .i64 0,.int .i64 0]) 7 96 Tryz.underlying23 hi hz0 hz1 hz2 rfl (by decide) (.slice (some ⟨bI,0,none⟩) n cI) n (X.flatMap Xi.cs) (by simp[Act.eval,Act.put]) RA ⟨wc.heap.size,0,none⟩ 1 1 (itC ⟨1,nm,[⟨1,1,[]⟩],[],0,0,0⟩ (.slice ab nb cb) (.slice none 0 0)) (by simp[Act.eval,Act.put]) rfl newsA oneA (by unfold maxLen;omega) (by omega) hzA ?_;intro vi w5 hov hgr _
       have P5:Hid (PgO w0.heap.size w5 vi (X++[⟨⟨1,nm,[⟨1,1,[]⟩],[],0,0,0⟩,.slice ab nb cb,.slice none 0 0⟩])):=by
        refine PgO.snoc (z:=⟨⟨1,nm,[⟨1,1,[]⟩],[],0,0,0⟩,.slice ab nb cb,.slice none 0 0⟩) ZC.out.p OB.out (zP _ _) (zS _) ⟨by simp,by simp⟩ (fun z hz=>⟨(AB.out z hz).1,zS _,(AB.out z hz).2,zS _⟩) ?_ hgr;rw[HN.out]at hov;exact hov
       have C5:=Hm (Cu.app ZC.out.c RA (by decide) hgr);have bx5:=Hm (zz hgr RA ZC.out.box (by decide));have rs5:=Hm (zz hgr RA ZC.out.res (by decide));have hl0:=ZC.out.l0;have OD5:=Hm (ZC.out.od.app RA (by decide) hgr);obtain⟨pj,nj,cj,rfl⟩:∃a n c,vi=.slice a n c:=by obtain⟨a,c,e,-⟩:=zh hov;exact⟨_,_,_,e⟩
       clear hov hgr RA newsA oneA;refine hK.out _ _ ?_ (fun hHeld=>?_)
       ·trivial
       clear hK K
       (try simp only[Act.put,qa,qb,qc,qf,qe,qd])
       refine tK 9 ?_ rfl (by kernel_rfl) (fun _ _ _ h=>HP.out _ _ _ _ (put_defers _ _ _) h) (by rfl) ?_ (by assumption) ?_;rotate_left
       ·intro w hSw;(try dsimp only at hSw);go_simp;(try with_reducible rfl)
       rotate_left;simp only[Act.put,qa,qb,qc,qf,qe,qd];refine wpAnyH_ready (rs:=[10]) (by kernel_rfl) (by simp) ?_;refine AllReadyH.cons rfl (fun K hK=>?_) ?_
       ·have y0:=cL0 bx5.out
        have f0:=zc bx5.out 0;go_simp;clear y0 f0;refine hK.out _ _ ?_ (fun hHeld=>?_)
        ·trivial
        clear hK K
        (try simp only[Act.put,qa,qb,qc,qf,qe,qd])
        refine wpAnyH_done (by kernel_rfl) ?_ _;go_wp2_with fail
        have Z2:Hid (Ue B g w0 w (w5.setCell ⟨w.heap.size,0,none⟩ (.slice pj nj cj)) bs D s1 (.slice pj nj cj) (X++[⟨⟨1,nm,[⟨1,1,[]⟩],[],0,0,0⟩,.slice ab nb cb,.slice none 0 0⟩])):=by
         refine⟨Cu.set C5.out hl0,PgO.far P5.out bx5.out (by decide) (by decide),hl0,?_,zu rs5.out (by omega) 0 _,OD5.out.new (qp _),by rw[qg];have:=HN.out;simp;omega⟩;have b1:=zq bx5.out 0 (.slice pj nj cj);simp only[qa,qb,qc]at b1;exact b1
        refine hA.out _ _ _ _ _ _ _ s1 _ (X++[⟨⟨1,nm,[⟨1,1,[]⟩],[],0,0,0⟩,.slice ab nb cb,.slice none 0 0⟩]) ?_ Z2.out ?_
        ·rfl
        ·simp[ya,Qx.out,HNM.out]
       exact AllReadyH.nil
      exact AllReadyH.nil
     exact AllReadyH.nil
    refine AllReadyH.cons rfl (fun K hK=>?_) ?_
    ·have fillA:=xT 1 ⟨nm.toArray⟩ ab nb cb none 0 0 0 0 0
     have hb:Below wc.heap.size wc (wc.alloc (.cells (itC ⟨1,nm,[⟨1,1,[]⟩],[],0,0,0⟩ (.slice ab nb cb) (.slice none 0 0)).toArray 38)):=zd (Below.refl _ _) _;have ZC:=Hm (ZC.out.below hb);have OB:=Hm (OwnO.below OB.out hb);clear hb;refine yx rfl 23 38 (.tmp 81) rfl i0 _ Tryz.underlying23 hi hz0 7 hz1 (itC ⟨1,nm,[⟨1,1,[]⟩],[],0,0,0⟩ (.slice ab nb cb) (.slice none 0 0)) (by simp[Act.eval,Act.put,itC]) fillA (by decide) (by decide) ?_;refine hK.out _ _ ?_ (fun hHeld=>?_)
     ·trivial
     clear hK K
     (try simp only[Act.put,qa,qb,qc,qf,qe,qd])
     refine wpAnyH_ready (rs:=[1]) (by kernel_rfl) (by simp) ?_;refine AllReadyH.cons rfl (fun K hK=>?_) ?_
     ·have y0:=(zb ZC.out.box 0).trans (show _=some ((.slice (some ⟨bI,0,none⟩) n cI))from rfl)
      go_simp;clear y0;refine hK.out _ _ ?_ (fun hHeld=>?_)
      ·trivial
      clear hK K
      (try simp only[Act.put,qa,qb,qc,qf,qe,qd])
      refine wpAnyH_ready (rs:=[8]) (by kernel_rfl) (by simp) ?_;refine AllReadyH.cons rfl (fun K hK=>?_) ?_
      ·have RA:(wc.alloc (.cells (itC ⟨1,nm,[⟨1,1,[]⟩],[],0,0,0⟩ (.slice ab nb cb) (.slice none 0 0)).toArray 38)).ownsRow w0.heap.size 38 7 (.slice (some ⟨bI,0,none⟩) n cI) n (X.flatMap Xi.cs):=by have:=ZC.out.p.row;rw[←HN.out]at this;exact this
       have newsA:=Zf (w:=wc) ⟨1,nm,[⟨1,1,[]⟩],[],0,0,0⟩ (.slice ab nb cb) (.slice none 0 0) _ rfl;have oneA:=Yd ⟨1,nm,[⟨1,1,[]⟩],[],0,0,0⟩ ab nb cb none 0 0;have hzA:=ZC.out.c.size;refine yy rfl (.tmp 76) (.tmp 82) 23 rfl w0.heap.size 38 i0 (.agg #[.int .i64 0,.string ⟨#[]⟩,.slice none 0 0,.slice none 0 0,.int .i64 0,.int .i64 0,.int .i64 0]) 7 96 Tryz.underlying23 hi hz0 hz1 hz2 rfl (by decide) (.slice (some ⟨bI,0,none⟩) n cI) n (X.flatMap Xi.cs) (by simp[Act.eval,Act.put]) RA ⟨wc.heap.size,0,none⟩ 1 1 (itC ⟨1,nm,[⟨1,1,[]⟩],[],0,0,0⟩ (.slice ab nb cb) (.slice none 0 0)) (by simp[Act.eval,Act.put]) rfl newsA oneA (by unfold maxLen;omega) (by omega) hzA ?_;intro vi w5 hov hgr _
       have P5:Hid (PgO w0.heap.size w5 vi (X++[⟨⟨1,nm,[⟨1,1,[]⟩],[],0,0,0⟩,.slice ab nb cb,.slice none 0 0⟩])):=by
        refine PgO.snoc (z:=⟨⟨1,nm,[⟨1,1,[]⟩],[],0,0,0⟩,.slice ab nb cb,.slice none 0 0⟩) ZC.out.p OB.out (zP _ _) (zS _) ⟨by simp,by simp⟩ (fun z hz=>⟨(AB.out z hz).1,zS _,(AB.out z hz).2,zS _⟩) ?_ hgr;rw[HN.out]at hov;exact hov
       have C5:=Hm (Cu.app ZC.out.c RA (by decide) hgr);have bx5:=Hm (zz hgr RA ZC.out.box (by decide));have rs5:=Hm (zz hgr RA ZC.out.res (by decide));have hl0:=ZC.out.l0;have OD5:=Hm (ZC.out.od.app RA (by decide) hgr);obtain⟨pj,nj,cj,rfl⟩:∃a n c,vi=.slice a n c:=by obtain⟨a,c,e,-⟩:=zh hov;exact⟨_,_,_,e⟩
       clear hov hgr RA newsA oneA;refine hK.out _ _ ?_ (fun hHeld=>?_)
       ·trivial
       clear hK K
       (try simp only[Act.put,qa,qb,qc,qf,qe,qd])
       refine tK 9 ?_ rfl (by kernel_rfl) (fun _ _ _ h=>HP.out _ _ _ _ (put_defers _ _ _) h) (by rfl) ?_ (by assumption) ?_;rotate_left
       ·intro w hSw;(try dsimp only at hSw);go_simp;(try with_reducible rfl)
       rotate_left;simp only[Act.put,qa,qb,qc,qf,qe,qd];refine wpAnyH_ready (rs:=[10]) (by kernel_rfl) (by simp) ?_;refine AllReadyH.cons rfl (fun K hK=>?_) ?_
       ·have y0:=cL0 bx5.out
        have f0:=zc bx5.out 0;go_simp;clear y0 f0;refine hK.out _ _ ?_ (fun hHeld=>?_)
        ·trivial
        clear hK K
        (try simp only[Act.put,qa,qb,qc,qf,qe,qd])
        refine wpAnyH_done (by kernel_rfl) ?_ _;go_wp2_with fail
        have Z2:Hid (Ue B g w0 w (w5.setCell ⟨w.heap.size,0,none⟩ (.slice pj nj cj)) bs D s1 (.slice pj nj cj) (X++[⟨⟨1,nm,[⟨1,1,[]⟩],[],0,0,0⟩,.slice ab nb cb,.slice none 0 0⟩])):=by
         refine⟨Cu.set C5.out hl0,PgO.far P5.out bx5.out (by decide) (by decide),hl0,?_,zu rs5.out (by omega) 0 _,OD5.out.new (qp _),by rw[qg];have:=HN.out;simp;omega⟩;have b1:=zq bx5.out 0 (.slice pj nj cj);simp only[qa,qb,qc]at b1;exact b1
        refine hA.out _ _ _ _ _ _ _ s1 _ (X++[⟨⟨1,nm,[⟨1,1,[]⟩],[],0,0,0⟩,.slice ab nb cb,.slice none 0 0⟩]) ?_ Z2.out ?_
        ·rfl
        ·simp[ya,Qx.out,HNM.out]
       exact AllReadyH.nil
      exact AllReadyH.nil
     exact AllReadyH.nil
    exact AllReadyH.nil
   exact AllReadyH.nil
  exact AllReadyH.nil
 exact AllReadyH.nil
end Go.Proofs.YtbkajklninmhiaaGreatDoor.Dq
