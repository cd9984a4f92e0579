import Derived.Test.YtbdldkpifanaiaaDoorCr17
set_option maxHeartbeats 6400000
set_option maxRecDepth 100000
set_option linter.unusedVariables false
set_option linter.unusedSimpArgs false
open List renaming setIfInBounds_toArray → qa, set_cons_zero → qb, set_cons_succ → qc, getElem_cons_succ → qd, getElem_cons_zero → qe, getElem_toArray → qf, append_assoc → qj, getElem?_toArray → qk, getElem?_cons_zero → ql, getElem?_cons_succ → qm
open Nat renaming le_refl → qn
namespace Go.Proofs.YtbdldkpifanaiaaDoor.Enc
open Go Go.RowKit Mem ValC
attribute [local go_sem ↓] Go.wp_at_zero Go.wp_at_succ
theorem encodeG (a1 a2 a3:Option Addr) (c1 c2 c3:Nat) (C:Co) (w:World) (h:Zl w a1 a2 a3 C) (r1:Cd.RdL w (.slice a1 C.n1 c1) (lis C.B1 C.n1)) (r2:Cd.RdL w (.slice a2 C.n2 c2) (lis C.B2 C.n2)) (r3:Cd.RdL w (.slice a3 C.n3 c3) (lis C.B3 C.n3)) (h1:C.n1≤1048576) (h2:C.n2≤1048576) (h3:C.n3≤1048576):
  Calls Tryd.prog 21 #[.agg #[.int .i64 C.R,.int .i64 C.S,.slice a1 C.n1 c1,.slice a2 C.n2 c2,.slice a3 C.n3 c3]] w fun e w'=>∃v,e=.returned v∧Own w.heap.size w' v (answer C)∧Below w.heap.size w w':=by
 obtain⟨i0,hi,hz0,hz1,hz2⟩:=info_parts infoB;obtain⟨j0,hj,hy0,hy1,hy2⟩:=info_parts YF;have H:=Hm h;have RQ:=Hm (And.intro r1 (And.intro r2 r3));clear h r1 r2 r3;have HK:Hid (Below w.heap.size w (w.alloc (.cells #[.int .i64 C.R,.int .i64 C.S,.slice a1 C.n1 c1,.slice a2 C.n2 c2,.slice a3 C.n3 c3] 25))):=by unfold Hid;go_grown
 go_enter Tryd.func21,Tryd.ntmps21;go_wp2_with fail;refine(ValCS.validS a1 a2 a3 c1 c2 c3 C _ (H.out.below HK.out) h1 h2 h3).mono ?_;rintro e w1 ⟨rfl,hb1⟩;have HB1:=Hm (zg HK.out hb1);have A1:=Hm (ze (zi w (.cells #[.int .i64 C.R,.int .i64 C.S,.slice a1 C.n1 c1,.slice a2 C.n2 c2,.slice a3 C.n3 c3] 25)) hb1);clear hb1 HK
 cases hok:yD C with
 |false=>
  have ha:Hid (answer C=[]):=by unfold Hid answer;rw[hok];rfl
  go_wp2;go_ret;exact⟨_,rfl,by rw[ha.out];exact Joins.ownsRow_le (own_empty w1 _ rfl) HB1.out.size,zf HB1.out _⟩
 |true=>
  have ha:Hid (answer C=vrs (xI C)):=by unfold Hid answer;rw[if_pos hok];rfl
  have HG:=Hm (good_co hok);obtain⟨L,hL⟩:∃L,L=XQ C:=⟨_,rfl⟩;have hLl:Hid (L.length=C.n1+C.n2+C.n3):=by unfold Hid;rw[hL];exact XP C
  have hLn:L.length≤49152:=by rw[hLl.out];have:=HG.out.b1.len;have:=HG.out.b2.len;have:=HG.out.b3.len;omega
  have HLN:Hid (xI C=xm C++L.flatMap yZ):=by unfold Hid;rw[hL];exact XN C
  have HLC:Hid ((XQ C).flatMap Is.cells=L.flatMap Is.cells):=by unfold Hid;rw[hL]
  have HL0:Hid (XQ C=L):=hL.symm;clear hL;have x0:=za A1.out 0;have x1:=za A1.out 1;have x2:=za A1.out 2;have x3:=za A1.out 3;have x4:=za A1.out 4;simp only[qk,ql,qm]at x0 x1 x2 x3 x4;have zz:=zu A1.out;go_wp2_with fail;clear x0 x1 x2 x3 x4;obtain⟨W,hW⟩:∃W,W=(w1.alloc (.cells #[.int .i64 C.R,.int .i64 C.S,.int .i64 (C.n1:Int),.int .i64 (C.n2:Int),.int .i64 (C.n3:Int)] 2)).alloc (.cells #[.slice a1 C.n1 c1,.slice a2 C.n2 c2,.slice a3 C.n3 c3] 23):=⟨_,rfl⟩;have HBW:Hid (Below w.heap.size w W):=by rw[hW];exact zf (zf HB1.out _) _
  have hP:W.heap[w1.heap.size+1]? =some (.cells #[.slice a1 C.n1 c1,.slice a2 C.n2 c2,.slice a3 C.n3 c3] 23):=by rw[hW];exact zx _ _ _
  have hN0:Hid (W.ownsRow w.heap.size 2 1 (.slice (some ⟨w1.heap.size,0,none⟩) 5 5) 5 (ints (xm C))):=by
   rw[hW];exact(World.ownsRow_lit (base:=w.heap.size) (e:=2) (size:=1) w1 _ 5 HB1.out.size (by unfold maxLen;omega) rfl).alloc _
  rw[←hW];clear hW;refine(Cd.seqG (w1.heap.size+1) 3 3 (fun i=>if i=0 then .slice a1 C.n1 c1 else if i=1 then .slice a2 C.n2 c2 else .slice a3 C.n3 c3) (fun i=>if i=0 then lis C.B1 C.n1 else if i=1 then lis C.B2 C.n2 else lis C.B3 C.n3) W (by omega) ?c ?s ?n).mono ?_
  case c=>
   intro i hi;rw[za hP i]
   match i,hi with
   |0,_=>rfl
   |1,_=>rfl
   |2,_=>rfl
  case s=>
   intro i hi
   match i,hi with
   |0,_=>exact RQ.out.1.below HBW.out
   |1,_=>exact RQ.out.2.1.below HBW.out
   |2,_=>exact RQ.out.2.2.below HBW.out
  case n=>
   intro i hi
   match i,hi with
   |0,_=>have:=HG.out.b1.len;show(lis C.B1 C.n1).length≤1000000;rw[Zi];omega
   |1,_=>have:=HG.out.b2.len;show(lis C.B2 C.n2).length≤1000000;rw[Zi];omega
   |2,_=>have:=HG.out.b3.len;show(lis C.B3 C.n3).length≤1000000;rw[Zi];omega
  rintro e w3 ⟨va,rfl,hoi,hb3⟩
  have hcat:Cd.catL (fun i=>if i=0 then lis C.B1 C.n1 else if i=1 then lis C.B2 C.n2 else lis C.B3 C.n3) 3=L:=by
   rw[←HL0.out];simp[Cd.catL,XQ]
  rw[hcat]at hoi;have hoa:w3.ownsRow W.heap.size 60 4 va L.length (L.flatMap Is.cells):=hoi;clear hcat hoi;have HA:=Hm (Joins.ownsRow_le hoa HBW.out.size);have HN:=Hm (ownsRow_below hN0.out hb3);have HB3:=Hm (zg HBW.out hb3);clear hoa hb3 hP hN0 HBW HB1 A1 zz;obtain⟨aa,ca,hva⟩:=Yo HA.out;rw[hva]at HA ⊢;clear hva;go_wp2_with fail;go_loopw [3,5] (fun v i wr=>∃k:Nat,k≤L.length∧i=.int .i64 k∧Hid (wr.ownsRow w.heap.size 2 1 v (5+4*k) (ints (xm C++(L.take k).flatMap yZ)))∧Hid (wr.ownsRow w.heap.size 60 4 (.slice aa L.length ca) L.length (L.flatMap Is.cells))∧Hid (Below w.heap.size w wr)) (fun _ i _=>L.length- (intOf i).toNat)
  case atStart=>exact⟨0,Nat.zero_le _,rfl,by unfold Hid;rw[List.take_zero,List.flatMap_nil,List.append_nil];exact HN.out,HA,HB3⟩
  case round=>
   clear HN HA HB3;obtain⟨k,hk,rfl,ho,hal,hb⟩:=hrel;have hsz:=hb.out.size;obtain⟨an,cn,hv⟩:=Yo ho.out;rw[hv]at ho ⊢;clear hv;by_cases hlt:k<L.length
   ·obtain⟨ga,cap',hva⟩:=Joins.ownsRow_form hal.out (by omega)
    injection hva with hva _ hcc;subst hva;subst hcc;obtain⟨e0,e1,e2,e3⟩:=VM hal.out hlt;have hst:=Hm (Tf L k hlt);obtain⟨x,hx⟩:∃x,x=L[k]'hlt:=⟨_,rfl⟩;have hx0:Hid (L[k]'hlt=x):=hx.symm;have hlt0:=Hm hlt;rw[←hx]at e0 e1 e2 e3 hst;clear hx;have k0:(0:Int)≤(k:Int):=by omega
    have k1:(k:Int)<(L.length:Int):=by omega
    go_upto_region 8 with fail;refine wp_region_held_drew (S:=(fun w'=>w'.cell? ⟨ga,k*4,none⟩=some (.int .i64 x.p)∧w'.cell? ⟨ga,k*4+1,none⟩=some (.int .i64 x.a)∧w'.cell? ⟨ga,k*4+2,none⟩=some (.int .i64 x.b)∧w'.cell? ⟨ga,k*4+3,none⟩=some (.int .i64 x.c))) (by kernel_rfl) ?_ (fun hHeld=>?_)
    ·go_keep
    refine tK 0 ?_ rfl (by kernel_rfl) (fun _ _ _ h=>h) (by rfl) ?_ (by assumption) ?_;rotate_left
    ·intro w hSw;(try dsimp only at hSw);go_simp;(try with_reducible rfl)
    rotate_left;simp only[Act.put,qa,qb,qc,qf,qe,qd];refine tK 1 ?_ rfl (by kernel_rfl) (fun _ _ _ h=>h) (by rfl) ?_ (by assumption) ?_;rotate_left
    ·intro w hSw;(try dsimp only at hSw);go_simp;(try with_reducible rfl)
    rotate_left;simp only[Act.put,qa,qb,qc,qf,qe,qd];refine tK 2 ?_ rfl (by kernel_rfl) (fun _ _ _ h=>h) (by rfl) ?_ (by assumption) ?_;rotate_left
    ·intro w hSw;(try dsimp only at hSw);go_simp;(try with_reducible rfl)
    rotate_left;simp only[Act.put,qa,qb,qc,qf,qe,qd];refine tK 3 ?_ rfl (by kernel_rfl) (fun _ _ _ h=>h) (by rfl) ?_ (by assumption) ?_;rotate_left
    ·intro w hSw;(try dsimp only at hSw);go_simp;(try with_reducible rfl)
    rotate_left;simp only[Act.put,qa,qb,qc,qf,qe,qd];refine tK 4 ?_ rfl (by kernel_rfl) (fun _ _ _ h=>h) (by rfl) ?_ (by assumption) ?_;rotate_left
    ·intro w hSw;(try dsimp only at hSw);go_simp;(try with_reducible rfl)
    rotate_left;simp only[Act.put,qa,qb,qc,qf,qe,qd];refine tK 5 ?_ rfl (by kernel_rfl) (fun _ _ _ h=>h) (by rfl) ?_ (by assumption) ?_;rotate_left
    ·intro w hSw;(try dsimp only at hSw);go_simp;(try with_reducible rfl)
    rotate_left;simp only[Act.put,qa,qb,qc,qf,qe,qd];refine tK 6 ?_ rfl (by kernel_rfl) (fun _ _ _ h=>h) (by rfl) ?_ (by assumption) ?_;rotate_left
    ·intro w hSw;(try dsimp only at hSw);go_simp;(try with_reducible rfl)
    rotate_left;simp only[Act.put,qa,qb,qc,qf,qe,qd];refine tK 7 ?_ rfl (by kernel_rfl) (fun _ _ _ h=>h) (by rfl) ?_ (by assumption) ?_;rotate_left
    ·intro w hSw;(try dsimp only at hSw);go_simp;(try with_reducible rfl)
    rotate_left;simp only[Act.put,qa,qb,qc,qf,qe,qd];refine tK 8 ?_ rfl (by kernel_rfl) (fun _ _ _ h=>h) (by rfl) ?_ (by assumption) ?_;rotate_left
    ·intro w hSw;(try dsimp only at hSw);go_simp;(try with_reducible rfl)
    rotate_left;simp only[Act.put,qa,qb,qc,qf,qe,qd];refine tK 9 ?_ rfl (by kernel_rfl) (fun _ _ _ h=>h) (by rfl) ?_ (by assumption) ?_;rotate_left
    ·intro w hSw;(try dsimp only at hSw);go_simp;(try with_reducible rfl)
    rotate_left;simp only[Act.put,qa,qb,qc,qf,qe,qd];refine tK 10 ?_ rfl (by kernel_rfl) (fun _ _ _ h=>h) (by rfl) ?_ (by assumption) ?_;rotate_left
    ·intro w hSw;(try dsimp only at hSw);go_simp;(try with_reducible rfl)
    rotate_left;simp only[Act.put,qa,qb,qc,qf,qe,qd];refine tK 11 ?_ rfl (by kernel_rfl) (fun _ _ _ h=>h) (by rfl) ?_ (by assumption) ?_;rotate_left
    ·intro w hSw;(try dsimp only at hSw);go_simp;(try with_reducible rfl)
    rotate_left;simp only[Act.put,qa,qb,qc,qf,qe,qd];refine tK 12 ?_ rfl (by kernel_rfl) (fun _ _ _ h=>h) (by rfl) ?_ (by assumption) ?_;rotate_left
    ·intro w hSw;(try dsimp only at hSw);go_simp;(try with_reducible rfl)
    rotate_left;simp only[Act.put,qa,qb,qc,qf,qe,qd];refine tK 13 ?_ rfl (by kernel_rfl) (fun _ _ _ h=>h) (by rfl) ?_ (by assumption) ?_;rotate_left
    ·intro w hSw;(try dsimp only at hSw);go_simp;(try with_reducible rfl)
    rotate_left;simp only[Act.put,qa,qb,qc,qf,qe,qd];refine tK 14 ?_ rfl (by kernel_rfl) (fun _ _ _ h=>h) (by rfl) ?_ (by assumption) ?_;rotate_left
    ·intro w hSw;(try dsimp only at hSw);go_simp;(try with_reducible rfl)
    rotate_left;simp only[Act.put,qa,qb,qc,qf,qe,qd];refine tK 15 ?_ rfl (by kernel_rfl) (fun _ _ _ h=>h) (by rfl) ?_ (by assumption) ?_;rotate_left
    ·intro w hSw;(try dsimp only at hSw);go_simp;(try with_reducible rfl)
    rotate_left;simp only[Act.put,qa,qb,qc,qf,qe,qd];refine tK 16 ?_ rfl (by kernel_rfl) (fun _ _ _ h=>h) (by rfl) ?_ (by assumption) ?_;rotate_left
    ·intro w hSw;(try dsimp only at hSw);go_simp;(try with_reducible rfl)
    rotate_left;simp only[Act.put,qa,qb,qc,qf,qe,qd];refine tK 17 ?_ rfl (by kernel_rfl) (fun _ _ _ h=>h) (by rfl) ?_ (by assumption) ?_;rotate_left
    ·intro w hSw;(try dsimp only at hSw);go_simp;(try with_reducible rfl)
    rotate_left;simp only[Act.put,qa,qb,qc,qf,qe,qd];refine tK 18 ?_ rfl (by kernel_rfl) (fun _ _ _ h=>h) (by rfl) ?_ (by assumption) ?_;rotate_left
    ·intro w hSw;(try dsimp only at hSw);go_simp;(try with_reducible rfl)
    rotate_left;simp only[Act.put,qa,qb,qc,qf,qe,qd];refine tK 19 ?_ rfl (by kernel_rfl) (fun _ _ _ h=>h) (by rfl) ?_ (by assumption) ?_;rotate_left
    ·intro w hSw;(try dsimp only at hSw);go_simp;(try with_reducible rfl)
    rotate_left;simp only[Act.put,qa,qb,qc,qf,qe,qd];refine tK 20 ?_ rfl (by kernel_rfl) (fun _ _ _ h=>h) (by rfl) ?_ (by assumption) ?_;rotate_left
    ·intro w hSw;(try dsimp only at hSw);go_simp;(try with_reducible rfl)
    rotate_left;simp only[Act.put,qa,qb,qc,qf,qe,qd];refine wpAnyH_ready (rs:=[21]) (by kernel_rfl) (by simp) ?_;refine AllReadyH.cons rfl (fun K hK=>?_) ?_
    ·go_simp
     refine hK.out _ _ ?_ (fun hHeld=>?_)
     ·go_keep
     clear hK K
     (try simp only[Act.put,qa,qb,qc,qf,qe,qd])
     refine wpAnyH_ready (rs:=[22]) (by kernel_rfl) (by simp) ?_;refine AllReadyH.cons rfl (fun K hK=>?_) ?_
     ·rw[if_pos (by rfl)]
      refine wp_append_own _ _ _ 45 rfl w.heap.size 2 j0 (.int .i64 0) 1 8 Tryd.underlying45 hj hy0 hy1 hy2 rfl (by decide) _ _ _ rfl (ho.out.alloc _) ⟨wr.heap.size,0,none⟩ 4 4 (ints (yZ x)) rfl rfl (cells_of_blk (zi _ _)) (by intro u hu;simp only[ints,yZ,List.map_cons,List.map_nil,List.mem_cons,List.not_mem_nil,or_false]at hu;rcases hu with rfl|rfl|rfl|rfl<;>rfl) (by unfold maxLen;omega) (by omega) (by simp;omega) ?_;intro v4 w4 hown4 hgrow4 _;have hgr:(wr.alloc (.cells (ints (yZ x)).toArray 2)).grownBy w4 (Value.slice an (5+4*k) cn).ownBlock:=⟨hgrow4.os,hgrow4.tape,hgrow4.output,hgrow4.size,hgrow4.block⟩
      have HO5:Hid (w4.ownsRow w.heap.size 2 1 v4 (5+4*(k+1)) (ints (xm C++(L.take (k+1)).flatMap yZ))):=by unfold Hid;rw[hst.out,←qj,xf,show 5+4*(k+1)=5+4*k+4 by omega];exact hown4
      have HA5:Hid (w4.ownsRow w.heap.size 60 4 (.slice (some ⟨ga,0,none⟩) L.length ca) L.length (L.flatMap Is.cells)):=yu (hal.out.alloc _) hgr (ho.out.alloc _) (by decide);have HB5:Hid (Below w.heap.size w w4):=(zf hb.out _).grown hgr (by simp;omega) (fun j hj=>(ho.out.lt j hj).1);obtain⟨f0,f1,f2,f3⟩:=VM HA5.out hlt0.out;rw[hx0.out]at f0 f1 f2 f3;clear hown4 hgrow4 hgr;refine hK.out _ _ ?_ (fun hHeld=>?_)
      ·exact⟨f0,f1,f2,f3⟩
      clear hK K
      (try simp only[Act.put,qa,qb,qc,qf,qe,qd])
      refine wpAnyH_ready (rs:=[23]) (by kernel_rfl) (by simp) ?_;refine AllReadyH.cons rfl (fun K hK=>?_) ?_
      ·go_simp
       refine hK.out _ _ ?_ (fun hHeld=>?_)
       ·exact⟨f0,f1,f2,f3⟩
       clear hK K
       (try simp only[Act.put,qa,qb,qc,qf,qe,qd])
       refine wpAnyH_done (by kernel_rfl) ?_ _;go_wp2;refine⟨⟨k+1,by omega,by first|go_num|omega,HO5,?_⟩,by simp[intOf];omega⟩
       first|exact HA5|exact⟨HA5,HB5⟩
      exact AllReadyH.nil
     exact AllReadyH.nil
    exact AllReadyH.nil
   ·obtain rfl:L.length=k:=by omega
    obtain⟨zs,hzs⟩:∃zs,zs=xI C:=⟨_,rfl⟩;obtain⟨N,hN⟩:∃N,N=5+4*L.length:=⟨_,rfl⟩;have hNz:Hid (zs.length=N):=by unfold Hid;rw[hzs,hN,nums_len,hLl.out]
    have hR:Hid (wr.ownsRow w.heap.size 2 1 (.slice an N cn) N (ints zs)):=by
     have:=ho.out;rw[List.take_length,←HLN.out,←hzs,←hN]at this;exact this
    have HSM:Hid (∀z∈zs,-1000000000≤z∧z≤1000000000):=by rw[hzs];exact small_nums HG.out
    have ha2:Hid (answer C=vrs zs):=by rw[hzs];exact ha
    have hN1:N≤200000:=by omega
    have k2:¬((L.length:Int)<(L.length:Int)):=by omega
    rw[←hN];clear ho hal ha hzs hN hk hlt HLN HLC hLl;go_wp2_with fail;clear k2;go_loopw [6,7] (fun v i wr=>∃k:Nat,k≤N∧i=.int .i64 k∧Hid (Own w.heap.size wr v (vrs (zs.take k)))∧Hid (wr.ownsRow w.heap.size 2 1 (.slice an N cn) N (ints zs))∧Hid (Below w.heap.size w wr)) (fun _ i _=>N- (intOf i).toNat)
    case atStart=>exact⟨0,Nat.zero_le _,rfl,Joins.ownsRow_le (own_empty wr _ rfl) hsz,hR.out.alloc _,zf hb.out _⟩
    case round=>
     clear hR hb hsz;obtain⟨k,hk,rfl,ho,hr,hb⟩:=hrel;have hsz:=hb.out.size;have htl:=Vb HSM.out k (by rw[hNz.out];exact hk);by_cases hlt:k<N
     ·obtain⟨gn,cap',hva⟩:=Joins.ownsRow_form hr.out (by omega)
      injection hva with hva _ hcc;subst hva;subst hcc;have hkl:k<zs.length:=by rw[hNz.out];exact hlt
      have e0:wr.cell? ⟨gn,k,none⟩=some (.int .i64 (zs[k]'hkl)):=xb hr.out k _ (by simp[ints,hkl]);have hzb:=HSM.out _ (List.getElem_mem hkl);have hst:=Hm (Wg zs k hkl);obtain⟨x,hx⟩:∃x,x=zs[k]'hkl:=⟨_,rfl⟩;rw[←hx]at e0 hzb hst;clear hx;have k0:(0:Int)≤(k:Int):=by omega
      have k1:(k:Int)<(N:Int):=by omega
      obtain⟨bb,hbb⟩:∃l,l=vrs (zs.take k):=⟨_,rfl⟩;rw[←hbb]at ho hst htl;clear hbb;obtain⟨ab,cb,hv⟩:=Own.shape ho.out;rw[hv]at ho ⊢;clear hv;go_wp2_with fail;refine(varS x _ hzb.1 hzb.2).mono ?_;rintro e w5 ⟨v5,rfl,ho5,hb5⟩;obtain⟨g5,c5,rfl,-,hcl⟩:=Own.form ho5 (vr_pos x);have HC:=Hm hcl;have hvl:=Xk hzb.1 hzb.2;have O5:=Hm (ho.out.below hb5);have R5:=Hm (z9 hr.out hb5);have B5:=Hm (zg hb.out hb5);have hsz5:=B5.out.size;clear ho5 hb5 hcl ho hr hb e0;obtain⟨vv,hvv⟩:∃l,l=vr x:=⟨_,rfl⟩;rw[←hvv]at HC hvl hst ⊢;clear hvv
      go_wp2_with (at_builtin;refine wpList_append_own _ rfl _ _ 22 rfl w.heap.size 5 i0 (.int .u8 0) 1 1 Tryd.underlying22 hi hz0 hz1 hz2 rfl (by decide) _ _ _ rfl O5.out ⟨g5,0,none⟩ vv.length c5 (Lib.byteCells vv) rfl (by rw[Lib.byteCells_length];omega) HC.out (byteCells_one vv) (by unfold maxLen;omega) (by omega) hsz5 ?_);intro v6 w6 hown6 hgrow6 _;have O6:Hid (Own w.heap.size w6 v6 (vrs (zs.take (k+1)))):=by unfold Hid;rw[hst.out];exact own_app' (bs:=bb) (cs:=vv) rfl rfl hown6
      have R6:Hid (w6.ownsRow w.heap.size 2 1 (.slice (some ⟨gn,0,none⟩) N cn) N (ints zs)):=yu R5.out hgrow6 O5.out (by decide);have B6:Hid (Below w.heap.size w w6):=B5.out.grown hgrow6 hsz5 (fun j hj=>(O5.out.lt j hj).1);clear hown6 hgrow6 O5 R5 B5;refine Hid.out ?_;refine Lib.hid ?_;go_wp2;refine⟨⟨k+1,by omega,by first|go_num|omega,O6,?_⟩,by simp[intOf];omega⟩
      first|exact R6|exact⟨R6,B6⟩
     ·obtain rfl:N=k:=by omega
      go_wp2;go_ret;refine⟨_,rfl,?_,hb.out⟩;rw[ha2.out];have:=ho.out;rwa[List.take_of_length_le (by rw[hNz.out];exact qn _)]at this
end Go.Proofs.YtbdldkpifanaiaaDoor.Enc
