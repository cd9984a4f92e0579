import Derived.Test.YtbkajklninmhiaaGreatDoorPm41
set_option maxHeartbeats 6400000
set_option maxRecDepth 100000
set_option linter.unusedVariables false
set_option linter.unusedSimpArgs false
open List renaming setIfInBounds_toArray → qa, set_cons_zero → qb, set_cons_succ → qc, getElem_cons_succ → qd, getElem_cons_zero → qe, getElem_toArray → qf, length_append → qg, length_cons → qh, length_nil → qi, append_assoc → ql, getElem?_toArray → qm, getElem?_cons_zero → qn, getElem?_cons_succ → qo
open Nat renaming le_trans → qq
namespace Go.Proofs.YtbkajklninmhiaaGreatDoor.Syn
open Go Go.RowKit Mem
open Go.Proofs.YtbkajklninmhiaaGreatDoor.Print (Own Zt byteCells_one)
attribute [local go_sem ↓] Go.wp_at_zero Go.wp_at_succ
theorem as_ll (v:Value) (w:World):(Instr.typeAssert (.iface 164 v) 130 164 true).run Tryz.prog w=.ok (.tuple #[v,.bool true]) w:=by kernel_rfl
theorem as_pl (v:Value) (w:World):(Instr.typeAssert (.iface 167 v) 130 164 true).run Tryz.prog w=.ok (.tuple #[.agg #[.int .i64 0,.int .i64 0,.string ⟨#[]⟩],.bool false]) w:=by kernel_rfl
theorem as_pp (v:Value) (w:World):(Instr.typeAssert (.iface 167 v) 130 167 true).run Tryz.prog w=.ok (.tuple #[v,.bool true]) w:=by kernel_rfl
theorem as_bl (v:Value) (w:World):(Instr.typeAssert (.iface 171 v) 130 164 true).run Tryz.prog w=.ok (.tuple #[.agg #[.int .i64 0,.int .i64 0,.string ⟨#[]⟩],.bool false]) w:=by kernel_rfl
theorem as_bp (v:Value) (w:World):(Instr.typeAssert (.iface 171 v) 130 167 true).run Tryz.prog w=.ok (.tuple #[.agg #[.int .i64 0,.int .i64 0,.string ⟨#[]⟩,.nilIface],.bool false]) w:=by kernel_rfl
theorem as_bb (v:Value) (w:World):(Instr.typeAssert (.iface 171 v) 130 171 true).run Tryz.prog w=.ok (.tuple #[v,.bool true]) w:=by kernel_rfl
theorem as_cl (v:Value) (w:World):(Instr.typeAssert (.iface 174 v) 130 164 true).run Tryz.prog w=.ok (.tuple #[.agg #[.int .i64 0,.int .i64 0,.string ⟨#[]⟩],.bool false]) w:=by kernel_rfl
theorem as_cp (v:Value) (w:World):(Instr.typeAssert (.iface 174 v) 130 167 true).run Tryz.prog w=.ok (.tuple #[.agg #[.int .i64 0,.int .i64 0,.string ⟨#[]⟩,.nilIface],.bool false]) w:=by kernel_rfl
theorem as_cb (v:Value) (w:World):(Instr.typeAssert (.iface 174 v) 130 171 true).run Tryz.prog w=.ok (.tuple #[.agg #[.int .i64 0,.int .i64 0,.string ⟨#[]⟩,.nilIface,.nilIface],.bool false]) w:=by kernel_rfl
theorem as_cc (v:Value) (w:World):(Instr.typeAssert (.iface 174 v) 130 174 true).run Tryz.prog w=.ok (.tuple #[v,.bool true]) w:=by kernel_rfl
theorem SS (o:Po) (hop:opB o=true) (hk6:o.k≤6):Yj (.leaf o):=by
 intro B w bs x nv hown hB hP hD hl
 cases hD
 have HO:=Hm (zw hown (zd (Below.refl _ _) (.cells #[.int .i64 o.k,.int .i64 o.v,.string ⟨o.n.toArray⟩] 164)));have HK:=Hm ((Kb.refl B x w).alloc hB (.cells #[.int .i64 o.k,.int .i64 o.v,.string ⟨o.n.toArray⟩] 164));have HP:=Hm (hP.on HK.out.1);have hB1:B≤(w.alloc (.cells #[.int .i64 o.k,.int .i64 o.v,.string ⟨o.n.toArray⟩] 164)).heap.size:=by simp;omega
 clear hown hP;have hl':bs.length≤500000000:=by omega
 clear hl;have q1:=as_ll;go_enter Tryz.func80,Tryz.ntmps80;go_wp2_with fail;refine(VJ o B bs x _ hop hk6 HO.out hB1 HP.out hl').mono ?_;rintro e w1 ⟨v1,rfl,ho,hk⟩;have HO2:=Hm ho;have HK2:=Hm (HK.out.trans hk);clear ho hk;go_wp2;go_ret;exact⟨v1,rfl,HO2.out,HK2.out⟩
theorem VA (o:Po) (N:Nat) (ts:Nat→Tr) (vs:Nat→Value) (g off c:Nat) (B:Nat) (w:World) (bs:List UInt8) (x:Value) (hA:∀i,i<N→Yj (ts i)) (hD:∀i,i<N→Nd w none (vs i) (ts i)) (hk:Nk w g) (hc:∀i,i<N→w.cell? ⟨g,off+i,none⟩=some (vs i)) (hn:N≤3) (h0:0≤o.v) (h2:o.v≤2)
  (hown:Own B w x bs) (hB:B≤w.heap.size) (hP:Ps B w) (hl:bs.length+(zG (25+o.v.toNat)).length+2+(jn ts N).length≤500000000):
  Calls Tryz.prog 80 #[x,.iface 174 (.agg #[.int .i64 o.k,.int .i64 o.v,.string ⟨o.n.toArray⟩,.slice (some ⟨g,off,none⟩) N c])] w (App B x w (bs++zG (25+o.v.toNat)++[40]++jn ts N++[41])):=by
 have HO:=Hm (zw hown (zd (Below.refl _ _) (.cells #[.int .i64 o.k,.int .i64 o.v,.string ⟨o.n.toArray⟩,.slice (some ⟨g,off,none⟩) N c] 174)));have HK:=Hm ((Kb.refl B x w).alloc hB (.cells #[.int .i64 o.k,.int .i64 o.v,.string ⟨o.n.toArray⟩,.slice (some ⟨g,off,none⟩) N c] 174));have HP:=Hm (hP.on HK.out.1);have hB1:B≤(w.alloc (.cells #[.int .i64 o.k,.int .i64 o.v,.string ⟨o.n.toArray⟩,.slice (some ⟨g,off,none⟩) N c] 174)).heap.size:=by simp;omega
 have HA:=Hm hA;have hbx:=zd (Below.refl w.heap.size w) (.cells #[.int .i64 o.k,.int .i64 o.v,.string ⟨o.n.toArray⟩,.slice (some ⟨g,off,none⟩) N c] 174);have HD:=Hm (fun i hi=>(hD i hi).kept hbx);have HC:=Hm (fun i hi=>zB hbx (hc i hi));have HNK:=Hm (hk.below hbx);have HL:=Hm hl;clear hown hP hA hD hc hk hbx hl;obtain⟨m,hm⟩:∃m:Nat,o.v=(m:Int):=⟨o.v.toNat,by omega⟩;have hm2:m≤2:=by omega
 have HM:=Hm hm;clear hm h0 h2;have q1:=as_cl;have q2:=as_cp;have q3:=as_cb;have q4:=as_cc;go_enter Tryz.func80,Tryz.ntmps80;go_wp2_with fail;have key:=VK N ts vs o.k m ⟨o.n.toArray⟩ g off c B (w.alloc (.cells #[.int .i64 o.k,.int .i64 o.v,.string ⟨o.n.toArray⟩,.slice (some ⟨g,off,none⟩) N c] 174)) bs x HA.out HD.out HNK.out HC.out hn hm2 HO.out hB1 HP.out (by have z:=HL.out;rw[HM.out,Int.toNat_natCast]at z;exact z);rw[←HM.out]at key;refine key.mono ?_;rintro e w1 ⟨v1,rfl,ho,hk⟩;have HO2:=Hm ho;have HK2:=Hm (HK.out.trans hk);clear ho hk key;go_wp2;go_ret;exact⟨v1,rfl,by have z:=HO2.out;rw[HM.out,Int.toNat_natCast];simpa[ql]using z,HK2.out⟩
theorem QF (o:Po) (a:Tr) (hk:o.k=7∨o.k=8) (hA:Yj a) (hw:a.wf):Yj (.pre o a):=by
 intro B w bs x nv hown hB hP hD hl
 cases hD with
 |pre _ v _ h=>
 obtain⟨T,u,rfl⟩:=h.form;have HO:=Hm (zw hown (zd (Below.refl _ _) (.cells #[.int .i64 o.k,.int .i64 o.v,.string ⟨o.n.toArray⟩,.iface T u] 167)));have HK:=Hm ((Kb.refl B x w).alloc hB (.cells #[.int .i64 o.k,.int .i64 o.v,.string ⟨o.n.toArray⟩,.iface T u] 167));have HP:=Hm (hP.on HK.out.1);have hB1:B≤(w.alloc (.cells #[.int .i64 o.k,.int .i64 o.v,.string ⟨o.n.toArray⟩,.iface T u] 167)).heap.size:=by simp;omega
 have HP0:=Hm hP;have HD:=Hm h;have HA:=Hm hA;have HW:=Hm hw;have BX:=Hm (zo w (.cells #[.int .i64 o.k,.int .i64 o.v,.string ⟨o.n.toArray⟩,.iface T u] 167));have hpl:(Xd o).length≤4:=by unfold Xd;split<;>simp
 have hl':bs.length+((Xd o).length+(par (decide (a.str<6)) a.txt).length)≤500000000:=by simpa[Tr.txt]using hl
 clear hown hP h hA hw hl HP;have HP:=HP0;clear HP0;show Calls Tryz.prog 80 _ w (App B x w (bs++(Xd o++par (decide (a.str<6)) a.txt)));have q1:=as_pl;have q2:=as_pp;go_enter Tryz.func80,Tryz.ntmps80;go_upto_region 7 with fail;have HO:=Hm (zw HO.out (Below.refl _ _).drew);have HK:=Hm HK.out.drew;have BX:Hid ((w.alloc (.cells #[.int .i64 o.k,.int .i64 o.v,.string ⟨o.n.toArray⟩,.iface T u] 167)).drew.heap[w.heap.size]? =some (.cells #[.int .i64 o.k,.int .i64 o.v,.string ⟨o.n.toArray⟩,.iface T u] 167)):=BX;refine wp_region_held_drew (S:=(fun w'=>w'.cell? ⟨w.heap.size,0,none⟩=some (.int .i64 o.k)∧w'.cell? ⟨w.heap.size,1,none⟩=some (.int .i64 o.v)∧w'.cell? ⟨w.heap.size,2,none⟩=some (.string ⟨o.n.toArray⟩)∧w'.cell? ⟨w.heap.size,3,none⟩=some (.iface T u))) (by kernel_rfl) ?_ (fun hHeld=>?_)
 ·exact⟨(zb BX.out 0).trans rfl,(zb BX.out 1).trans rfl,(zb BX.out 2).trans rfl,(zb BX.out 3).trans rfl⟩
 refine tK 0 ?_ rfl (by kernel_rfl) (fun _ _ _ h=>h) (by rfl) ?_ (by assumption) ?_;rotate_left
 ·intro w hSw;(try dsimp only at hSw);go_simp;(try with_reducible rfl)
 rotate_left;simp only[Act.put,qa,qb,qc,qf,qe,qd];refine tK 1 ?_ rfl (by kernel_rfl) (fun _ _ _ h=>h) (by rfl) ?_ (by assumption) ?_;rotate_left
 ·intro w hSw;(try dsimp only at hSw);go_simp;(try with_reducible rfl)
 rotate_left;simp only[Act.put,qa,qb,qc,qf,qe,qd];refine tK 2 ?_ rfl (by kernel_rfl) (fun _ _ _ h=>h) (by rfl) ?_ (by assumption) ?_;rotate_left
 ·intro w hSw;(try dsimp only at hSw);go_simp;(try with_reducible rfl)
 rotate_left;simp only[Act.put,qa,qb,qc,qf,qe,qd];refine tK 5 ?_ rfl (by kernel_rfl) (fun _ _ _ h=>h) (by rfl) ?_ (by assumption) ?_;rotate_left
 ·intro w hSw;(try dsimp only at hSw);go_simp;(try with_reducible rfl)
 rotate_left;simp only[Act.put,qa,qb,qc,qf,qe,qd];refine tK 6 ?_ rfl (by kernel_rfl) (fun _ _ _ h=>h) (by rfl) ?_ (by assumption) ?_;rotate_left
 ·intro w hSw;(try dsimp only at hSw);go_simp;(try with_reducible rfl)
 rotate_left;simp only[Act.put,qa,qb,qc,qf,qe,qd];refine wpAnyH_ready (rs:=[3]) (by kernel_rfl) (by simp) ?_;refine AllReadyH.cons rfl (fun K hK=>?_) ?_
 ·go_simp
  refine(T8 o _ hk).mono ?_;rintro e w1 ⟨rfl,hb1⟩;have HO:=Hm (zw HO.out hb1);have HK:=Hm (HK.out.trans (Kb.of hb1 hB1));have hB1:=qq hB HK.out.1.size;have BX:=Hm (zg BX.out hb1);refine hK.out _ _ ?_ (fun hHeld=>?_)
  ·exact⟨(zb BX.out 0).trans rfl,(zb BX.out 1).trans rfl,(zb BX.out 2).trans rfl,(zb BX.out 3).trans rfl⟩
  clear hK K
  (try simp only[Act.put,qa,qb,qc,qf,qe,qd])
  refine wpAnyH_ready (rs:=[4]) (by kernel_rfl) (by simp) ?_;refine AllReadyH.cons rfl (fun K hK=>?_) ?_
  ·rw[if_pos (by rfl)]
   refine xA _ _ rfl B _ bs rfl HO.out (Xd o) rfl hB1 (by omega) ?_;intro v2 w2 ho2 hk2;have HO:=Hm ho2;have HK:=Hm (HK.out.trans hk2);have hB1:=qq hB HK.out.1.size;have BX:=Hm (hk2.blk BX.out (by decide));clear ho2;refine hK.out _ _ ?_ (fun hHeld=>?_)
   ·exact⟨(zb BX.out 0).trans rfl,(zb BX.out 1).trans rfl,(zb BX.out 2).trans rfl,(zb BX.out 3).trans rfl⟩
   clear hK K
   (try simp only[Act.put,qa,qb,qc,qf,qe,qd])
   refine wpAnyH_ready (rs:=[7]) (by kernel_rfl) (by simp) ?_;refine AllReadyH.cons rfl (fun K hK=>?_) ?_
   ·go_simp
    refine(xb a HA.out HW.out 6 B _ _ _ _ HO.out hB1 (HP.out.on HK.out.1) (HD.out.oth HK.out) (by simp only[qg];omega)).mono ?_;rintro e w3 ⟨v3,rfl,ho3,hk3⟩;have HO:=Hm ho3;have HK:=Hm (HK.out.trans hk3);have BX:=Hm (hk3.blk BX.out (by decide));clear ho3;refine hK.out _ _ ?_ (fun hHeld=>?_)
    ·exact⟨(zb BX.out 0).trans rfl,(zb BX.out 1).trans rfl,(zb BX.out 2).trans rfl,(zb BX.out 3).trans rfl⟩
    clear hK K
    (try simp only[Act.put,qa,qb,qc,qf,qe,qd])
    refine tK 8 ?_ rfl (by kernel_rfl) (fun _ _ _ h=>h) (by rfl) ?_ (by assumption) ?_;rotate_left
    ·intro w hSw;(try dsimp only at hSw);go_simp;(try with_reducible rfl)
    rotate_left;simp only[Act.put,qa,qb,qc,qf,qe,qd];refine wpAnyH_done (by kernel_rfl) ?_ _;go_wp2;go_ret;exact⟨v3,rfl,by have z:=HO.out;simpa[ql]using z,HK.out⟩
   exact AllReadyH.nil
  exact AllReadyH.nil
 exact AllReadyH.nil
theorem xE {B:Nat} {x v:Value} {a w:World} (h:Kb B x v a w) (o:Obj):(w.alloc o).heap[w.heap.size]? =some o:=zo w o
theorem zM {B:Nat} {w:World} {v:Value} {bs:List UInt8} (h:Own B w v bs):v.ownBlock≠some w.heap.size:=fun e=>Nat.lt_irrefl _ (Own.lt h e)
theorem QG (o:Po) (a b:Tr) (h0:0≤o.v) (h7:o.v≤7) (hA:Yj a) (hA':Yj b) (hw:a.wf) (hw':b.wf):Yj (.bin o a b):=by
 intro B w bs x nv hown hB hP hD hl;obtain⟨k,v,n⟩:=o;simp only at h0 h7;obtain⟨m,rfl⟩:∃m:Nat,v=(m:Int):=⟨v.toNat,by omega⟩
 cases hD with
 |bin _ v v' _ _ h h'=>
 obtain⟨T,u,rfl⟩:=h.form;obtain⟨T',u',rfl⟩:=h'.form;have hm7:m≤7:=by omega
 clear h0 h7;obtain⟨TA,hTA⟩:∃TA,TA=par (decide (a.str<lL (z9 (m:Int)))) a.txt:=⟨_,rfl⟩;obtain⟨TB,hTB⟩:∃TB,TB=par (decide (b.str<z9 (m:Int)+1)) b.txt:=⟨_,rfl⟩;have et:(Tr.bin ⟨k,(m:Int),n⟩ a b).txt=TA++[32]++zG (8+m)++[32]++TB:=by rw[hTA,hTB];simp[Tr.txt]
 rw[et]at hl ⊢;simp only[qg,qh,qi]at hl;clear et;obtain⟨W0,hW0⟩:∃W0,W0=w.alloc (.cells #[.int .i64 k,.int .i64 (m:Int),.string ⟨n.toArray⟩,.iface T u,.iface T' u'] 171):=⟨_,rfl⟩;have HO:=Hm (zw hown (zd (Below.refl _ _) (.cells #[.int .i64 k,.int .i64 (m:Int),.string ⟨n.toArray⟩,.iface T u,.iface T' u'] 171)));have HK:=Hm ((Kb.refl B x w).alloc hB (.cells #[.int .i64 k,.int .i64 (m:Int),.string ⟨n.toArray⟩,.iface T u,.iface T' u'] 171));have BX:=Hm (zo w (.cells #[.int .i64 k,.int .i64 (m:Int),.string ⟨n.toArray⟩,.iface T u,.iface T' u'] 171));rw[←hW0]at HO HK BX;have HW0:=Hm hW0;have HP:=Hm hP;have HD:=Hm h;have HD':=Hm h';have HA:=Hm hA;have HA':=Hm hA';have HW:=Hm hw;have HW':=Hm hw'
 have HTA:=Hm hTA;have HTB:=Hm hTB;clear hown hP h h' hA hA' hw hw' hTA hTB hW0;have q1:=as_bl;have q2:=as_bp;have q3:=as_bb;go_enter Tryz.func80,Tryz.ntmps80;go_upto_region 10 with fail;rw[←HW0.out];clear HW0 q1 q2 q3;go_cut [0] (fun s wx=>Hid (Own B wx s (bs++TA++[32]))∧Hid (Kb B x s w wx)∧Hid (wx.heap[w.heap.size]? =some (.cells #[.int .i64 k,.int .i64 (m:Int),.string ⟨n.toArray⟩,.iface T u,.iface T' u'] 171)))
 case first=>
  have hB1:=qq hB HK.out.1.size;have HO:=Hm (zw HO.out (Below.refl _ _).drew);have HK:=Hm HK.out.drew;have BX:Hid (W0.drew.heap[w.heap.size]? =some (.cells #[.int .i64 k,.int .i64 (m:Int),.string ⟨n.toArray⟩,.iface T u,.iface T' u'] 171)):=BX;refine wp_region_held_drew (S:=(fun w'=>w'.cell? ⟨w.heap.size,0,none⟩=some (.int .i64 k)∧w'.cell? ⟨w.heap.size,1,none⟩=some (.int .i64 (m:Int))∧w'.cell? ⟨w.heap.size,2,none⟩=some (.string ⟨n.toArray⟩)∧w'.cell? ⟨w.heap.size,3,none⟩=some (.iface T u)∧w'.cell? ⟨w.heap.size,4,none⟩=some (.iface T' u'))) (by kernel_rfl) ?_ (fun hHeld=>?_)
  ·exact⟨(zb BX.out 0).trans rfl,(zb BX.out 1).trans rfl,(zb BX.out 2).trans rfl,(zb BX.out 3).trans rfl,(zb BX.out 4).trans rfl⟩
  refine tK 0 ?_ rfl (by kernel_rfl) (fun _ _ _ h=>h) (by rfl) ?_ (by assumption) ?_;rotate_left
  ·intro w hSw;(try dsimp only at hSw);go_simp;(try with_reducible rfl)
  rotate_left;simp only[Act.put,qa,qb,qc,qf,qe,qd];refine tK 1 ?_ rfl (by kernel_rfl) (fun _ _ _ h=>h) (by rfl) ?_ (by assumption) ?_;rotate_left
  ·intro w hSw;(try dsimp only at hSw);go_simp;(try with_reducible rfl)
  rotate_left;simp only[Act.put,qa,qb,qc,qf,qe,qd];refine tK 2 ?_ rfl (by kernel_rfl) (fun _ _ _ h=>h) (by rfl) ?_ (by assumption) ?_;rotate_left
  ·intro w hSw;(try dsimp only at hSw);go_simp;(try with_reducible rfl)
  rotate_left;simp only[Act.put,qa,qb,qc,qf,qe,qd];refine tK 3 ?_ rfl (by kernel_rfl) (fun _ _ _ h=>h) (by rfl) ?_ (by assumption) ?_;rotate_left
  ·intro w hSw;(try dsimp only at hSw);go_simp;(try with_reducible rfl)
  rotate_left;simp only[Act.put,qa,qb,qc,qf,qe,qd];refine wpAnyH_ready (rs:=[4,6]) (by kernel_rfl) (by simp) ?_;refine AllReadyH.cons rfl (fun K hK=>?_) ?_
  ·go_simp
   refine(WQ k m ⟨n.toArray⟩ (.iface T u) (.iface T' u') _ (HP.out.on HK.out.1).t.now.b (by omega) (by omega)).mono ?_;rintro e w1 ⟨rfl,hb1⟩
   (try have SB:=Hm (zg SB.out hb1))
   have HO:=Hm (zw HO.out hb1);have HK:=Hm (HK.out.trans (Kb.of hb1 hB1));have hB1:=qq hB HK.out.1.size;have BX:=Hm (zg BX.out hb1);clear hb1;refine hK.out _ _ ?_ (fun hHeld=>?_)
   ·exact⟨(zb BX.out 0).trans rfl,(zb BX.out 1).trans rfl,(zb BX.out 2).trans rfl,(zb BX.out 3).trans rfl,(zb BX.out 4).trans rfl⟩
   clear hK K
   (try simp only[Act.put,qa,qb,qc,qf,qe,qd])
   refine wpAnyH_ready (rs:=[5,6]) (by kernel_rfl) (by simp) ?_;refine AllReadyH.cons rfl (fun K hK=>?_) ?_
   ·go_simp
    refine(xb a HA.out HW.out _ B _ bs _ _ HO.out hB1 (HP.out.on HK.out.1) (HD.out.oth HK.out) (by rw[←HTA.out];omega)).mono ?_;rintro e w2 ⟨v2,rfl,ho2,hk2⟩;rw[←HTA.out]at ho2
    (try have SB:=Hm (hk2.far SB.out SN.out))
    have HO:=Hm ho2;have BX:=Hm (hk2.blk BX.out (by decide));have HK:=Hm (HK.out.trans hk2);have hB1:=qq hB HK.out.1.size;clear ho2 hk2;refine hK.out _ _ ?_ (fun hHeld=>?_)
    ·exact⟨(zb BX.out 0).trans rfl,(zb BX.out 1).trans rfl,(zb BX.out 2).trans rfl,(zb BX.out 3).trans rfl,(zb BX.out 4).trans rfl⟩
    clear hK K
    (try simp only[Act.put,qa,qb,qc,qf,qe,qd])
    refine wpAnyH_ready (rs:=[6]) (by kernel_rfl) (by simp) ?_;refine AllReadyH.cons rfl (fun K hK=>?_) ?_
    ·go_simp
     have SB:=Hm (xE HK.out (.cells #[.int .u8 32] 5));have SN:=Hm (zM HO.out);have HO:=Hm (zw HO.out (zd (Below.refl _ _) (.cells #[.int .u8 32] 5)));have HK:=Hm (HK.out.alloc hB1 (.cells #[.int .u8 32] 5));have BX:=Hm (zv BX.out (.cells #[.int .u8 32] 5));have hB1:=qq hB HK.out.1.size;refine hK.out _ _ ?_ (fun hHeld=>?_)
     ·exact⟨(zb BX.out 0).trans rfl,(zb BX.out 1).trans rfl,(zb BX.out 2).trans rfl,(zb BX.out 3).trans rfl,(zb BX.out 4).trans rfl⟩
     clear hK K
     (try simp only[Act.put,qa,qb,qc,qf,qe,qd])
     refine wpAnyH_ready (rs:=[7]) (by kernel_rfl) (by simp) ?_;refine AllReadyH.cons rfl (fun K hK=>?_) ?_
     ·rw[if_pos (by rfl)]
      refine ZU _ _ rfl B _ _ rfl HO.out _ _ rfl 32 (zb SB.out 0) hB1 (by simp only[qg];omega) ?_;intro v4 w4 ho4 hk4;have BX:=Hm (hk4.blk BX.out (by decide));have HO:=Hm ho4;have HK:=Hm (HK.out.trans hk4);clear ho4 hk4;refine hK.out _ _ ?_ (fun hHeld=>?_)
      ·exact⟨(zb BX.out 0).trans rfl,(zb BX.out 1).trans rfl,(zb BX.out 2).trans rfl,(zb BX.out 3).trans rfl,(zb BX.out 4).trans rfl⟩
      clear hK K
      (try simp only[Act.put,qa,qb,qc,qf,qe,qd])
      refine tK 8 ?_ rfl (by kernel_rfl) (fun _ _ _ h=>h) (by rfl) ?_ (by assumption) ?_;rotate_left
      ·intro w hSw;(try dsimp only at hSw);go_simp;(try with_reducible rfl)
      rotate_left;simp only[Act.put,qa,qb,qc,qf,qe,qd];refine wpAnyH_done (by kernel_rfl) ?_ _;go_wp2_with fail;go_meet;exact⟨HO,HK,BX⟩
     exact AllReadyH.nil
    exact AllReadyH.nil
   refine AllReadyH.cons rfl (fun K hK=>?_) ?_
   ·go_simp
    have SB:=Hm (xE HK.out (.cells #[.int .u8 32] 5));have SN:=Hm (zM HO.out);have HO:=Hm (zw HO.out (zd (Below.refl _ _) (.cells #[.int .u8 32] 5)));have HK:=Hm (HK.out.alloc hB1 (.cells #[.int .u8 32] 5));have BX:=Hm (zv BX.out (.cells #[.int .u8 32] 5));have hB1:=qq hB HK.out.1.size;refine hK.out _ _ ?_ (fun hHeld=>?_)
    ·exact⟨(zb BX.out 0).trans rfl,(zb BX.out 1).trans rfl,(zb BX.out 2).trans rfl,(zb BX.out 3).trans rfl,(zb BX.out 4).trans rfl⟩
    clear hK K
    (try simp only[Act.put,qa,qb,qc,qf,qe,qd])
    refine wpAnyH_ready (rs:=[5]) (by kernel_rfl) (by simp) ?_;refine AllReadyH.cons rfl (fun K hK=>?_) ?_
    ·go_simp
     refine(xb a HA.out HW.out _ B _ bs _ _ HO.out hB1 (HP.out.on HK.out.1) (HD.out.oth HK.out) (by rw[←HTA.out];omega)).mono ?_;rintro e w2 ⟨v2,rfl,ho2,hk2⟩;rw[←HTA.out]at ho2
     (try have SB:=Hm (hk2.far SB.out SN.out))
     have HO:=Hm ho2;have BX:=Hm (hk2.blk BX.out (by decide));have HK:=Hm (HK.out.trans hk2);have hB1:=qq hB HK.out.1.size;clear ho2 hk2;refine hK.out _ _ ?_ (fun hHeld=>?_)
     ·exact⟨(zb BX.out 0).trans rfl,(zb BX.out 1).trans rfl,(zb BX.out 2).trans rfl,(zb BX.out 3).trans rfl,(zb BX.out 4).trans rfl⟩
     clear hK K
     (try simp only[Act.put,qa,qb,qc,qf,qe,qd])
     refine wpAnyH_ready (rs:=[7]) (by kernel_rfl) (by simp) ?_;refine AllReadyH.cons rfl (fun K hK=>?_) ?_
     ·rw[if_pos (by rfl)]
      refine ZU _ _ rfl B _ _ rfl HO.out _ _ rfl 32 (zb SB.out 0) hB1 (by simp only[qg];omega) ?_;intro v4 w4 ho4 hk4;have BX:=Hm (hk4.blk BX.out (by decide));have HO:=Hm ho4;have HK:=Hm (HK.out.trans hk4);clear ho4 hk4;refine hK.out _ _ ?_ (fun hHeld=>?_)
      ·exact⟨(zb BX.out 0).trans rfl,(zb BX.out 1).trans rfl,(zb BX.out 2).trans rfl,(zb BX.out 3).trans rfl,(zb BX.out 4).trans rfl⟩
      clear hK K
      (try simp only[Act.put,qa,qb,qc,qf,qe,qd])
      refine tK 8 ?_ rfl (by kernel_rfl) (fun _ _ _ h=>h) (by rfl) ?_ (by assumption) ?_;rotate_left
      ·intro w hSw;(try dsimp only at hSw);go_simp;(try with_reducible rfl)
      rotate_left;simp only[Act.put,qa,qb,qc,qf,qe,qd];refine wpAnyH_done (by kernel_rfl) ?_ _;go_wp2_with fail;go_meet;exact⟨HO,HK,BX⟩
     exact AllReadyH.nil
    exact AllReadyH.nil
   exact AllReadyH.nil
  refine AllReadyH.cons rfl (fun K hK=>?_) ?_
  ·go_simp
   have SB:=Hm (xE HK.out (.cells #[.int .u8 32] 5));have SN:=Hm (zM HO.out);have HO:=Hm (zw HO.out (zd (Below.refl _ _) (.cells #[.int .u8 32] 5)));have HK:=Hm (HK.out.alloc hB1 (.cells #[.int .u8 32] 5));have BX:=Hm (zv BX.out (.cells #[.int .u8 32] 5));have hB1:=qq hB HK.out.1.size;refine hK.out _ _ ?_ (fun hHeld=>?_)
   ·exact⟨(zb BX.out 0).trans rfl,(zb BX.out 1).trans rfl,(zb BX.out 2).trans rfl,(zb BX.out 3).trans rfl,(zb BX.out 4).trans rfl⟩
   clear hK K
   (try simp only[Act.put,qa,qb,qc,qf,qe,qd])
   refine wpAnyH_ready (rs:=[4]) (by kernel_rfl) (by simp) ?_;refine AllReadyH.cons rfl (fun K hK=>?_) ?_
   ·go_simp
    refine(WQ k m ⟨n.toArray⟩ (.iface T u) (.iface T' u') _ (HP.out.on HK.out.1).t.now.b (by omega) (by omega)).mono ?_;rintro e w1 ⟨rfl,hb1⟩
    (try have SB:=Hm (zg SB.out hb1))
    have HO:=Hm (zw HO.out hb1);have HK:=Hm (HK.out.trans (Kb.of hb1 hB1));have hB1:=qq hB HK.out.1.size;have BX:=Hm (zg BX.out hb1);clear hb1;refine hK.out _ _ ?_ (fun hHeld=>?_)
    ·exact⟨(zb BX.out 0).trans rfl,(zb BX.out 1).trans rfl,(zb BX.out 2).trans rfl,(zb BX.out 3).trans rfl,(zb BX.out 4).trans rfl⟩
    clear hK K
    (try simp only[Act.put,qa,qb,qc,qf,qe,qd])
    refine wpAnyH_ready (rs:=[5]) (by kernel_rfl) (by simp) ?_;refine AllReadyH.cons rfl (fun K hK=>?_) ?_
    ·go_simp
     refine(xb a HA.out HW.out _ B _ bs _ _ HO.out hB1 (HP.out.on HK.out.1) (HD.out.oth HK.out) (by rw[←HTA.out];omega)).mono ?_;rintro e w2 ⟨v2,rfl,ho2,hk2⟩;rw[←HTA.out]at ho2
     (try have SB:=Hm (hk2.far SB.out SN.out))
     have HO:=Hm ho2;have BX:=Hm (hk2.blk BX.out (by decide));have HK:=Hm (HK.out.trans hk2);have hB1:=qq hB HK.out.1.size;clear ho2 hk2;refine hK.out _ _ ?_ (fun hHeld=>?_)
     ·exact⟨(zb BX.out 0).trans rfl,(zb BX.out 1).trans rfl,(zb BX.out 2).trans rfl,(zb BX.out 3).trans rfl,(zb BX.out 4).trans rfl⟩
     clear hK K
     (try simp only[Act.put,qa,qb,qc,qf,qe,qd])
     refine wpAnyH_ready (rs:=[7]) (by kernel_rfl) (by simp) ?_;refine AllReadyH.cons rfl (fun K hK=>?_) ?_
     ·rw[if_pos (by rfl)]
      refine ZU _ _ rfl B _ _ rfl HO.out _ _ rfl 32 (zb SB.out 0) hB1 (by simp only[qg];omega) ?_;intro v4 w4 ho4 hk4;have BX:=Hm (hk4.blk BX.out (by decide));have HO:=Hm ho4;have HK:=Hm (HK.out.trans hk4);clear ho4 hk4;refine hK.out _ _ ?_ (fun hHeld=>?_)
      ·exact⟨(zb BX.out 0).trans rfl,(zb BX.out 1).trans rfl,(zb BX.out 2).trans rfl,(zb BX.out 3).trans rfl,(zb BX.out 4).trans rfl⟩
      clear hK K
      (try simp only[Act.put,qa,qb,qc,qf,qe,qd])
      refine tK 8 ?_ rfl (by kernel_rfl) (fun _ _ _ h=>h) (by rfl) ?_ (by assumption) ?_;rotate_left
      ·intro w hSw;(try dsimp only at hSw);go_simp;(try with_reducible rfl)
      rotate_left;simp only[Act.put,qa,qb,qc,qf,qe,qd];refine wpAnyH_done (by kernel_rfl) ?_ _;go_wp2_with fail;go_meet;exact⟨HO,HK,BX⟩
     exact AllReadyH.nil
    exact AllReadyH.nil
   exact AllReadyH.nil
  exact AllReadyH.nil
 case rest=>
  clear HO HK BX HA HD HW HTA;obtain⟨HO,HK,BX⟩:=hcut;have hB1:=qq hB HK.out.1.size;have hw:IntKind.i64.wrap (8+(m:Int))=((8+m:Nat):Int):=by rw[IntKind.wrap_i64];omega
  have htl:=tw_len (8+m);have ht:=(HP.out.on HK.out.1).t.now.t (8+m) (by omega);have y1:=zb BX.out 1;simp only[qm,qn,qo]at y1;go_wp2_with (at_builtin;refine zQ rfl _ _ rfl B _ _ rfl HO.out (zG (8+m)) rfl hB1 (by simp only[qg,qh,qi];omega) ?_);intro v2 w2 ho2 hk2;have HO2:=Hm ho2;have HK2:=Hm (HK.out.trans hk2);have hB2:=qq hB HK2.out.1.size;have BX2:=Hm (hk2.blk BX.out (by decide));clear ho2 hk2 ht hw y1 HO HK BX;refine Hid.out ?_;refine Lib.hid ?_;go_wp2_with (at_builtin;refine zX rfl _ _ rfl B _ _ rfl (zw HO2.out (zd (Below.refl _ _) _)) _ _ rfl 32 (zb (zo _ _) 0) (by simp;omega) (by simp only[qg,qh,qi];omega) ?_);intro v3 w3 ho3 hk3
  have HO3:=Hm ho3;have HK3:=Hm ((HK2.out.alloc hB2 _).trans hk3);have hB3:=qq hB HK3.out.1.size;have BX3:=Hm (hk3.blk (zv BX2.out _) (by decide));clear ho3 hk3 HO2 HK2 BX2 hB1 hB2;refine Hid.out ?_;refine Lib.hid ?_;go_upto_region 12 with fail;have HO:=Hm (zw HO3.out (Below.refl _ _).drew);have HK:=Hm HK3.out.drew;have hB1:=hB3;have BX:Hid (w3.drew.heap[w.heap.size]? =some (.cells #[.int .i64 k,.int .i64 (m:Int),.string ⟨n.toArray⟩,.iface T u,.iface T' u'] 171)):=BX3;clear HO3 HK3 BX3
  refine wp_region_held_drew (S:=(fun w'=>w'.cell? ⟨w.heap.size,0,none⟩=some (.int .i64 k)∧w'.cell? ⟨w.heap.size,1,none⟩=some (.int .i64 (m:Int))∧w'.cell? ⟨w.heap.size,2,none⟩=some (.string ⟨n.toArray⟩)∧w'.cell? ⟨w.heap.size,3,none⟩=some (.iface T u)∧w'.cell? ⟨w.heap.size,4,none⟩=some (.iface T' u'))) (by kernel_rfl) ?_ (fun hHeld=>?_)
  ·exact⟨(zb BX.out 0).trans rfl,(zb BX.out 1).trans rfl,(zb BX.out 2).trans rfl,(zb BX.out 3).trans rfl,(zb BX.out 4).trans rfl⟩
  refine tK 0 ?_ rfl (by kernel_rfl) (fun _ _ _ h=>h) (by rfl) ?_ (by assumption) ?_;rotate_left
  ·intro w hSw;(try dsimp only at hSw);go_simp;(try with_reducible rfl)
  rotate_left;simp only[Act.put,qa,qb,qc,qf,qe,qd];refine tK 1 ?_ rfl (by kernel_rfl) (fun _ _ _ h=>h) (by rfl) ?_ (by assumption) ?_;rotate_left
  ·intro w hSw;(try dsimp only at hSw);go_simp;(try with_reducible rfl)
  rotate_left;simp only[Act.put,qa,qb,qc,qf,qe,qd];refine tK 2 ?_ rfl (by kernel_rfl) (fun _ _ _ h=>h) (by rfl) ?_ (by assumption) ?_;rotate_left
  ·intro w hSw;(try dsimp only at hSw);go_simp;(try with_reducible rfl)
  rotate_left;simp only[Act.put,qa,qb,qc,qf,qe,qd];refine tK 3 ?_ rfl (by kernel_rfl) (fun _ _ _ h=>h) (by rfl) ?_ (by assumption) ?_;rotate_left
  ·intro w hSw;(try dsimp only at hSw);go_simp;(try with_reducible rfl)
  rotate_left;simp only[Act.put,qa,qb,qc,qf,qe,qd];refine wpAnyH_ready (rs:=[4]) (by kernel_rfl) (by simp) ?_;refine AllReadyH.cons rfl (fun K hK=>?_) ?_
  ·go_simp
   refine(UP k m ⟨n.toArray⟩ (.iface T u) (.iface T' u') _ (HP.out.on HK.out.1).t.now.b (by omega) (by omega)).mono ?_;rintro e w1 ⟨rfl,hb1⟩;have HO:=Hm (zw HO.out hb1);have HK:=Hm (HK.out.trans (Kb.of hb1 hB1));have hB1:=qq hB HK.out.1.size;have BX:=Hm (zg BX.out hb1);clear hb1;refine hK.out _ _ ?_ (fun hHeld=>?_)
   ·exact⟨(zb BX.out 0).trans rfl,(zb BX.out 1).trans rfl,(zb BX.out 2).trans rfl,(zb BX.out 3).trans rfl,(zb BX.out 4).trans rfl⟩
   clear hK K
   (try simp only[Act.put,qa,qb,qc,qf,qe,qd])
   refine wpAnyH_ready (rs:=[5]) (by kernel_rfl) (by simp) ?_;refine AllReadyH.cons rfl (fun K hK=>?_) ?_
   ·go_simp
    refine(xb b HA'.out HW'.out _ B _ _ _ _ HO.out hB1 (HP.out.on HK.out.1) (HD'.out.oth HK.out) (by rw[←HTB.out];simp only[qg,qh,qi];omega)).mono ?_;rintro e w2 ⟨v2,rfl,ho2,hk2⟩;rw[←HTB.out]at ho2;have HO:=Hm ho2;have BX:=Hm (hk2.blk BX.out (by decide));have HK:=Hm (HK.out.trans hk2);clear ho2 hk2;refine hK.out _ _ ?_ (fun hHeld=>?_)
    ·exact⟨(zb BX.out 0).trans rfl,(zb BX.out 1).trans rfl,(zb BX.out 2).trans rfl,(zb BX.out 3).trans rfl,(zb BX.out 4).trans rfl⟩
    clear hK K
    (try simp only[Act.put,qa,qb,qc,qf,qe,qd])
    refine tK 6 ?_ rfl (by kernel_rfl) (fun _ _ _ h=>h) (by rfl) ?_ (by assumption) ?_;rotate_left
    ·intro w hSw;(try dsimp only at hSw);go_simp;(try with_reducible rfl)
    rotate_left;simp only[Act.put,qa,qb,qc,qf,qe,qd];refine wpAnyH_done (by kernel_rfl) ?_ _;go_wp2;go_ret;exact⟨v2,rfl,by have z:=HO.out;simpa[ql]using z,HK.out⟩
   exact AllReadyH.nil
  exact AllReadyH.nil
theorem appOk (t:Tr) (hw:t.wf) (ho:t.ops):Yj t:=by
 induction t with
 |leaf o=>exact SS o ho hw.2
 |pre o a ih=>exact QF o a hw.1 (ih hw.2 ho.2) hw.2
 |bin o a b ih ih'=>exact QG o a b hw.1.2.1 hw.1.2.2 (ih hw.2.1 ho.2.1) (ih' hw.2.2 ho.2.2) hw.2.1 hw.2.2
 |two o a b ih ih'=>
  have i1:=ih hw.2.1 ho.2.1;have i2:=ih' hw.2.2 ho.2.2;have hv:=hw.1;intro B w bs x nv hown hB hP hD hl
  cases hD with
  |two _ g off c v u _ _ hr hk c1 c2 h h'=>
   have e:jn (fun i=>if i=0 then a else b) 2=a.txt++[44,32]++b.txt:=by simp[jn]
   have key:=VA o 2 (fun i=>if i=0 then a else b) (fun i=>if i=0 then v else u) g off c B w bs x (fun i hi=>by by_cases e:i=0<;>simp[e,i1,i2]) (fun i hi=>by by_cases e:i=0<;>simp[e,h,h']) hk (fun i hi=>by
    have:i=0∨i=1:=by omega
    rcases this with rfl|rfl<;>simp[c1,c2]) (by omega) (by omega) (by omega) hown hB hP (by rw[e];simp only[Tr.txt,qg,qh,qi]at hl ⊢;omega)
   rw[e]at key;simpa[Tr.txt,ql]using key
 |three o a b d ih ih' ih''=>
  have i1:=ih hw.2.1 ho.2.1;have i2:=ih' hw.2.2.1 ho.2.2.1;have i3:=ih'' hw.2.2.2 ho.2.2.2;have hv:=hw.1;intro B w bs x nv hown hB hP hD hl
  cases hD with
  |three _ g off c v u y _ _ _ hr hk c1 c2 c3 h h' h''=>
   have e:jn (fun i=>if i=0 then a else if i=1 then b else d) 3=a.txt++[44,32]++b.txt++[44,32]++d.txt:=by simp[jn]
   have key:=VA o 3 (fun i=>if i=0 then a else if i=1 then b else d) (fun i=>if i=0 then v else if i=1 then u else y) g off c B w bs x (fun i hi=>by by_cases e:i=0<;>by_cases e':i=1<;>simp[e,e',i1,i2,i3]) (fun i hi=>by by_cases e:i=0<;>by_cases e':i=1<;>simp[e,e',h,h',h'']) hk (fun i hi=>by
    have:i=0∨i=1∨i=2:=by omega
    rcases this with rfl|rfl|rfl<;>simp[c1,c2,c3]) (by omega) (by omega) (by omega) hown hB hP (by rw[e];simp only[Tr.txt,qg,qh,qi]at hl ⊢;omega)
   rw[e]at key;simpa[Tr.txt,ql]using key
end Go.Proofs.YtbkajklninmhiaaGreatDoor.Syn
