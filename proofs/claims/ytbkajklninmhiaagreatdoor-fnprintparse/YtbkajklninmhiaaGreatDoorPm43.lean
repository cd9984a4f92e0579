import Derived.Test.YtbkajklninmhiaaGreatDoorPm42
set_option maxHeartbeats 3200000
set_option maxRecDepth 100000
set_option linter.unusedVariables false
set_option linter.unusedSimpArgs false
open List renaming setIfInBounds_toArray → qa, set_cons_zero → qb, set_cons_succ → qc, getElem_cons_succ → qd, getElem_cons_zero → qe, getElem_toArray → qf, length_append → qg, length_cons → qh, length_nil → qi, append_assoc → ql, getElem?_toArray → qm, getElem?_cons_zero → qn
open Nat renaming le_trans → qq
namespace Go.Proofs.YtbkajklninmhiaaGreatDoor.Syn
open Go Go.RowKit Mem
open Go.Proofs.YtbkajklninmhiaaGreatDoor.Print (Own Zt byteCells_one)
attribute [local go_sem ↓] Go.wp_at_zero Go.wp_at_succ
def yR (E:Nat→Po) (n:Nat):List UInt8:=match stk E n with
 |some [t]=>t.txt
 |_=>[]
theorem yK (E:Nat→Po) (a:Option Addr) (n cap B:Nat) (bs:List UInt8) (x:Value) (w:World) (t:Tr) (ht:stk E n=some [t]) (hs:zK w a n 3 (fun i=>(E i).cells)) (hn:n≤1048576) (hown:Own B w x bs) (hB:B≤w.heap.size) (hP:Ps B w) (hl:bs.length+t.txt.length≤500000000):
  Calls Tryz.prog 40 #[x,.slice a n cap] w (App B x w (bs++t.txt)):=by
 have HO:=Hm hown;have HP:=Hm hP;have HS:=Hm hs;have HE:=Hm ht;clear hown hP hs ht;go_enter Tryz.func40,Tryz.ntmps40;go_wp2_with fail;refine(QU E a n cap _ HS.out hn HP.out.t.now.t HP.out.t.now.o).mono ?_;rintro e w1 hT
 cases hT with
 |no he hs hb=>exact absurd HE.out (hs t)
 |ok v t' he hs hd hb=>
  obtain rfl:t'=t:=by have:=hs.symm.trans HE.out;simpa using this
  subst he;obtain⟨T,u,rfl⟩:=hd.form;have HO1:=Hm (zw HO.out hb);have HK1:=Hm (Kb.of (x:=x) hb hB);have hB1:=qq hB HK1.out.1.size;have HD:=Hm hd;clear hs hd hb HO HS;go_wp2_with fail;refine(appOk t' ((Yy HE.out).1 t' (by simp)) (Uu HE.out t' (by simp)) B _ bs _ _ HO1.out hB1 (HP.out.on HK1.out.1) HD.out hl).mono ?_;rintro e w3 ⟨v3,rfl,ho,hk⟩;have HO3:=Hm ho;have HK3:=Hm (HK1.out.trans hk);clear ho hk;go_wp2;go_ret;exact⟨v3,rfl,HO3.out,HK3.out⟩
theorem yL (z:Int) (g c B:Nat) (fr:Nat×Nat) (bs:List UInt8) (x:Value) (w:World) (hz:-999999999≤z) (hz':z≤999999999) (hg:w.heap[g]? =some (.cells #[.int .i64 z] 2 fr)) (hown:Own B w x bs) (hB:B≤w.heap.size) (hP:Ps B w) (hl:bs.length≤700000000):
  Calls Tryz.prog 41 #[x,.slice (some ⟨g,0,none⟩) 1 c] w (App B x w (bs++[32]++Lib.itoa z)):=by
 have HO:=Hm hown;have HP:=Hm hP;have HG:=Hm hg;clear hown hP hg;go_enter Tryz.func41,Tryz.ntmps41;go_wp2;go_loopw [0,9] (fun b i wr=>∃j:Nat,j≤1∧i=.int .i64 (j:Int)∧Hid (Own B wr b (if j=0 then bs else bs++[32]++Lib.itoa z))∧Hid (Kb B x b w wr)) (fun _ i _=>1- (intOf i).toNat)
 case atStart=>exact⟨0,Nat.zero_le _,rfl,HO,Kb.refl B x w⟩
 case round=>
  obtain⟨j,hj,rfl,ho,hkr⟩:=hrel;have hBr:=qq hB hkr.out.1.size;by_cases h0:j=0
  ·subst h0
   have ho':Hid (Own B wr _ bs):=ho;have y:=zb (hkr.out.blk HG.out (by decide)) 0;simp only[qm,qn]at y;clear ho HO;go_wp2_with (at_builtin;refine zX rfl _ _ rfl B _ bs rfl (zw ho'.out (zd (Below.refl _ _) _)) _ _ rfl 32 (zb (zo _ _) 0) (by simp;omega) (by omega) ?_);intro v2 w2 ho2 hk2;have HO2:=Hm ho2;have HK2:=Hm ((hkr.out.alloc hBr _).trans hk2);have hB2:=qq hB HK2.out.1.size;clear ho2 hk2 y;refine Hid.out ?_;refine Lib.hid ?_;go_wp2_with fail;refine(Yt B z (by omega) (by omega) _ (bs++[32]) _ HO2.out hB2 (by simp;omega) (HP.out.on HK2.out.1).p).mono ?_;rintro e w3 ⟨v3,rfl,ho3,hk3⟩;have HO3:=Hm ho3;have HK3:=Hm (HK2.out.trans hk3);clear ho3 hk3;go_wp2;exact⟨⟨1,by omega,by go_num,HO3,HK3⟩,by simp[intOf]⟩
  ·obtain rfl:j=1:=by omega
   have ho':=Hm ho.out;rw[if_neg (by omega)]at ho';clear ho;go_wp2;go_ret;exact⟨_,rfl,ho'.out,hkr.out⟩
def y8 (i:It):List UInt8:=[32,105,110,32]++Lib.itoa i.lo++[32,46,46,32]++Lib.itoa i.hi
theorem xg {z:Int} (h:-999999999≤z) (h':z≤999999999):(Lib.itoa z).length≤21:=by
 by_cases h0:0≤z
 ·have:=YH h0 h';omega
 ·obtain⟨u,rfl⟩:∃u:Nat,z=-(u:Int):=⟨z.natAbs,by omega⟩
  rw[Lib.itoa_neg u (by omega)];have:=V8 (u:=u) (by omega);simp only[qh];omega
theorem Xa (i:It) (l:Lo) (B:Nat) (bs:List UInt8) (x:Value) (w:World) (hl0:-999999999≤i.lo) (hl1:i.lo≤999999999) (hh0:-999999999≤i.hi) (hh1:i.hi≤999999999) (hown:Own B w x bs) (hB:B≤w.heap.size) (hP:Ps B w) (hl:bs.length≤600000000):
  Calls Tryz.prog 42 #[x,.agg #[.int .i64 i.k,.string ⟨i.n.toArray⟩,.slice l.aE i.nE l.cE,.slice l.aF i.nF l.cF,.int .i64 i.K,.int .i64 i.lo,.int .i64 i.hi]] w (App B x w (bs++y8 i)):=by
 obtain⟨W0,hW0⟩:∃W0,W0=w.alloc (.cells #[.int .i64 i.k,.string ⟨i.n.toArray⟩,.slice l.aE i.nE l.cE,.slice l.aF i.nF l.cF,.int .i64 i.K,.int .i64 i.lo,.int .i64 i.hi] 38):=⟨_,rfl⟩;have HO:=Hm (zw hown (zd (Below.refl _ _) (.cells #[.int .i64 i.k,.string ⟨i.n.toArray⟩,.slice l.aE i.nE l.cE,.slice l.aF i.nF l.cF,.int .i64 i.K,.int .i64 i.lo,.int .i64 i.hi] 38)));have HK:=Hm ((Kb.refl B x w).alloc hB (.cells #[.int .i64 i.k,.string ⟨i.n.toArray⟩,.slice l.aE i.nE l.cE,.slice l.aF i.nF l.cF,.int .i64 i.K,.int .i64 i.lo,.int .i64 i.hi] 38));have BX:=Hm (zo w (.cells #[.int .i64 i.k,.string ⟨i.n.toArray⟩,.slice l.aE i.nE l.cE,.slice l.aF i.nF l.cF,.int .i64 i.K,.int .i64 i.lo,.int .i64 i.hi] 38));rw[←hW0]at HO HK BX;have HW0:=Hm hW0;have HP:=Hm hP;have hll:=xg hl0 hl1
 have HSP:Hid (y8 i=[32,105,110]++([32]++Lib.itoa i.lo)++[32,46,46]++([32]++Lib.itoa i.hi)):=by simp[Hid,y8]
 rw[HSP.out];clear hown hP hW0 HSP;go_enter Tryz.func42,Tryz.ntmps42;go_upto_region 1 with fail;rw[←HW0.out];clear HW0;go_cut [0] (fun s wx=>Hid (Own B wx s (bs++[32,105,110]++[32]++Lib.itoa i.lo))∧Hid (Kb B x s w wx)∧Hid (wx.heap[w.heap.size]? =some (.cells #[.int .i64 i.k,.string ⟨i.n.toArray⟩,.slice l.aE i.nE l.cE,.slice l.aF i.nF l.cF,.int .i64 i.K,.int .i64 i.lo,.int .i64 i.hi] 38)))
 case first=>
  have hB1:=qq hB HK.out.1.size;have HO:=Hm (zw HO.out (Below.refl _ _).drew);have HK:=Hm HK.out.drew;have BX:Hid (W0.drew.heap[w.heap.size]? =some (.cells #[.int .i64 i.k,.string ⟨i.n.toArray⟩,.slice l.aE i.nE l.cE,.slice l.aF i.nF l.cF,.int .i64 i.K,.int .i64 i.lo,.int .i64 i.hi] 38)):=BX;refine wp_region_held_drew (S:=(fun w'=>w'.cell? ⟨w.heap.size,0,none⟩=some (.int .i64 i.k)∧w'.cell? ⟨w.heap.size,1,none⟩=some (.string ⟨i.n.toArray⟩)∧w'.cell? ⟨w.heap.size,2,none⟩=some (.slice l.aE i.nE l.cE)∧w'.cell? ⟨w.heap.size,3,none⟩=some (.slice l.aF i.nF l.cF)∧w'.cell? ⟨w.heap.size,4,none⟩=some (.int .i64 i.K)∧w'.cell? ⟨w.heap.size,5,none⟩=some (.int .i64 i.lo)∧w'.cell? ⟨w.heap.size,6,none⟩=some (.int .i64 i.hi))) (by kernel_rfl) ?_ (fun hHeld=>?_)
  ·exact cL9 BX.out
  refine tK 0 ?_ rfl (by kernel_rfl) (fun _ _ _ h=>h) (by rfl) ?_ (by assumption) ?_;rotate_left
  ·intro w hSw;(try dsimp only at hSw);go_simp;(try with_reducible rfl)
  rotate_left;simp only[Act.put,qa,qb,qc,qf,qe,qd];refine tK 2 ?_ rfl (by kernel_rfl) (fun _ _ _ h=>h) (by rfl) ?_ (by assumption) ?_;rotate_left
  ·intro w hSw;(try dsimp only at hSw);go_simp;(try with_reducible rfl)
  rotate_left;simp only[Act.put,qa,qb,qc,qf,qe,qd];refine tK 3 ?_ rfl (by kernel_rfl) (fun _ _ _ h=>h) (by rfl) ?_ (by assumption) ?_;rotate_left
  ·intro w hSw;(try dsimp only at hSw);go_simp;(try with_reducible rfl)
  rotate_left;simp only[Act.put,qa,qb,qc,qf,qe,qd];refine wpAnyH_ready (rs:=[1,4]) (by kernel_rfl) (by simp) ?_;refine AllReadyH.cons rfl (fun K hK=>?_) ?_
  ·rw[if_pos (by rfl)]
   refine xA _ _ rfl B _ _ rfl HO.out [32,105,110] rfl hB1 (by simp only[qg,qh,qi];omega) ?_;intro v2 w2 ho2 hk2
   (try have SB:=Hm (hk2.blk SB.out (by decide)))
   have BX:=Hm (hk2.blk BX.out (by decide));have HO:=Hm ho2;have HK:=Hm (HK.out.trans hk2);have hB1:=qq hB HK.out.1.size;clear ho2 hk2;refine hK.out _ _ ?_ (fun hHeld=>?_)
   ·exact cL9 BX.out
   clear hK K
   (try simp only[Act.put,qa,qb,qc,qf,qe,qd])
   refine wpAnyH_ready (rs:=[4]) (by kernel_rfl) (by simp) ?_;refine AllReadyH.cons rfl (fun K hK=>?_) ?_
   ·go_simp
    have SB:=Hm (xE HK.out (.cells #[.int .i64 i.lo] 2));have HO:=Hm (zw HO.out (zd (Below.refl _ _) (.cells #[.int .i64 i.lo] 2)));have HK:=Hm (HK.out.alloc hB1 (.cells #[.int .i64 i.lo] 2));have BX:=Hm (zv BX.out (.cells #[.int .i64 i.lo] 2));have hB1:=qq hB HK.out.1.size;refine hK.out _ _ ?_ (fun hHeld=>?_)
    ·exact cL9 BX.out
    clear hK K
    (try simp only[Act.put,qa,qb,qc,qf,qe,qd])
    refine wpAnyH_ready (rs:=[5]) (by kernel_rfl) (by simp) ?_;refine AllReadyH.cons rfl (fun K hK=>?_) ?_
    ·go_simp
     refine(yL (i.lo) _ _ B _ _ _ _ (by omega) (by omega) SB.out HO.out hB1 (HP.out.on HK.out.1) (by simp only[qg,qh,qi];omega)).mono ?_;rintro e w3 ⟨v3,rfl,ho3,hk3⟩;have BX:=Hm (hk3.blk BX.out (by decide));have HO:=Hm ho3;have HK:=Hm (HK.out.trans hk3);have hB1:=qq hB HK.out.1.size;clear ho3 hk3;refine hK.out _ _ ?_ (fun hHeld=>?_)
     ·exact cL9 BX.out
     clear hK K
     (try simp only[Act.put,qa,qb,qc,qf,qe,qd])
     refine tK 6 ?_ rfl (by kernel_rfl) (fun _ _ _ h=>h) (by rfl) ?_ (by assumption) ?_;rotate_left
     ·intro w hSw;(try dsimp only at hSw);go_simp;(try with_reducible rfl)
     rotate_left;simp only[Act.put,qa,qb,qc,qf,qe,qd];refine wpAnyH_done (by kernel_rfl) ?_ _;go_wp2_with fail;go_meet;exact⟨HO,HK,BX⟩
    exact AllReadyH.nil
   exact AllReadyH.nil
  refine AllReadyH.cons rfl (fun K hK=>?_) ?_
  ·go_simp
   have SB:=Hm (xE HK.out (.cells #[.int .i64 i.lo] 2));have HO:=Hm (zw HO.out (zd (Below.refl _ _) (.cells #[.int .i64 i.lo] 2)));have HK:=Hm (HK.out.alloc hB1 (.cells #[.int .i64 i.lo] 2));have BX:=Hm (zv BX.out (.cells #[.int .i64 i.lo] 2));have hB1:=qq hB HK.out.1.size;refine hK.out _ _ ?_ (fun hHeld=>?_)
   ·exact cL9 BX.out
   clear hK K
   (try simp only[Act.put,qa,qb,qc,qf,qe,qd])
   refine wpAnyH_ready (rs:=[1]) (by kernel_rfl) (by simp) ?_;refine AllReadyH.cons rfl (fun K hK=>?_) ?_
   ·rw[if_pos (by rfl)]
    refine xA _ _ rfl B _ _ rfl HO.out [32,105,110] rfl hB1 (by simp only[qg,qh,qi];omega) ?_;intro v2 w2 ho2 hk2
    (try have SB:=Hm (hk2.blk SB.out (by decide)))
    have BX:=Hm (hk2.blk BX.out (by decide));have HO:=Hm ho2;have HK:=Hm (HK.out.trans hk2);have hB1:=qq hB HK.out.1.size;clear ho2 hk2;refine hK.out _ _ ?_ (fun hHeld=>?_)
    ·exact cL9 BX.out
    clear hK K
    (try simp only[Act.put,qa,qb,qc,qf,qe,qd])
    refine wpAnyH_ready (rs:=[5]) (by kernel_rfl) (by simp) ?_;refine AllReadyH.cons rfl (fun K hK=>?_) ?_
    ·go_simp
     refine(yL (i.lo) _ _ B _ _ _ _ (by omega) (by omega) SB.out HO.out hB1 (HP.out.on HK.out.1) (by simp only[qg,qh,qi];omega)).mono ?_;rintro e w3 ⟨v3,rfl,ho3,hk3⟩;have BX:=Hm (hk3.blk BX.out (by decide));have HO:=Hm ho3;have HK:=Hm (HK.out.trans hk3);have hB1:=qq hB HK.out.1.size;clear ho3 hk3;refine hK.out _ _ ?_ (fun hHeld=>?_)
     ·exact cL9 BX.out
     clear hK K
     (try simp only[Act.put,qa,qb,qc,qf,qe,qd])
     refine tK 6 ?_ rfl (by kernel_rfl) (fun _ _ _ h=>h) (by rfl) ?_ (by assumption) ?_;rotate_left
     ·intro w hSw;(try dsimp only at hSw);go_simp;(try with_reducible rfl)
     rotate_left;simp only[Act.put,qa,qb,qc,qf,qe,qd];refine wpAnyH_done (by kernel_rfl) ?_ _;go_wp2_with fail;go_meet;exact⟨HO,HK,BX⟩
    exact AllReadyH.nil
   exact AllReadyH.nil
  exact AllReadyH.nil
 case rest=>
  clear HO HK BX;obtain⟨HO,HK,BX⟩:=hcut;have hB1:=qq hB HK.out.1.size;go_upto_region 2 with fail;have HO:=Hm (zw HO.out (Below.refl _ _).drew);have HK:=Hm HK.out.drew;have BX:Hid (wc.drew.heap[w.heap.size]? =some (.cells #[.int .i64 i.k,.string ⟨i.n.toArray⟩,.slice l.aE i.nE l.cE,.slice l.aF i.nF l.cF,.int .i64 i.K,.int .i64 i.lo,.int .i64 i.hi] 38)):=BX
  refine wp_region_held_drew (S:=(fun w'=>w'.cell? ⟨w.heap.size,0,none⟩=some (.int .i64 i.k)∧w'.cell? ⟨w.heap.size,1,none⟩=some (.string ⟨i.n.toArray⟩)∧w'.cell? ⟨w.heap.size,2,none⟩=some (.slice l.aE i.nE l.cE)∧w'.cell? ⟨w.heap.size,3,none⟩=some (.slice l.aF i.nF l.cF)∧w'.cell? ⟨w.heap.size,4,none⟩=some (.int .i64 i.K)∧w'.cell? ⟨w.heap.size,5,none⟩=some (.int .i64 i.lo)∧w'.cell? ⟨w.heap.size,6,none⟩=some (.int .i64 i.hi))) (by kernel_rfl) ?_ (fun hHeld=>?_)
  ·exact cL9 BX.out
  refine tK 0 ?_ rfl (by kernel_rfl) (fun _ _ _ h=>h) (by rfl) ?_ (by assumption) ?_;rotate_left
  ·intro w hSw;(try dsimp only at hSw);go_simp;(try with_reducible rfl)
  rotate_left;simp only[Act.put,qa,qb,qc,qf,qe,qd];refine tK 2 ?_ rfl (by kernel_rfl) (fun _ _ _ h=>h) (by rfl) ?_ (by assumption) ?_;rotate_left
  ·intro w hSw;(try dsimp only at hSw);go_simp;(try with_reducible rfl)
  rotate_left;simp only[Act.put,qa,qb,qc,qf,qe,qd];refine tK 3 ?_ rfl (by kernel_rfl) (fun _ _ _ h=>h) (by rfl) ?_ (by assumption) ?_;rotate_left
  ·intro w hSw;(try dsimp only at hSw);go_simp;(try with_reducible rfl)
  rotate_left;simp only[Act.put,qa,qb,qc,qf,qe,qd];refine wpAnyH_ready (rs:=[1,4]) (by kernel_rfl) (by simp) ?_;refine AllReadyH.cons rfl (fun K hK=>?_) ?_
  ·rw[if_pos (by rfl)]
   refine xA _ _ rfl B _ _ rfl HO.out [32,46,46] rfl hB1 (by simp only[qg,qh,qi];omega) ?_;intro v2 w2 ho2 hk2
   (try have SB:=Hm (hk2.blk SB.out (by decide)))
   have BX:=Hm (hk2.blk BX.out (by decide));have HO:=Hm ho2;have HK:=Hm (HK.out.trans hk2);have hB1:=qq hB HK.out.1.size;clear ho2 hk2;refine hK.out _ _ ?_ (fun hHeld=>?_)
   ·exact cL9 BX.out
   clear hK K
   (try simp only[Act.put,qa,qb,qc,qf,qe,qd])
   refine wpAnyH_ready (rs:=[4]) (by kernel_rfl) (by simp) ?_;refine AllReadyH.cons rfl (fun K hK=>?_) ?_
   ·go_simp
    have SB:=Hm (xE HK.out (.cells #[.int .i64 i.hi] 2));have HO:=Hm (zw HO.out (zd (Below.refl _ _) (.cells #[.int .i64 i.hi] 2)));have HK:=Hm (HK.out.alloc hB1 (.cells #[.int .i64 i.hi] 2));have BX:=Hm (zv BX.out (.cells #[.int .i64 i.hi] 2));have hB1:=qq hB HK.out.1.size;refine hK.out _ _ ?_ (fun hHeld=>?_)
    ·exact cL9 BX.out
    clear hK K
    (try simp only[Act.put,qa,qb,qc,qf,qe,qd])
    refine wpAnyH_ready (rs:=[5]) (by kernel_rfl) (by simp) ?_;refine AllReadyH.cons rfl (fun K hK=>?_) ?_
    ·go_simp
     refine(yL (i.hi) _ _ B _ _ _ _ (by omega) (by omega) SB.out HO.out hB1 (HP.out.on HK.out.1) (by simp only[qg,qh,qi];omega)).mono ?_;rintro e w3 ⟨v3,rfl,ho3,hk3⟩;have BX:=Hm (hk3.blk BX.out (by decide));have HO:=Hm ho3;have HK:=Hm (HK.out.trans hk3);have hB1:=qq hB HK.out.1.size;clear ho3 hk3;refine hK.out _ _ ?_ (fun hHeld=>?_)
     ·exact cL9 BX.out
     clear hK K
     (try simp only[Act.put,qa,qb,qc,qf,qe,qd])
     refine tK 6 ?_ rfl (by kernel_rfl) (fun _ _ _ h=>h) (by rfl) ?_ (by assumption) ?_;rotate_left
     ·intro w hSw;(try dsimp only at hSw);go_simp;(try with_reducible rfl)
     rotate_left;simp only[Act.put,qa,qb,qc,qf,qe,qd];refine wpAnyH_done (by kernel_rfl) ?_ _;go_wp2;go_ret;exact⟨v3,rfl,by have z:=HO.out;simpa[ql]using z,HK.out⟩
    exact AllReadyH.nil
   exact AllReadyH.nil
  refine AllReadyH.cons rfl (fun K hK=>?_) ?_
  ·go_simp
   have SB:=Hm (xE HK.out (.cells #[.int .i64 i.hi] 2));have HO:=Hm (zw HO.out (zd (Below.refl _ _) (.cells #[.int .i64 i.hi] 2)));have HK:=Hm (HK.out.alloc hB1 (.cells #[.int .i64 i.hi] 2));have BX:=Hm (zv BX.out (.cells #[.int .i64 i.hi] 2));have hB1:=qq hB HK.out.1.size;refine hK.out _ _ ?_ (fun hHeld=>?_)
   ·exact cL9 BX.out
   clear hK K
   (try simp only[Act.put,qa,qb,qc,qf,qe,qd])
   refine wpAnyH_ready (rs:=[1]) (by kernel_rfl) (by simp) ?_;refine AllReadyH.cons rfl (fun K hK=>?_) ?_
   ·rw[if_pos (by rfl)]
    refine xA _ _ rfl B _ _ rfl HO.out [32,46,46] rfl hB1 (by simp only[qg,qh,qi];omega) ?_;intro v2 w2 ho2 hk2
    (try have SB:=Hm (hk2.blk SB.out (by decide)))
    have BX:=Hm (hk2.blk BX.out (by decide));have HO:=Hm ho2;have HK:=Hm (HK.out.trans hk2);have hB1:=qq hB HK.out.1.size;clear ho2 hk2;refine hK.out _ _ ?_ (fun hHeld=>?_)
    ·exact cL9 BX.out
    clear hK K
    (try simp only[Act.put,qa,qb,qc,qf,qe,qd])
    refine wpAnyH_ready (rs:=[5]) (by kernel_rfl) (by simp) ?_;refine AllReadyH.cons rfl (fun K hK=>?_) ?_
    ·go_simp
     refine(yL (i.hi) _ _ B _ _ _ _ (by omega) (by omega) SB.out HO.out hB1 (HP.out.on HK.out.1) (by simp only[qg,qh,qi];omega)).mono ?_;rintro e w3 ⟨v3,rfl,ho3,hk3⟩;have BX:=Hm (hk3.blk BX.out (by decide));have HO:=Hm ho3;have HK:=Hm (HK.out.trans hk3);have hB1:=qq hB HK.out.1.size;clear ho3 hk3;refine hK.out _ _ ?_ (fun hHeld=>?_)
     ·exact cL9 BX.out
     clear hK K
     (try simp only[Act.put,qa,qb,qc,qf,qe,qd])
     refine tK 6 ?_ rfl (by kernel_rfl) (fun _ _ _ h=>h) (by rfl) ?_ (by assumption) ?_;rotate_left
     ·intro w hSw;(try dsimp only at hSw);go_simp;(try with_reducible rfl)
     rotate_left;simp only[Act.put,qa,qb,qc,qf,qe,qd];refine wpAnyH_done (by kernel_rfl) ?_ _;go_wp2;go_ret;exact⟨v3,rfl,by have z:=HO.out;simpa[ql]using z,HK.out⟩
    exact AllReadyH.nil
   exact AllReadyH.nil
  exact AllReadyH.nil
end Go.Proofs.YtbkajklninmhiaaGreatDoor.Syn
