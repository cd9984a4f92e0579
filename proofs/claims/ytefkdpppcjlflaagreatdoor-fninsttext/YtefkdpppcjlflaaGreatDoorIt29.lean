import Derived.Test.YtefkdpppcjlflaaGreatDoorIt24
import Derived.Test.YtefkdpppcjlflaaGreatDoorIt25
import Derived.Test.YtefkdpppcjlflaaGreatDoorIt26
import Derived.Test.YtefkdpppcjlflaaGreatDoorIt27
import Derived.Test.YtefkdpppcjlflaaGreatDoorIt28
import Derived.Test.YtefkdpppcjlflaaGreatDoorIt11
import Derived.Deep.DeepCutAuto
namespace Go.Proofs.YtefkdpppcjlflaaGreatDoor.Draw
open Go Go.RowKit Go.Proofs.YtefkdpppcjlflaaGreatDoor.Mem Go.Proofs.YtefkdpppcjlflaaGreatDoor.Parse
set_option linter.unusedVariables false
set_option linter.unusedSimpArgs false
attribute [local go_sem ↓] Go.wp_at_zero Go.wp_at_succ

theorem nodesD (a1 a2 a3 : Option Addr) (c1 c2 c3 N1 N2 N3 : Nat) (w : World) (h1 : N1 ≤ 1048576) (h2 : N2 ≤ 1048576) :
    Calls Tryz.prog 16 #[.agg #[.slice a1 N1 c1, .slice a2 N2 c2, .slice a3 N3 c3]] w fun e w' => e = .returned (.int .i64 ((N1 : Int) + 2 * (N2 : Int))) ∧ Below w.heap.size w w' :=
  Valid.nodesS a1 a2 a3 c1 c2 c3 ⟨N1, N2, N3, fun _ => ⟨0, 0, 0, 0, 0, 0, 0⟩, fun _ => ⟨0, 0, 0, 0, 0, 0, 0, 0, 0, 0, 0, 0⟩, fun _ => ⟨0, 0, 0⟩⟩ w h1 h2
theorem sp2_len (bs : List UInt8) (k : Int) (s : DS) (L : List Veh) : (sp2 bs k s L).1.length = L.length := by
  unfold sp2; split
  · exact List.length_set
  · rfl
theorem sp3_len (bs : List UInt8) (k : Int) (s : DS) (L : List Req) : (sp3 bs k s L).1.length = L.length := by
  unfold sp3; split
  · exact List.length_set
  · rfl
set_option maxHeartbeats 6400000 in
set_option maxRecDepth 1000000 in
theorem spoilD (rF B g : Nat) (bs : List UInt8) (s : DS) (w0 w : World) (L1 : List Veh) (L2 : List Req) (R : List Rd) (v1 v2 v3 : Value) (hB : B ≤ g) (hBs : B ≤ w0.heap.size) (hl : bs.length ≤ 1048576) (hg0 : g < w0.heap.size) (hV : L1.length ≤ 800) (hQ : L2.length ≤ 800) (hR : R.length ≤ 800) (hd : DC B g w bs s) (hacc : AccAt w0.heap.size w v1 v2 v3 ⟨L1, L2, R⟩) (hgb : w0.grownBy w (some g)) (hF : rF ≠ g) (hF0 : w.heap[rF]? = some (.cells #[.slice none 0 0, .slice none 0 0, .slice none 0 0] 27)) :
    Calls Tryz.prog 30 #[.pointer (some ⟨g, 0, none⟩), .agg #[v1, v2, v3]] w fun e w' => ∃ v1 v2 v3, e = .returned (.agg #[v1, v2, v3]) ∧ DC B g w' bs (dSpoil bs s ⟨L1, L2, R⟩).2 ∧ AccAt w0.heap.size w' v1 v2 v3 (dSpoil bs s ⟨L1, L2, R⟩).1 ∧ w0.grownBy w' (some g) ∧ w'.heap[rF]? = some (.cells #[.slice none 0 0, .slice none 0 0, .slice none 0 0] 27) := by
  have hF1 : rF ≠ w.heap.size := Nat.ne_of_lt (blk_lt hF0)
  have hF2 : rF ≠ w.heap.size + 1 := Nat.ne_of_lt (Nat.lt_succ_of_lt (blk_lt hF0))
  obtain ⟨kn, hkn⟩ : ∃ x, x = (dBelow bs s 12).1 := ⟨_, rfl⟩
  obtain ⟨s1, hs1⟩ : ∃ x, x = (dBelow bs s 12).2 := ⟨_, rfl⟩
  have hkb : kn < 12 := by rw [hkn]; exact below_lt _ _ (by omega)
  have C1 : Hid (∀ w, DC B g w bs s → Calls Tryz.prog 26 #[.pointer (some ⟨g, 0, none⟩), .int .i64 12] w fun e w' => e = .returned (.int .i64 (kn : Int)) ∧ DC B g w' bs s1 ∧ w.grownBy w' (some g)) := fun w hd => by rw [hkn, hs1]; exact belowD B g bs s 12 w hB hd hl (by omega) (by omega)
  have HKN := Hid.mk (And.intro hkn hs1)
  clear hkn hs1
  obtain ⟨kk, hkk⟩ : ∃ x : Int, x = (kn : Int) := ⟨_, rfl⟩
  have hk0 : 0 ≤ kk := by omega
  have hk1 : kk < 12 := by omega
  rw [← hkk] at C1
  have HKE := Hid.mk hkk
  clear hkk hkb
  obtain ⟨b1, l1, m1, e1⟩ : ∃ a n c, v1 = .slice a n c := by obtain ⟨a, c, h, -⟩ := row_shape hacc.v; exact ⟨_, _, _, h⟩
  obtain ⟨b2, l2, m2, e2⟩ : ∃ a n c, v2 = .slice a n c := by obtain ⟨a, c, h, -⟩ := row_shape hacc.q; exact ⟨_, _, _, h⟩
  obtain ⟨b3, l3, m3, e3⟩ : ∃ a n c, v3 = .slice a n c := by obtain ⟨a, c, h, -⟩ := row_shape hacc.r; exact ⟨_, _, _, h⟩
  subst e1 e2 e3
  have hsz := hgb.size
  obtain ⟨W0, hW0⟩ : ∃ W, W = w.alloc (.cells #[.slice b1 l1 m1, .slice b2 l2 m2, .slice b3 l3 m3] 27) := ⟨_, rfl⟩
  have hz0 : W0.heap.size = w.heap.size + 1 := by rw [hW0]; simp
  have A0 : Hid (Below w.heap.size w W0) := by rw [hW0]; exact below_alloc' (Below.refl _ _) _
  have X0 : Hid (W0.heap[w.heap.size]? = some (.cells #[.slice b1 l1 m1, .slice b2 l2 m2, .slice b3 l3 m3] 27)) := by rw [hW0]; exact blk_new _ _
  obtain ⟨W1, hW1⟩ : ∃ W, W = W0.alloc (.cells #[.slice none 0 0, .slice none 0 0, .slice none 0 0] 27) := ⟨_, rfl⟩
  have A1 : Hid (Below W0.heap.size W0 W1) := by rw [hW1]; exact below_alloc' (Below.refl _ _) _
  have I0 : Hid (IT rF B g w.heap.size (w.heap.size + 1) w0 W1 bs s (.slice b1 l1 m1) (.slice b2 l2 m2) (.slice b3 l3 m3) ⟨L1, L2, R⟩) :=
    ⟨⟨(hd.keep (by omega) A0.out).keep (by omega) A1.out, blk_below X0.out A1.out, by rw [hW1, ← hz0]; exact blk_new _ _, (hacc.below A0.out).below A1.out, gb_then (gb_then hgb (gb_below A0.out)) (gb_below A1.out)⟩, blk_below (blk_below hF0 A0.out) A1.out⟩
  have hI1 : w.heap.size ≠ g := by omega
  have hI2 : w.heap.size + 1 ≠ g := by omega
  have hI3 : w.heap.size ≠ w.heap.size + 1 := by omega
  have hw1 : w0.heap.size ≤ w.heap.size := hsz
  have hw2 : w0.heap.size ≤ w.heap.size + 1 := by omega
  have HW := Hid.mk (And.intro hW0 hW1)
  clear hd hacc hgb X0 A0 A1 hz0 hF0
  go_enter Tryz.func30, Tryz.ntmps30
  refine wp_seq_k (fun K0 h0 => ?_)
  have H0 := Hid.mk h0
  clear h0
  go_wp2_with fail
  rw [← hW0, ← hW1]
  clear hW0 hW1 HW
  refine H0.out _ _ ?_
  clear H0 K0
  refine wp_seq_k (fun K1 h1 => ?_)
  have H1 := Hid.mk h1
  clear h1
  go_wp2_with fail
  refine (C1.out _ I0.out.d).mono ?_
  rintro e w1 ⟨rfl, d1, g1⟩
  have J0 := Hid.mk (I0.out.call d1 g1 hI1 hI2 hF)
  clear d1 g1 I0 C1
  go_wp2_with fail
  refine H1.out _ _ ?_
  clear H1 K1
  refine wp_seq_k (fun K2 h2 => ?_)
  refine spoilV rF B g w.heap.size (w.heap.size + 1) bs w0 _ hB hBs hl hg0 kk hk0 hk1 hI1 hI2 hI3 hF hF1 hF2 hw1 hw2 s1 _ _ _ L1 L2 R (by omega) (by omega) (by omega) J0 _ _ _ _ _ _ _ _ _ _ _ _ _ _ _ _ _ _ _ _ _ _ _ _ _ _ _ _ _ _ _ _ _ _ _ _ _ _ _ _ _ _ _ _ _ _ _ _ _ _ _ _ _ _ _ _ _ _ _ _ _ _ _ _ _ _ _ _ _ _ _ _ _ _ _ _ _ _ _ _ _ _ _ _ _ _ _ _ _ _ _ _ _ _ _ _ _ _ _ _ _ _ _ _ _ _ _ _ _ _ _ _ _ _ _ _ _ _ _ _ _ _ _ _ _ _ _ _ _ _ _ _ _ _ _ _ _ _ _ _ _ _ _ _ _ _ _ _ _ _ ?_
  intro _ _ _ _ _ _ _ _ _ _ _ _ _ _ _ _ _ _ _ _ _ _ _ _ _ _ _ _ _ _ _ _ _ _ _ _ _ _ _ _ _ _ _ _ _ _ _ _ _ _ _ _ _ _ _ _ _ _ _ _ _ _ _ _ _ _ _ _ _ _ _ _ _ _ _ _ _ _ _ _ _ _ _ _ _ _ _ _ _ _ _ _ _ _ _ _ _ _ _ _ _ _ _ _ _ _ _ _ _ _ _ _ _ _ _ _ _ _ _ _ _ _ _ _ _ _ _ _ _ _ _ _ _ _ _ _ _ _ _ _ _ _ _ _ _ _ _ _ w2 LV s2 HV J1
  refine h2 _ _ ?_
  clear h2 K2 J0
  have hV1 : LV.length ≤ 800 := by have := sp2_len bs kk s1 L1; rw [HV.out] at this; simp only at this; omega
  refine wp_seq_k (fun K3 h3 => ?_)
  refine spoilQ rF B g w.heap.size (w.heap.size + 1) bs w0 _ hB hBs hl hg0 kk hk0 hk1 hI1 hI2 hI3 hF hF1 hF2 hw1 hw2 s2 _ _ _ LV L2 R (by omega) (by omega) (by omega) J1 _ _ _ _ _ _ _ _ _ _ _ _ _ _ _ _ _ _ _ _ _ _ _ _ _ _ _ _ _ _ _ _ _ _ _ _ _ _ _ _ _ _ _ _ _ _ _ _ _ _ _ _ _ _ _ _ _ _ _ _ _ _ _ _ _ _ _ _ _ _ _ _ _ _ _ _ _ _ _ _ _ _ _ _ _ _ _ _ _ _ _ _ _ _ _ _ _ _ _ _ _ _ _ _ _ _ _ _ _ _ _ _ _ _ _ _ _ _ _ _ _ _ _ _ _ _ _ _ _ _ _ _ _ _ _ _ _ _ _ _ _ _ _ _ _ _ _ _ _ _ ?_
  intro _ _ _ _ _ _ _ _ _ _ _ _ _ _ _ _ _ _ _ _ _ _ _ _ _ _ _ _ _ _ _ _ _ _ _ _ _ _ _ _ _ _ _ _ _ _ _ _ _ _ _ _ _ _ _ _ _ _ _ _ _ _ _ _ _ _ _ _ _ _ _ _ _ _ _ _ _ _ _ _ _ _ _ _ _ _ _ _ _ _ _ _ _ _ _ _ _ _ _ _ _ _ _ _ _ _ _ _ _ _ _ _ _ _ _ _ _ _ _ _ _ _ _ _ _ _ _ _ _ _ _ _ _ _ _ _ _ _ _ _ _ _ _ _ _ _ _ _ w3 LQ s3 HQ J2
  refine h3 _ _ ?_
  clear h3 K3 J1
  have hQ1 : LQ.length ≤ 800 := by have := sp3_len bs kk s2 L2; rw [HQ.out] at this; simp only at this; omega
  obtain ⟨n1, hn1⟩ : ∃ x, x = LV.length := ⟨_, rfl⟩
  obtain ⟨n2, hn2⟩ : ∃ x, x = LQ.length := ⟨_, rfl⟩
  obtain ⟨n3, hn3⟩ : ∃ x, x = R.length := ⟨_, rfl⟩
  have e1 : l1 = n1 := by obtain ⟨a, c, h, -⟩ := row_shape J2.out.acc.v; injection h with _ h _; rw [hn1]; exact h
  have e2 : l2 = n2 := by obtain ⟨a, c, h, -⟩ := row_shape J2.out.acc.q; injection h with _ h _; rw [hn2]; exact h
  subst e1 e2
  have HN := Hid.mk (And.intro hn1 hn2)
  have bb1 : l1 ≤ 800 := by omega
  have bb2 : l2 ≤ 800 := by omega
  clear hn1 hn2 hn3
  obtain ⟨nI, hnI⟩ : ∃ x : Int, x = (l1 : Int) + 2 * (l2 : Int) := ⟨_, rfl⟩
  have hnI0 : 0 ≤ nI := by omega
  have hnI1 : nI ≤ 5000 := by omega
  have C2 : Hid (∀ w, Calls Tryz.prog 16 #[.agg #[.slice b1 l1 m1, .slice b2 l2 m2, .slice b3 l3 m3]] w fun e w' => e = .returned (.int .i64 nI) ∧ Below w.heap.size w w') := fun w => by rw [hnI]; exact nodesD _ _ _ _ _ _ _ _ _ w (by omega) (by omega)
  have HNI := Hid.mk hnI
  clear hnI
  have r0 := (blk_cell J2.out.x 0).trans (show _ = some (.slice b1 l1 m1) from rfl)
  have r1 := (blk_cell J2.out.x 1).trans (show _ = some (.slice b2 l2 m2) from rfl)
  have r2 := (blk_cell J2.out.x 2).trans (show _ = some (.slice b3 l3 m3) from rfl)
  refine wp_seq_k (fun K4 h4 => ?_)
  have H4 := Hid.mk h4
  clear h4
  go_wp2_with fail
  refine (C2.out _).mono ?_
  rintro e w4 ⟨rfl, hb4⟩
  have J3 := Hid.mk (J2.out.below (Nat.le_trans hBs J2.out.gb.size) hb4)
  clear hb4 J2 C2 r0 r1 r2
  go_wp2_with fail
  refine H4.out _ _ ?_
  clear H4 K4
  refine wp_seq_k (fun K5 h5 => ?_)
  refine spoil8 rF B g w.heap.size (w.heap.size + 1) bs w0 _ hB hBs hl hg0 kk hk0 hk1 hI1 hI2 hI3 hF hF1 hF2 hw1 hw2 s3 _ _ _ LV LQ R (by omega) (by omega) (by omega) J3 nI hnI0 hnI1 _ _ _ _ _ _ _ _ _ _ _ _ _ _ _ _ _ _ _ _ _ _ _ _ _ _ _ _ _ _ _ _ _ _ _ _ _ _ _ _ _ _ _ _ _ _ _ _ _ _ _ _ _ _ _ _ _ _ _ _ _ _ _ _ _ _ _ _ _ _ _ _ _ _ _ _ _ _ _ _ _ _ _ _ _ _ _ _ _ _ _ _ _ _ _ _ _ _ _ _ _ _ _ _ _ _ _ _ _ _ _ _ _ _ _ _ _ _ _ _ _ _ _ _ _ _ _ _ _ _ _ _ _ _ _ _ _ _ _ _ _ _ _ _ _ _ _ _ _ ?_
  intro _ _ _ _ _ _ _ _ _ _ _ _ _ _ _ _ _ _ _ _ _ _ _ _ _ _ _ _ _ _ _ _ _ _ _ _ _ _ _ _ _ _ _ _ _ _ _ _ _ _ _ _ _ _ _ _ _ _ _ _ _ _ _ _ _ _ _ _ _ _ _ _ _ _ _ _ _ _ _ _ _ _ _ _ _ _ _ _ _ _ _ _ _ _ _ _ _ _ _ _ _ _ _ _ _ _ _ _ _ _ _ _ _ _ _ _ _ _ _ _ _ _ _ _ _ _ _ _ _ _ _ _ _ _ _ _ _ _ _ _ _ _ _ _ _ _ _ w5 R5 x5 H5 J5
  refine h5 _ _ ?_
  clear h5 K5 J3
  have hR5 : R5.length ≤ 801 := by rw [← H5.out]; unfold s5; split <;> first | omega | (simp; omega)
  refine wp_seq_k (fun K6 h6 => ?_)
  refine spoil9 rF B g w.heap.size (w.heap.size + 1) bs w0 _ hB hBs hl hg0 kk hk0 hk1 hI1 hI2 hI3 hF hF1 hF2 hw1 hw2 s3 _ _ _ LV LQ R5 (by omega) (by omega) (by omega) J5 nI hnI0 hnI1 _ _ _ _ _ _ _ _ _ _ _ _ _ _ _ _ _ _ _ _ _ _ _ _ _ _ _ _ _ _ _ _ _ _ _ _ _ _ _ _ _ _ _ _ _ _ _ _ _ _ _ _ _ _ _ _ _ _ _ _ _ _ _ _ _ _ _ _ _ _ _ _ _ _ _ _ _ _ _ _ _ _ _ _ _ _ _ _ _ _ _ _ _ _ _ _ _ _ _ _ _ _ _ _ _ _ _ _ _ _ _ _ _ _ _ _ _ _ _ _ _ _ _ _ _ _ _ _ _ _ _ _ _ _ _ _ _ _ _ _ _ _ _ _ _ _ _ _ _ ?_
  intro _ _ _ _ _ _ _ _ _ _ _ _ _ _ _ _ _ _ _ _ _ _ _ _ _ _ _ _ _ _ _ _ _ _ _ _ _ _ _ _ _ _ _ _ _ _ _ _ _ _ _ _ _ _ _ _ _ _ _ _ _ _ _ _ _ _ _ _ _ _ _ _ _ _ _ _ _ _ _ _ _ _ _ _ _ _ _ _ _ _ _ _ _ _ _ _ _ _ _ _ _ _ _ _ _ _ _ _ _ _ _ _ _ _ _ _ _ _ _ _ _ _ _ _ _ _ _ _ _ _ _ _ _ _ _ _ _ _ _ _ _ _ _ _ _ _ _ w6 R6 x6 H6 J6
  refine h6 _ _ ?_
  clear h6 K6 J5
  have hR6 : R6.length ≤ 802 := by rw [← H6.out]; unfold s6; split <;> first | omega | (simp; omega)
  refine wp_seq_k (fun K7 h7 => ?_)
  refine spoil10 rF B g w.heap.size (w.heap.size + 1) bs w0 _ hB hBs hl hg0 kk hk0 hk1 hI1 hI2 hI3 hF hF1 hF2 hw1 hw2 s3 _ _ _ LV LQ R6 (by omega) (by omega) (by omega) J6 _ _ _ _ _ _ _ _ _ _ _ _ _ _ _ _ _ _ _ _ _ _ _ _ _ _ _ _ _ _ _ _ _ _ _ _ _ _ _ _ _ _ _ _ _ _ _ _ _ _ _ _ _ _ _ _ _ _ _ _ _ _ _ _ _ _ _ _ _ _ _ _ _ _ _ _ _ _ _ _ _ _ _ _ _ _ _ _ _ _ _ _ _ _ _ _ _ _ _ _ _ _ _ _ _ _ _ _ _ _ _ _ _ _ _ _ _ _ _ _ _ _ _ _ _ _ _ _ _ _ _ _ _ _ _ _ _ _ _ _ _ _ _ _ _ _ _ _ _ _ ?_
  intro _ _ _ _ _ _ _ _ _ _ _ _ _ _ _ _ _ _ _ _ _ _ _ _ _ _ _ _ _ _ _ _ _ _ _ _ _ _ _ _ _ _ _ _ _ _ _ _ _ _ _ _ _ _ _ _ _ _ _ _ _ _ _ _ _ _ _ _ _ _ _ _ _ _ _ _ _ _ _ _ _ _ _ _ _ _ _ _ _ _ _ _ _ _ _ _ _ _ _ _ _ _ _ _ _ _ _ _ _ _ _ _ _ _ _ _ _ _ _ _ _ _ _ _ _ _ _ _ _ _ _ _ _ _ _ _ _ _ _ _ _ _ _ _ _ _ _ _ w7 R7 x7 H7 J7
  refine h7 _ _ ?_
  clear h7 K7 J6
  have hR7 : R7.length ≤ 803 := by rw [← H7.out]; unfold s7; split <;> first | omega | (simp; omega)
  refine wp_seq_k (fun K8 h8 => ?_)
  refine spoil11 rF B g w.heap.size (w.heap.size + 1) bs w0 _ hB hBs hl hg0 kk hk0 hk1 hI1 hI2 hI3 hF hF1 hF2 hw1 hw2 s3 _ _ _ LV LQ R7 (by omega) (by omega) (by omega) J7 _ _ _ _ _ _ _ _ _ _ _ _ _ _ _ _ _ _ _ _ _ _ _ _ _ _ _ _ _ _ _ _ _ _ _ _ _ _ _ _ _ _ _ _ _ _ _ _ _ _ _ _ _ _ _ _ _ _ _ _ _ _ _ _ _ _ _ _ _ _ _ _ _ _ _ _ _ _ _ _ _ _ _ _ _ _ _ _ _ _ _ _ _ _ _ _ _ _ _ _ _ _ _ _ _ _ _ _ _ _ _ _ _ _ _ _ _ _ _ _ _ _ _ _ _ _ _ _ _ _ _ _ _ _ _ _ _ _ _ _ _ _ _ _ _ _ _ _ _ _ ?_
  intro _ _ _ _ _ _ _ _ _ _ _ _ _ _ _ _ _ _ _ _ _ _ _ _ _ _ _ _ _ _ _ _ _ _ _ _ _ _ _ _ _ _ _ _ _ _ _ _ _ _ _ _ _ _ _ _ _ _ _ _ _ _ _ _ _ _ _ _ _ _ _ _ _ _ _ _ _ _ _ _ _ _ _ _ _ _ _ _ _ _ _ _ _ _ _ _ _ _ _ _ _ _ _ _ _ _ _ _ _ _ _ _ _ _ _ _ _ _ _ _ _ _ _ _ _ _ _ _ _ _ _ _ _ _ _ _ _ _ _ _ _ _ _ _ _ _ _ _ w8 R8 x8 H8 J8
  refine h8 _ _ ?_
  clear h8 K8 J7
  have hR8 : R8.length ≤ 803 := by rw [← H8.out]; unfold s8; split <;> first | omega | (simp; omega)
  have HF : Hid (dSpoil bs s ⟨L1, L2, R⟩ = (⟨LV, LQ, R8⟩, s3)) := by
    unfold Hid dSpoil
    simp only [← HKN.out.1, ← HKN.out.2, ← HKE.out, HV.out, HQ.out, ← HN.out.1, ← HN.out.2, ← HNI.out]
    unfold sp4
    rw [H5.out, H6.out, H7.out, H8.out]
  refine spoilF rF B g w.heap.size (w.heap.size + 1) bs w0 _ hB hBs hl hg0 hI1 hI2 hI3 hF hF1 hF2 hw1 hw2 s3 _ _ _ LV LQ R8 (by omega) (by omega) (by omega) J8 _ ?_ _ _ _ _ _ _ _ _ _ _ _ _ _ _ _ _ _ _ _ _ _ _ _ _ _ _ _ _ _ _ _ _ _ _ _ _ _ _ _ _ _ _ _ _ _ _ _ _ _ _ _ _ _ _ _ _ _ _ _ _ _ _ _ _ _ _ _ _ _ _ _ _ _ _ _ _ _ _ _ _ _ _ _ _ _ _ _ _ _ _ _ _ _ _ _ _ _ _ _ _ _ _ _ _ _ _ _ _ _ _ _ _ _ _ _ _ _ _ _ _ _ _ _ _ _ _ _ _ _ _ _ _ _ _ _ _ _ _ _ _ _ _ _ _ _ _ _ _ _
  intro a1 a2 a3 wx q1 q2 q3 q4
  exact ⟨_, _, _, rfl, by rw [HF.out]; exact q1, by rw [HF.out]; exact q2, q3, q4⟩
end Go.Proofs.YtefkdpppcjlflaaGreatDoor.Draw
