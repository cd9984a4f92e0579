import Derived.Test.YtgooegcmgejfpaaGreatDoorGr38
import Derived.Test.YtgooegcmgejfpaaGreatDoorGr40
import Derived.Test.YtgooegcmgejfpaaGreatDoorGr43
import Derived.Test.YtgooegcmgejfpaaGreatDoorGr44
import Derived.Test.YtgooegcmgejfpaaGreatDoorGr45
import Derived.Test.YtgooegcmgejfpaaGreatDoorGr46
import Derived.Deep.DrawnRows
import Derived.Deep.CutRange
import Derived.Deep.Cut
import Derived.Deep.DeepCutAuto
namespace Go.Proofs.YtgooegcmgejfpaaGreatDoor.Mac
open Go Go.RowKit Go.Proofs.YtgooegcmgejfpaaGreatDoor.Mem Go.Proofs.YtgooegcmgejfpaaGreatDoor.Travel
open Go.Proofs.YtgooegcmgejfpaaGreatDoor.Valid (inB nodes nodes_bd validB)
open Go.Proofs.YtgooegcmgejfpaaGreatDoor.StV (stopB okSt tripB)
set_option linter.unusedVariables false
set_option linter.unusedSimpArgs false
attribute [local go_sem ↓] Go.wp_at_zero Go.wp_at_succ

theorem start_lens (C : Co) (I : In) (v : Int) (hq : I.nQ ≤ 1048576) : (startB C I v).n1 ≤ 1048576 ∧ (startB C I v).n2 ≤ 1048576 ∧ (startB C I v).n3 ≤ 1048576 := by
  unfold startB
  split
  · rename_i h
    obtain ⟨k0, k1, k2, k3⟩ := StV.co_bd h.1
    obtain ⟨-, -, hval⟩ := trip_bd h.2
    obtain ⟨-, l2, -⟩ := StV.in_bd hval
    have hm := StV.mul_bd k2 k3 l2
    split
    · exact ⟨Nat.zero_le _, Nat.zero_le _, Nat.zero_le _⟩
    · exact ⟨hq, by show C.R.toNat ≤ 1048576; omega, by show (C.S * (I.nQ : Int)).toNat ≤ 1048576; omega⟩
  · exact ⟨Nat.zero_le _, Nat.zero_le _, Nat.zero_le _⟩
theorem aft_lens (C : Co) (I : In) (v : Int) (L : Nat → Int) (hq : I.nQ ≤ 1048576) : ∀ k, (aftN C I v L k).n1 ≤ 1048576 ∧ (aftN C I v L k).n2 ≤ 1048576 ∧ (aftN C I v L k).n3 ≤ 1048576 := by
  intro k
  induction k with
  | zero => exact start_lens C I v hq
  | succ k ih =>
    have z := step_len C I v (aftN C I v L k) (L k)
    exact ⟨Nat.le_trans z.1 ih.1, Nat.le_trans z.2.1 ih.2.1, Nat.le_trans z.2.2 ih.2.2⟩
theorem fre_mono {B B' : Nat} {a1 a2 a3 : Option Addr} {S : St} (h : Fre B a1 a2 a3 S) (hB : B' ≤ B) : Fre B' a1 a2 a3 S :=
  ⟨h.1.imp id fun h x hx => Nat.le_trans hB (h x hx), h.2.1.imp id fun h x hx => Nat.le_trans hB (h x hx), h.2.2.imp id fun h x hx => Nat.le_trans hB (h x hx)⟩
/-- A state's cells as an answer. -/
def StRow (w : World) (S : St) (e : Ending) (w' : World) : Prop :=
  ∃ (y1 y2 y3 : Option Addr) (z1 z2 z3 : Nat), e = .returned (.agg #[.int .i64 S.p, .int .i64 S.r, .int .i64 S.d, .int .i64 S.t, .int .i64 S.s, .int .i64 S.l, .slice y1 S.n1 z1, .slice y2 S.n2 z2, .slice y3 S.n3 z3]) ∧ StAt w' y1 y2 y3 S ∧ Below w.heap.size w w' ∧ Fre w.heap.size y1 y2 y3 S ∧ S.n2 ≤ z2
set_option maxHeartbeats 8000000 in
set_option maxRecDepth 100000 in
theorem afterS (a1 a2 a3 b1 b2 b3 : Option Addr) (c1 c2 c3 d1 d2 d3 : Nat) (C : Co) (I : In) (v : Int) (a : Option Addr) (c : Nat) (L : Nat → Int) (k1 : C.n1 ≤ 1048576) (k2 : C.n2 ≤ 1048576) (k3 : C.n3 ≤ 1048576) (h1 : I.nV ≤ 1048576) (h2 : I.nQ ≤ 1048576) (h3 : I.nR ≤ 1048576) : ∀ (n m : Nat), m = n → m ≤ 4096 → m ≤ c → ∀ w : World, CoAt w a1 a2 a3 C → InAt w b1 b2 b3 I → NumsAt w a m L →
    Calls Tryz.prog 78 #[.agg #[.int .i64 C.R, .int .i64 C.S, .slice a1 C.n1 c1, .slice a2 C.n2 c2, .slice a3 C.n3 c3], .agg #[.slice b1 I.nV d1, .slice b2 I.nQ d2, .slice b3 I.nR d3], .int .i64 v, .slice a m c] w (StRow w (aftN C I v L n)) := by
  intro n
  induction n with
  | zero =>
    intro m hm _ _ w hC hI _
    have HC := Hid.mk hC
    have HI := Hid.mk hI
    have hm0 : ((m : Int) == 0) = true := by rw [hm]; rfl
    obtain ⟨W, hW⟩ : ∃ W : St, W = startB C I v := ⟨_, rfl⟩
    have HW := Hid.mk hW
    show Calls Tryz.prog 78 _ w (StRow w (startB C I v))
    rw [← hW]
    clear hC hI hW hm
    go_enter Tryz.func78, Tryz.ntmps78
    go_wp2_with fail
    have A2 : Hid ((((w.alloc (.cells #[.int .i64 C.R, .int .i64 C.S, .slice a1 C.n1 c1, .slice a2 C.n2 c2, .slice a3 C.n3 c3] 38)).alloc (.cells #[.slice b1 I.nV d1, .slice b2 I.nQ d2, .slice b3 I.nR d3] 44)).alloc (.cells #[.int .i64 0, .int .i64 0, .int .i64 0, .int .i64 0, .int .i64 0, .int .i64 0, .slice none 0 0, .slice none 0 0, .slice none 0 0] 34)).heap[w.heap.size + 1 + 1]? = some (.cells #[.int .i64 0, .int .i64 0, .int .i64 0, .int .i64 0, .int .i64 0, .int .i64 0, .slice none 0 0, .slice none 0 0, .slice none 0 0] 34)) := blk_new2 w _ _ _
    refine ((startS a1 a2 a3 b1 b2 b3 c1 c2 c3 d1 d2 d3 C I v _ (HC.out.below (by go_grown)) (HI.out.below (by go_grown)) k1 k2 k3 h1 h2 h3).mono (fun e w' h => (show StRow _ (startB C I v) e w' from h))).mono ?_
    rw [← HW.out]
    rename_i hKK
    rintro e w1 ⟨y1, y2, y3, z1, z2, z3, rfl, hst, hb, hfr, hcp⟩
    refine hKK _ _ ?_
    clear hKK
    have FR := Hid.mk (far_new hfr (blk_lt A2.out))
    have HFR := Hid.mk (fre_mono (B' := w.heap.size) hfr (by simp; omega))
    have SW := Hid.mk hst
    have A2 := Hid.mk (blk_below A2.out hb)
    have HB := Hid.mk (below_then (w := w) (by go_grown) hb)
    clear hb hst hfr
    refine wpList_store_row rfl _ _ _ rfl (w.heap.size + 1 + 1) #[.int .i64 W.p, .int .i64 W.r, .int .i64 W.d, .int .i64 W.t, .int .i64 W.s, .int .i64 W.l, .slice y1 W.n1 z1, .slice y2 W.n2 z2, .slice y3 W.n3 z3] rfl rfl _ _ A2.out infoSt rfl (by simp [Value.oneCell']) ?_
    go_wp2
    refine bodyPost_ret (results_cell_row Tryz.results78 _ _ (w.heap.size + 1 + 1) _ _ _ _ (by simp [Act.put]) (row_self A2.out _) Tryz.underlying34 rfl infoSt) rfl ?_
    exact ⟨y1, y2, y3, z1, z2, z3, rfl, st_row SW.out FR.out _, row_below HB.out (by omega) _, HFR.out, hcp⟩
  | succ k ih =>
    intro m hm hm4 hmc w hC hI hL
    obtain ⟨g, o, rfl, hc0⟩ := hL.at (i := k) (by omega)
    have HC := Hid.mk hC
    have HI := Hid.mk hI
    have hm0 : ((m : Int) == 0) = false := by simp; omega
    have hmw : IntKind.i64.wrap ((m : Int) - 1) = (k : Int) := by rw [IntKind.wrap_i64]; omega
    have u0 : (0 : Int) ≤ (k : Int) := by omega
    have u1 : (k : Int) < (m : Int) := by omega
    have u2 : (k : Int) ≤ (c : Int) := by omega
    have HLk : Hid (NumsAt w (some ⟨g, o, none⟩) k L) := by
      rcases hL with h0 | ⟨b, off, hb, h⟩
      · omega
      · cases hb
        exact Or.inr ⟨g, o, rfl, fun i hi => h i (by omega)⟩
    obtain ⟨S, hS⟩ : ∃ S : St, S = aftN C I v L k := ⟨_, rfl⟩
    have IH : Hid (∀ w : World, CoAt w a1 a2 a3 C → InAt w b1 b2 b3 I → NumsAt w (some ⟨g, o, none⟩) k L → Calls Tryz.prog 78 #[.agg #[.int .i64 C.R, .int .i64 C.S, .slice a1 C.n1 c1, .slice a2 C.n2 c2, .slice a3 C.n3 c3], .agg #[.slice b1 I.nV d1, .slice b2 I.nQ d2, .slice b3 I.nR d3], .int .i64 v, .slice (some ⟨g, o, none⟩) k c] w (StRow w S)) := fun w x1 x2 x3 => by rw [hS]; exact ih k rfl (by omega) (by omega) w x1 x2 x3
    have LN := Hid.mk (show S.n1 ≤ 1048576 ∧ S.n2 ≤ 1048576 ∧ S.n3 ≤ 1048576 by rw [hS]; exact aft_lens C I v L h2 k)
    obtain ⟨nd, hnd⟩ : ∃ nd, nd = L k := ⟨_, rfl⟩
    obtain ⟨W, hW⟩ : ∃ W : St, W = stepB C I v S nd := ⟨_, rfl⟩
    have HW := Hid.mk hW
    have e0 : aftN C I v L (k + 1) = W := by rw [hW, hS, hnd]; rfl
    rw [e0]
    rw [← hnd] at hc0
    have hgo := Hid.mk (lt_of_cell hc0)
    have KC := Hid.mk hc0
    clear hC hI hL ih hS hnd hW e0 hm hm4 hmc hc0
    go_enter Tryz.func78, Tryz.ntmps78
    go_upto_region 4 with fail
    obtain ⟨X, hX⟩ : ∃ X, X = ((w.alloc (.cells #[.int .i64 C.R, .int .i64 C.S, .slice a1 C.n1 c1, .slice a2 C.n2 c2, .slice a3 C.n3 c3] 38)).alloc (.cells #[.slice b1 I.nV d1, .slice b2 I.nQ d2, .slice b3 I.nR d3] 44)).alloc (.cells #[.int .i64 0, .int .i64 0, .int .i64 0, .int .i64 0, .int .i64 0, .int .i64 0, .slice none 0 0, .slice none 0 0, .slice none 0 0] 34) := ⟨_, rfl⟩
    rw [← hX]
    have HB : Hid (Below w.heap.size w X) := by unfold Hid; rw [hX]; go_grown
    have A0 : Hid (X.heap[w.heap.size]? = some (.cells #[.int .i64 C.R, .int .i64 C.S, .slice a1 C.n1 c1, .slice a2 C.n2 c2, .slice a3 C.n3 c3] 38)) := by unfold Hid; rw [hX]; exact blk_alloc (blk_alloc (blk_new w _) _) _
    have A1 : Hid (X.heap[w.heap.size + 1]? = some (.cells #[.slice b1 I.nV d1, .slice b2 I.nQ d2, .slice b3 I.nR d3] 44)) := by unfold Hid; rw [hX]; exact blk_alloc (blk_new1 w _ _) _
    have A2 : Hid (X.heap[w.heap.size + 1 + 1]? = some (.cells #[.int .i64 0, .int .i64 0, .int .i64 0, .int .i64 0, .int .i64 0, .int .i64 0, .slice none 0 0, .slice none 0 0, .slice none 0 0] 34)) := by unfold Hid; rw [hX]; exact blk_new2 w _ _ _
    clear hX
    have HSS := Hid.mk (show X.cell? ⟨w.heap.size, 0, none⟩ = some (.int .i64 C.R) ∧ X.cell? ⟨w.heap.size, 1, none⟩ = some (.int .i64 C.S) ∧ X.cell? ⟨w.heap.size, 2, none⟩ = some (.slice a1 C.n1 c1) ∧ X.cell? ⟨w.heap.size, 3, none⟩ = some (.slice a2 C.n2 c2) ∧ X.cell? ⟨w.heap.size, 4, none⟩ = some (.slice a3 C.n3 c3) ∧ X.cell? ⟨w.heap.size + 1, 0, none⟩ = some (.slice b1 I.nV d1) ∧ X.cell? ⟨w.heap.size + 1, 1, none⟩ = some (.slice b2 I.nQ d2) ∧ X.cell? ⟨w.heap.size + 1, 2, none⟩ = some (.slice b3 I.nR d3) ∧ X.cell? ⟨g, o + k, none⟩ = some (.int .i64 nd) from ⟨(blk_cell A0.out 0).trans rfl, (blk_cell A0.out 1).trans rfl, (blk_cell A0.out 2).trans rfl, (blk_cell A0.out 3).trans rfl, (blk_cell A0.out 4).trans rfl, (blk_cell A1.out 0).trans rfl, (blk_cell A1.out 1).trans rfl, (blk_cell A1.out 2).trans rfl, cell_keep HB.out KC.out⟩)
    go_cut [] (fun wx => ∃ (q1 q2 q3 : Option Addr) (r1 r2 r3 : Nat), Hid (wx.heap[w.heap.size + 1 + 1]? = some (.cells #[.int .i64 W.p, .int .i64 W.r, .int .i64 W.d, .int .i64 W.t, .int .i64 W.s, .int .i64 W.l, .slice q1 W.n1 r1, .slice q2 W.n2 r2, .slice q3 W.n3 r3] 34)) ∧ Hid (StAt wx q1 q2 q3 W) ∧ Hid (Below w.heap.size w wx) ∧ Hid (Fre w.heap.size q1 q2 q3 W) ∧ Hid (W.n2 ≤ r2))
    case first =>
      have HR := Hid.mk HB.out.drew
      have A2 := Hid.mk (blk_drew A2.out)
      refine wp_region_held_drew (S := (fun w' => w'.cell? ⟨w.heap.size, 0, none⟩ = some (.int .i64 C.R) ∧ w'.cell? ⟨w.heap.size, 1, none⟩ = some (.int .i64 C.S) ∧ w'.cell? ⟨w.heap.size, 2, none⟩ = some (.slice a1 C.n1 c1) ∧ w'.cell? ⟨w.heap.size, 3, none⟩ = some (.slice a2 C.n2 c2) ∧ w'.cell? ⟨w.heap.size, 4, none⟩ = some (.slice a3 C.n3 c3) ∧ w'.cell? ⟨w.heap.size + 1, 0, none⟩ = some (.slice b1 I.nV d1) ∧ w'.cell? ⟨w.heap.size + 1, 1, none⟩ = some (.slice b2 I.nQ d2) ∧ w'.cell? ⟨w.heap.size + 1, 2, none⟩ = some (.slice b3 I.nR d3) ∧ w'.cell? ⟨g, o + k, none⟩ = some (.int .i64 nd))) (by kernel_rfl) ?_ (fun hHeld => ?_)
      · exact HSS.out
      refine wpAnyH_take (i := 0) (v := ?_) rfl (by kernel_rfl) (by kernel_rfl) (by kernel_rfl) (fun _ _ _ h => h) (Or.inl ⟨by rfl, ?_⟩) (by assumption) ?_
      rotate_left
      · intro w hSw; (try dsimp only at hSw); go_simp; (try with_reducible rfl)
      rotate_left
      simp only [Act.put, List.setIfInBounds_toArray, List.set_cons_zero, List.set_cons_succ, List.getElem_toArray, List.getElem_cons_zero, List.getElem_cons_succ]
      refine wpAnyH_take (i := 1) (v := ?_) rfl (by kernel_rfl) (by kernel_rfl) (by kernel_rfl) (fun _ _ _ h => h) (Or.inl ⟨by rfl, ?_⟩) (by assumption) ?_
      rotate_left
      · intro w hSw; (try dsimp only at hSw); go_simp; (try with_reducible rfl)
      rotate_left
      simp only [Act.put, List.setIfInBounds_toArray, List.set_cons_zero, List.set_cons_succ, List.getElem_toArray, List.getElem_cons_zero, List.getElem_cons_succ]
      refine wpAnyH_take (i := 2) (v := ?_) rfl (by kernel_rfl) (by kernel_rfl) (by kernel_rfl) (fun _ _ _ h => h) (Or.inl ⟨by rfl, ?_⟩) (by assumption) ?_
      rotate_left
      · intro w hSw; (try dsimp only at hSw); go_simp; (try with_reducible rfl)
      rotate_left
      simp only [Act.put, List.setIfInBounds_toArray, List.set_cons_zero, List.set_cons_succ, List.getElem_toArray, List.getElem_cons_zero, List.getElem_cons_succ]
      refine wpAnyH_take (i := 3) (v := ?_) rfl (by kernel_rfl) (by kernel_rfl) (by kernel_rfl) (fun _ _ _ h => h) (Or.inl ⟨by rfl, ?_⟩) (by assumption) ?_
      rotate_left
      · intro w hSw; (try dsimp only at hSw); go_simp; (try with_reducible rfl)
      rotate_left
      simp only [Act.put, List.setIfInBounds_toArray, List.set_cons_zero, List.set_cons_succ, List.getElem_toArray, List.getElem_cons_zero, List.getElem_cons_succ]
      refine wpAnyH_take (i := 4) (v := ?_) rfl (by kernel_rfl) (by kernel_rfl) (by kernel_rfl) (fun _ _ _ h => h) (Or.inl ⟨by rfl, ?_⟩) (by assumption) ?_
      rotate_left
      · intro w hSw; (try dsimp only at hSw); go_simp; (try with_reducible rfl)
      rotate_left
      simp only [Act.put, List.setIfInBounds_toArray, List.set_cons_zero, List.set_cons_succ, List.getElem_toArray, List.getElem_cons_zero, List.getElem_cons_succ]
      refine wpAnyH_take (i := 5) (v := ?_) rfl (by kernel_rfl) (by kernel_rfl) (by kernel_rfl) (fun _ _ _ h => h) (Or.inl ⟨by rfl, ?_⟩) (by assumption) ?_
      rotate_left
      · intro w hSw; (try dsimp only at hSw); go_simp; (try with_reducible rfl)
      rotate_left
      simp only [Act.put, List.setIfInBounds_toArray, List.set_cons_zero, List.set_cons_succ, List.getElem_toArray, List.getElem_cons_zero, List.getElem_cons_succ]
      refine wpAnyH_take (i := 6) (v := ?_) rfl (by kernel_rfl) (by kernel_rfl) (by kernel_rfl) (fun _ _ _ h => h) (Or.inl ⟨by rfl, ?_⟩) (by assumption) ?_
      rotate_left
      · intro w hSw; (try dsimp only at hSw); go_simp; (try with_reducible rfl)
      rotate_left
      simp only [Act.put, List.setIfInBounds_toArray, List.set_cons_zero, List.set_cons_succ, List.getElem_toArray, List.getElem_cons_zero, List.getElem_cons_succ]
      refine wpAnyH_take (i := 7) (v := ?_) rfl (by kernel_rfl) (by kernel_rfl) (by kernel_rfl) (fun _ _ _ h => h) (Or.inl ⟨by rfl, ?_⟩) (by assumption) ?_
      rotate_left
      · intro w hSw; (try dsimp only at hSw); go_simp; (try with_reducible rfl)
      rotate_left
      simp only [Act.put, List.setIfInBounds_toArray, List.set_cons_zero, List.set_cons_succ, List.getElem_toArray, List.getElem_cons_zero, List.getElem_cons_succ]
      refine wpAnyH_take (i := 8) (v := ?_) rfl (by kernel_rfl) (by kernel_rfl) (by kernel_rfl) (fun _ _ _ h => h) (Or.inl ⟨by rfl, ?_⟩) (by assumption) ?_
      rotate_left
      · intro w hSw; (try dsimp only at hSw); go_simp; (try with_reducible rfl)
      rotate_left
      simp only [Act.put, List.setIfInBounds_toArray, List.set_cons_zero, List.set_cons_succ, List.getElem_toArray, List.getElem_cons_zero, List.getElem_cons_succ]
      refine wpAnyH_take (i := 10) (v := ?_) rfl (by kernel_rfl) (by kernel_rfl) (by kernel_rfl) (fun _ _ _ h => h) (Or.inl ⟨by rfl, ?_⟩) (by assumption) ?_
      rotate_left
      · intro w hSw; (try dsimp only at hSw); go_simp; (try with_reducible rfl)
      rotate_left
      simp only [Act.put, List.setIfInBounds_toArray, List.set_cons_zero, List.set_cons_succ, List.getElem_toArray, List.getElem_cons_zero, List.getElem_cons_succ]
      refine wpAnyH_take (i := 11) (v := ?_) rfl (by kernel_rfl) (by kernel_rfl) (by kernel_rfl) (fun _ _ _ h => h) (Or.inl ⟨by rfl, ?_⟩) (by assumption) ?_
      rotate_left
      · intro w hSw; (try dsimp only at hSw); go_simp; (try with_reducible rfl)
      rotate_left
      simp only [Act.put, List.setIfInBounds_toArray, List.set_cons_zero, List.set_cons_succ, List.getElem_toArray, List.getElem_cons_zero, List.getElem_cons_succ]
      refine wpAnyH_take (i := 12) (v := ?_) rfl (by kernel_rfl) (by kernel_rfl) (by kernel_rfl) (fun _ _ _ h => h) (Or.inl ⟨by rfl, ?_⟩) (by assumption) ?_
      rotate_left
      · intro w hSw; (try dsimp only at hSw); go_simp; (try with_reducible rfl)
      rotate_left
      simp only [Act.put, List.setIfInBounds_toArray, List.set_cons_zero, List.set_cons_succ, List.getElem_toArray, List.getElem_cons_zero, List.getElem_cons_succ]
      refine wpAnyH_take (i := 13) (v := ?_) rfl (by kernel_rfl) (by kernel_rfl) (by kernel_rfl) (fun _ _ _ h => h) (Or.inl ⟨by rfl, ?_⟩) (by assumption) ?_
      rotate_left
      · intro w hSw; (try dsimp only at hSw); go_simp; (try with_reducible rfl)
      rotate_left
      simp only [Act.put, List.setIfInBounds_toArray, List.set_cons_zero, List.set_cons_succ, List.getElem_toArray, List.getElem_cons_zero, List.getElem_cons_succ]
      refine wpAnyH_ready (rs := [9]) (by kernel_rfl) (by simp) ?_
      refine AllReadyH.cons rfl (fun K hK => ?_) ?_
      · go_simp
        refine (IH.out _ (HC.out.below HR.out) (HI.out.below HR.out) (HLk.out.below HR.out)).mono ?_
        rintro e w1 ⟨y1, y2, y3, z1, z2, z3, rfl, hst, hb, hfr, hcp⟩
        have HR := Hid.mk (below_then HR.out hb)
        have A2 := Hid.mk (blk_below A2.out hb)
        have SS := Hid.mk hst
        have HCP := Hid.mk hcp
        clear hst hfr hcp
        refine hK.out _ _ ?_ (fun hHeld => ?_)
        · exact ⟨cell_keep hb hHeld.1, cell_keep hb hHeld.2.1, cell_keep hb hHeld.2.2.1, cell_keep hb hHeld.2.2.2.1, cell_keep hb hHeld.2.2.2.2.1, cell_keep hb hHeld.2.2.2.2.2.1, cell_keep hb hHeld.2.2.2.2.2.2.1, cell_keep hb hHeld.2.2.2.2.2.2.2.1, cell_keep hb hHeld.2.2.2.2.2.2.2.2⟩
        clear hK K
        (try simp only [Act.put, List.setIfInBounds_toArray, List.set_cons_zero, List.set_cons_succ, List.getElem_toArray, List.getElem_cons_zero, List.getElem_cons_succ])
        refine wpAnyH_ready (rs := [14]) (by kernel_rfl) (by simp) ?_
        refine AllReadyH.cons rfl (fun K hK => ?_) ?_
        · go_simp
          refine ((stepS a1 a2 a3 b1 b2 b3 y1 y2 y3 c1 c2 c3 d1 d2 d3 z1 z2 z3 C I v S nd _ (HC.out.below HR.out) (HI.out.below HR.out) SS.out k1 k2 k3 h1 h2 h3 LN.out.1 LN.out.2.1 LN.out.2.2 HCP.out).mono (fun e w' h => (show StRow _ (stepB C I v S nd) e w' from h))).mono ?_
          rw [← HW.out]
          rintro e w2 ⟨q1, q2, q3, r1, r2, r3, rfl, hst, hb, hfr, hcp⟩
          have FR := Hid.mk (far_new hfr (blk_lt A2.out))
          have HFR := Hid.mk (fre_mono (B' := w.heap.size) hfr HR.out.size)
          have HR := Hid.mk (below_then HR.out hb)
          have A2 := Hid.mk (blk_below A2.out hb)
          have SW := Hid.mk hst
          have HCQ := Hid.mk hcp
          clear hst hfr hcp SS HCP
          refine hK.out _ _ ?_ (fun hHeld => ?_)
          · exact ⟨cell_keep hb hHeld.1, cell_keep hb hHeld.2.1, cell_keep hb hHeld.2.2.1, cell_keep hb hHeld.2.2.2.1, cell_keep hb hHeld.2.2.2.2.1, cell_keep hb hHeld.2.2.2.2.2.1, cell_keep hb hHeld.2.2.2.2.2.2.1, cell_keep hb hHeld.2.2.2.2.2.2.2.1, cell_keep hb hHeld.2.2.2.2.2.2.2.2⟩
          clear hK K
          (try simp only [Act.put, List.setIfInBounds_toArray, List.set_cons_zero, List.set_cons_succ, List.getElem_toArray, List.getElem_cons_zero, List.getElem_cons_succ])
          refine wpAnyH_ready (rs := [15]) (by kernel_rfl) (by simp) ?_
          refine AllReadyH.cons rfl (fun K hK => ?_) ?_
          · rw [if_pos (by rfl)]
            refine wp_store_row _ _ _ rfl _ #[.int .i64 W.p, .int .i64 W.r, .int .i64 W.d, .int .i64 W.t, .int .i64 W.s, .int .i64 W.l, .slice q1 W.n1 r1, .slice q2 W.n2 r2, .slice q3 W.n3 r3] rfl rfl _ _ A2.out infoSt rfl (by simp [Value.oneCell']) ?_
            refine hK.out _ _ ?_ (fun hHeld => ?_)
            · exact ⟨cell_srow hHeld.1 (by have z1 := hgo.out; omega), cell_srow hHeld.2.1 (by have z1 := hgo.out; omega), cell_srow hHeld.2.2.1 (by have z1 := hgo.out; omega), cell_srow hHeld.2.2.2.1 (by have z1 := hgo.out; omega), cell_srow hHeld.2.2.2.2.1 (by have z1 := hgo.out; omega), cell_srow hHeld.2.2.2.2.2.1 (by have z1 := hgo.out; omega), cell_srow hHeld.2.2.2.2.2.2.1 (by have z1 := hgo.out; omega), cell_srow hHeld.2.2.2.2.2.2.2.1 (by have z1 := hgo.out; omega), cell_srow hHeld.2.2.2.2.2.2.2.2 (by have z1 := hgo.out; omega)⟩
            clear hK K
            (try simp only [Act.put, List.setIfInBounds_toArray, List.set_cons_zero, List.set_cons_succ, List.getElem_toArray, List.getElem_cons_zero, List.getElem_cons_succ])
            refine wpAnyH_done (by kernel_rfl) ?_ _
            (try clear hHeld)
            go_wp2_with fail
            go_meet
            exact ⟨q1, q2, q3, r1, r2, r3, Hid.mk (row_self A2.out _), Hid.mk (st_row SW.out FR.out _), Hid.mk (row_below HR.out (by omega) _), HFR, HCQ⟩
          exact AllReadyH.nil
        exact AllReadyH.nil
      exact AllReadyH.nil
    case rest =>
      obtain ⟨q1, q2, q3, r1, r2, r3, Y3, SW, BY, FF, CP⟩ := hcut
      go_wp2
      refine bodyPost_ret (results_cell_row Tryz.results78 _ _ (w.heap.size + 1 + 1) _ _ _ _ (by simp [Act.put]) Y3.out Tryz.underlying34 rfl infoSt) rfl ?_
      exact ⟨q1, q2, q3, r1, r2, r3, rfl, SW.out, BY.out, FF.out, CP.out⟩
set_option maxHeartbeats 8000000 in
set_option maxRecDepth 100000 in
theorem routeTopS (a1 a2 a3 b1 b2 b3 : Option Addr) (c1 c2 c3 d1 d2 d3 : Nat) (C : Co) (I : In) (v : Int) (a : Option Addr) (n c : Nat) (L : Nat → Int) (w : World) (hC : CoAt w a1 a2 a3 C) (hI : InAt w b1 b2 b3 I) (hL : NumsAt w a n L) (k1 : C.n1 ≤ 1048576) (k2 : C.n2 ≤ 1048576) (k3 : C.n3 ≤ 1048576) (h1 : I.nV ≤ 1048576) (h2 : I.nQ ≤ 1048576) (h3 : I.nR ≤ 1048576) (hn : n ≤ 1048576) (hnc : n ≤ c) :
    Calls Tryz.prog 27 #[.agg #[.int .i64 C.R, .int .i64 C.S, .slice a1 C.n1 c1, .slice a2 C.n2 c2, .slice a3 C.n3 c3], .agg #[.slice b1 I.nV d1, .slice b2 I.nQ d2, .slice b3 I.nR d3], .int .i64 v, .slice a n c] w fun e w' => e = .returned (.agg #[.int .i64 (routeV C I v n L).1, .int .i64 (routeV C I v n L).2.1, .int .i64 (routeV C I v n L).2.2]) ∧ Below w.heap.size w w' := by
  have HC := Hid.mk hC
  have HI := Hid.mk hI
  have HL := Hid.mk hL
  clear hC hI hL
  go_enter Tryz.func27, Tryz.ntmps27
  go_wp2_with fail
  refine (ValCS.validS a1 a2 a3 c1 c2 c3 C _ (HC.out.below (by go_grown)) k1 k2 k3).mono ?_
  rintro e w1 ⟨rfl, hb⟩
  have HB := Hid.mk (below_then (w := w) (by go_grown) hb)
  have A0 := Hid.mk (blk_below (blk_alloc (blk_alloc (blk_new w _) _) _) hb)
  have A1 := Hid.mk (blk_below (blk_alloc (blk_new1 w _ _) _) hb)
  have A2 := Hid.mk (blk_below (blk_new2 w _ _ _) hb)
  clear hb
  cases hok : ValC.okCo C with
  | false =>
    have HF : Hid (routeV C I v n L = (0, 0, 0)) := by unfold Hid routeV; rw [if_neg (by rw [hok]; simp)]
    have v0 := blk_cell A2.out 0
    have v1 := blk_cell A2.out 1
    have v2 := blk_cell A2.out 2
    have u0 := blk_unfrozen A2.out 0
    have u1 := blk_unfrozen A2.out 1
    have u2 := blk_unfrozen A2.out 2
    simp only [List.getElem?_toArray, List.getElem?_cons_zero, List.getElem?_cons_succ] at v0 v1 v2
    go_wp2
    refine bodyPost_ret (results_cell_row Tryz.results27 _ _ (w.heap.size + 1 + 1) _ _ _ _ (by simp [Act.put]) (vset A2.out _ _ _) Tryz.underlying59 rfl infoVd) rfl ?_
    exact ⟨by rw [HF.out], vbel HB.out (by omega) _ _ _⟩
  | true =>
    have x0 := blk_cell A1.out 0
    have x1 := blk_cell A1.out 1
    have x2 := blk_cell A1.out 2
    simp only [List.getElem?_toArray, List.getElem?_cons_zero, List.getElem?_cons_succ] at x0 x1 x2
    go_wp2_with fail
    refine (Route.routeS b1 b2 b3 a d1 d2 d3 n c I v L _ (HI.out.below HB.out) (HL.out.below HB.out) h1 h2 h3 hn).mono ?_
    rintro e w2 ⟨rfl, hb⟩
    have HB := Hid.mk (below_then HB.out hb)
    have A0 := Hid.mk (blk_below A0.out hb)
    have A1 := Hid.mk (blk_below A1.out hb)
    have A2 := Hid.mk (blk_below A2.out hb)
    clear hb x0 x1 x2
    cases hro : Route.routeB I v n L with
    | false =>
      have HF : Hid (routeV C I v n L = (0, 0, 0)) := by unfold Hid routeV; rw [if_neg (by rw [hro]; simp)]
      have v0 := blk_cell A2.out 0
      have v1 := blk_cell A2.out 1
      have v2 := blk_cell A2.out 2
      have u0 := blk_unfrozen A2.out 0
      have u1 := blk_unfrozen A2.out 1
      have u2 := blk_unfrozen A2.out 2
      simp only [List.getElem?_toArray, List.getElem?_cons_zero, List.getElem?_cons_succ] at v0 v1 v2
      go_wp2
      refine bodyPost_ret (results_cell_row Tryz.results27 _ _ (w.heap.size + 1 + 1) _ _ _ _ (by simp [Act.put]) (vset A2.out _ _ _) Tryz.underlying59 rfl infoVd) rfl ?_
      exact ⟨by rw [HF.out], vbel HB.out (by omega) _ _ _⟩
    | true =>
      obtain ⟨S, hS⟩ : ∃ S : St, S = aftN C I v L n := ⟨_, rfl⟩
      obtain ⟨fin, hfin⟩ : ∃ fin, finB C I v S = fin := ⟨_, rfl⟩
      have HF : Hid (routeV C I v n L = fin) := by unfold Hid routeV; rw [if_pos ⟨hok, hro⟩, ← hfin, hS]
      obtain ⟨hn4, -, -⟩ := route_parts hro
      have LN := Hid.mk (show S.n1 ≤ 1048576 ∧ S.n2 ≤ 1048576 ∧ S.n3 ≤ 1048576 by rw [hS]; exact aft_lens C I v L h2 n)
      have HS := Hid.mk hS
      have HFN := Hid.mk hfin
      clear hok hro hS hfin
      go_upto_region 3 with fail
      have HSS := Hid.mk (show w2.cell? ⟨w.heap.size, 0, none⟩ = some (.int .i64 C.R) ∧ w2.cell? ⟨w.heap.size, 1, none⟩ = some (.int .i64 C.S) ∧ w2.cell? ⟨w.heap.size, 2, none⟩ = some (.slice a1 C.n1 c1) ∧ w2.cell? ⟨w.heap.size, 3, none⟩ = some (.slice a2 C.n2 c2) ∧ w2.cell? ⟨w.heap.size, 4, none⟩ = some (.slice a3 C.n3 c3) ∧ w2.cell? ⟨w.heap.size + 1, 0, none⟩ = some (.slice b1 I.nV d1) ∧ w2.cell? ⟨w.heap.size + 1, 1, none⟩ = some (.slice b2 I.nQ d2) ∧ w2.cell? ⟨w.heap.size + 1, 2, none⟩ = some (.slice b3 I.nR d3) from ⟨(blk_cell A0.out 0).trans rfl, (blk_cell A0.out 1).trans rfl, (blk_cell A0.out 2).trans rfl, (blk_cell A0.out 3).trans rfl, (blk_cell A0.out 4).trans rfl, (blk_cell A1.out 0).trans rfl, (blk_cell A1.out 1).trans rfl, (blk_cell A1.out 2).trans rfl⟩)
      go_cut [] (fun wx => Hid (wx.heap[w.heap.size + 1 + 1]? = some (.cells #[.int .i64 fin.1, .int .i64 fin.2.1, .int .i64 fin.2.2] 59)) ∧ Hid (Below w.heap.size w wx))
      case first =>
        have HB := Hid.mk HB.out.drew
        have A2 := Hid.mk (blk_drew A2.out)
        refine wp_region_held_drew (S := (fun w' => w'.cell? ⟨w.heap.size, 0, none⟩ = some (.int .i64 C.R) ∧ w'.cell? ⟨w.heap.size, 1, none⟩ = some (.int .i64 C.S) ∧ w'.cell? ⟨w.heap.size, 2, none⟩ = some (.slice a1 C.n1 c1) ∧ w'.cell? ⟨w.heap.size, 3, none⟩ = some (.slice a2 C.n2 c2) ∧ w'.cell? ⟨w.heap.size, 4, none⟩ = some (.slice a3 C.n3 c3) ∧ w'.cell? ⟨w.heap.size + 1, 0, none⟩ = some (.slice b1 I.nV d1) ∧ w'.cell? ⟨w.heap.size + 1, 1, none⟩ = some (.slice b2 I.nQ d2) ∧ w'.cell? ⟨w.heap.size + 1, 2, none⟩ = some (.slice b3 I.nR d3))) (by kernel_rfl) ?_ (fun hHeld => ?_)
        · exact HSS.out
        refine wpAnyH_take (i := 0) (v := ?_) rfl (by kernel_rfl) (by kernel_rfl) (by kernel_rfl) (fun _ _ _ h => h) (Or.inl ⟨by rfl, ?_⟩) (by assumption) ?_
        rotate_left
        · intro w hSw; (try dsimp only at hSw); go_simp; (try with_reducible rfl)
        rotate_left
        simp only [Act.put, List.setIfInBounds_toArray, List.set_cons_zero, List.set_cons_succ, List.getElem_toArray, List.getElem_cons_zero, List.getElem_cons_succ]
        refine wpAnyH_take (i := 1) (v := ?_) rfl (by kernel_rfl) (by kernel_rfl) (by kernel_rfl) (fun _ _ _ h => h) (Or.inl ⟨by rfl, ?_⟩) (by assumption) ?_
        rotate_left
        · intro w hSw; (try dsimp only at hSw); go_simp; (try with_reducible rfl)
        rotate_left
        simp only [Act.put, List.setIfInBounds_toArray, List.set_cons_zero, List.set_cons_succ, List.getElem_toArray, List.getElem_cons_zero, List.getElem_cons_succ]
        refine wpAnyH_take (i := 2) (v := ?_) rfl (by kernel_rfl) (by kernel_rfl) (by kernel_rfl) (fun _ _ _ h => h) (Or.inl ⟨by rfl, ?_⟩) (by assumption) ?_
        rotate_left
        · intro w hSw; (try dsimp only at hSw); go_simp; (try with_reducible rfl)
        rotate_left
        simp only [Act.put, List.setIfInBounds_toArray, List.set_cons_zero, List.set_cons_succ, List.getElem_toArray, List.getElem_cons_zero, List.getElem_cons_succ]
        refine wpAnyH_take (i := 3) (v := ?_) rfl (by kernel_rfl) (by kernel_rfl) (by kernel_rfl) (fun _ _ _ h => h) (Or.inl ⟨by rfl, ?_⟩) (by assumption) ?_
        rotate_left
        · intro w hSw; (try dsimp only at hSw); go_simp; (try with_reducible rfl)
        rotate_left
        simp only [Act.put, List.setIfInBounds_toArray, List.set_cons_zero, List.set_cons_succ, List.getElem_toArray, List.getElem_cons_zero, List.getElem_cons_succ]
        refine wpAnyH_take (i := 4) (v := ?_) rfl (by kernel_rfl) (by kernel_rfl) (by kernel_rfl) (fun _ _ _ h => h) (Or.inl ⟨by rfl, ?_⟩) (by assumption) ?_
        rotate_left
        · intro w hSw; (try dsimp only at hSw); go_simp; (try with_reducible rfl)
        rotate_left
        simp only [Act.put, List.setIfInBounds_toArray, List.set_cons_zero, List.set_cons_succ, List.getElem_toArray, List.getElem_cons_zero, List.getElem_cons_succ]
        refine wpAnyH_take (i := 5) (v := ?_) rfl (by kernel_rfl) (by kernel_rfl) (by kernel_rfl) (fun _ _ _ h => h) (Or.inl ⟨by rfl, ?_⟩) (by assumption) ?_
        rotate_left
        · intro w hSw; (try dsimp only at hSw); go_simp; (try with_reducible rfl)
        rotate_left
        simp only [Act.put, List.setIfInBounds_toArray, List.set_cons_zero, List.set_cons_succ, List.getElem_toArray, List.getElem_cons_zero, List.getElem_cons_succ]
        refine wpAnyH_take (i := 6) (v := ?_) rfl (by kernel_rfl) (by kernel_rfl) (by kernel_rfl) (fun _ _ _ h => h) (Or.inl ⟨by rfl, ?_⟩) (by assumption) ?_
        rotate_left
        · intro w hSw; (try dsimp only at hSw); go_simp; (try with_reducible rfl)
        rotate_left
        simp only [Act.put, List.setIfInBounds_toArray, List.set_cons_zero, List.set_cons_succ, List.getElem_toArray, List.getElem_cons_zero, List.getElem_cons_succ]
        refine wpAnyH_ready (rs := [7]) (by kernel_rfl) (by simp) ?_
        refine AllReadyH.cons rfl (fun K hK => ?_) ?_
        · go_simp
          refine (afterS a1 a2 a3 b1 b2 b3 c1 c2 c3 d1 d2 d3 C I v a c L k1 k2 k3 h1 h2 h3 n n rfl hn4 hnc _ (HC.out.below HB.out) (HI.out.below HB.out) (HL.out.below HB.out)).mono ?_
          rw [← HS.out]
          rintro e w3 ⟨y1, y2, y3, z1, z2, z3, rfl, hst, hb, hfr, hcp⟩
          have HB := Hid.mk (below_then HB.out hb)
          have A2 := Hid.mk (blk_below A2.out hb)
          have SS := Hid.mk hst
          have HCP := Hid.mk hcp
          clear hst hfr hcp
          refine hK.out _ _ ?_ (fun hHeld => ?_)
          · exact ⟨cell_keep hb hHeld.1, cell_keep hb hHeld.2.1, cell_keep hb hHeld.2.2.1, cell_keep hb hHeld.2.2.2.1, cell_keep hb hHeld.2.2.2.2.1, cell_keep hb hHeld.2.2.2.2.2.1, cell_keep hb hHeld.2.2.2.2.2.2.1, cell_keep hb hHeld.2.2.2.2.2.2.2⟩
          clear hK K
          (try simp only [Act.put, List.setIfInBounds_toArray, List.set_cons_zero, List.set_cons_succ, List.getElem_toArray, List.getElem_cons_zero, List.getElem_cons_succ])
          refine wpAnyH_ready (rs := [8]) (by kernel_rfl) (by simp) ?_
          refine AllReadyH.cons rfl (fun K hK => ?_) ?_
          · go_simp
            refine (finS a1 a2 a3 b1 b2 b3 y1 y2 y3 c1 c2 c3 d1 d2 d3 z1 z2 z3 C I v S _ (HC.out.below HB.out) (HI.out.below HB.out) SS.out k1 k2 k3 h1 h2 h3 LN.out.1 LN.out.2.1 LN.out.2.2 HCP.out).mono ?_
            rw [HFN.out]
            rintro e w4 ⟨rfl, hb⟩
            have HB := Hid.mk (below_then HB.out hb)
            have A2 := Hid.mk (blk_below A2.out hb)
            clear SS HCP
            refine hK.out _ _ ?_ (fun hHeld => ?_)
            · exact ⟨cell_keep hb hHeld.1, cell_keep hb hHeld.2.1, cell_keep hb hHeld.2.2.1, cell_keep hb hHeld.2.2.2.1, cell_keep hb hHeld.2.2.2.2.1, cell_keep hb hHeld.2.2.2.2.2.1, cell_keep hb hHeld.2.2.2.2.2.2.1, cell_keep hb hHeld.2.2.2.2.2.2.2⟩
            clear hK K
            (try simp only [Act.put, List.setIfInBounds_toArray, List.set_cons_zero, List.set_cons_succ, List.getElem_toArray, List.getElem_cons_zero, List.getElem_cons_succ])
            refine wpAnyH_ready (rs := [9]) (by kernel_rfl) (by simp) ?_
            refine AllReadyH.cons rfl (fun K hK => ?_) ?_
            · rw [if_pos (by rfl)]
              refine wp_store_row _ _ _ rfl _ #[.int .i64 fin.1, .int .i64 fin.2.1, .int .i64 fin.2.2] rfl rfl _ _ A2.out infoVd rfl (by simp [Value.oneCell']) ?_
              refine hK.out _ _ ?_ (fun hHeld => ?_)
              · exact ⟨cell_srow hHeld.1 (by omega), cell_srow hHeld.2.1 (by omega), cell_srow hHeld.2.2.1 (by omega), cell_srow hHeld.2.2.2.1 (by omega), cell_srow hHeld.2.2.2.2.1 (by omega), cell_srow hHeld.2.2.2.2.2.1 (by omega), cell_srow hHeld.2.2.2.2.2.2.1 (by omega), cell_srow hHeld.2.2.2.2.2.2.2 (by omega)⟩
              clear hK K
              (try simp only [Act.put, List.setIfInBounds_toArray, List.set_cons_zero, List.set_cons_succ, List.getElem_toArray, List.getElem_cons_zero, List.getElem_cons_succ])
              refine wpAnyH_done (by kernel_rfl) ?_ _
              (try clear hHeld)
              go_wp2_with fail
              go_meet
              exact ⟨Hid.mk (row_self A2.out _), Hid.mk (row_below HB.out (by omega) _)⟩
            exact AllReadyH.nil
          exact AllReadyH.nil
        exact AllReadyH.nil
      case rest =>
        obtain ⟨Y3, BY⟩ := hcut
        go_wp2
        refine bodyPost_ret (results_cell_row Tryz.results27 _ _ (w.heap.size + 1 + 1) _ _ _ _ (by simp [Act.put]) Y3.out Tryz.underlying59 rfl infoVd) rfl ?_
        exact ⟨by rw [HF.out], BY.out⟩
end Go.Proofs.YtgooegcmgejfpaaGreatDoor.Mac
