import Derived.Test.YtdhnjkcebaahcaaDoorDecO
import Derived.Test.YtdhnjkcebaahcaaDoorValCT
namespace Go.Proofs.YtdhnjkcebaahcaaDoor.Dec
open Go Go.RowKit Go.Proofs.YtdhnjkcebaahcaaDoor.Mem Go.Proofs.YtdhnjkcebaahcaaDoor.ValC Go.Proofs.YtdhnjkcebaahcaaDoor.Enc
set_option linter.unusedVariables false
set_option linter.unusedSimpArgs false
attribute [local go_sem ↓] Go.wp_at_zero Go.wp_at_succ

theorem inCS (x : Int) (w : World) : Calls Tryd.prog 47 #[.int .i64 x, .int .i64 0, .int .i64 16384] w fun e w' => e = .returned (.bool (inB x 0 16384)) ∧ w' = w := by
  by_cases h0 : 0 ≤ x
  · by_cases h1 : x ≤ 16384
    · have : inB x 0 16384 = true := by simp [inB]; omega
      rw [this]
      go_enter Tryd.func47, Tryd.ntmps47
      go_wp2
      go_ret
      exact ⟨rfl, rfl⟩
    · have : inB x 0 16384 = false := by simp [inB]; omega
      rw [this]
      have h1' : decide (x ≤ 16384) = false := by simp; omega
      go_enter Tryd.func47, Tryd.ntmps47
      go_wp2
      go_ret
      exact ⟨rfl, rfl⟩
  · have : inB x 0 16384 = false := by simp [inB]; omega
    rw [this]
    have h0' : decide (0 ≤ x) = false := by simp; omega
    go_enter Tryd.func47, Tryd.ntmps47
    go_wp2
    go_ret
    exact ⟨rfl, rfl⟩

theorem unflat : ∀ (m : Nat) (t : List Int), t.length = 4 * m → ∃ L : List Is, L.length = m ∧ flatI L = t
  | 0, t, h => ⟨[], rfl, by rw [List.eq_nil_of_length_eq_zero (by omega : t.length = 0)]; rfl⟩
  | m + 1, a :: b :: c :: d :: r, h => by
    obtain ⟨L, h1, h2⟩ := unflat m r (by simp at h; omega)
    exact ⟨⟨a, b, c, d⟩ :: L, by simp [h1], by rw [← h2]; rfl⟩
  | m + 1, [], h => by simp at h
  | m + 1, [_], h => by simp at h; omega
  | m + 1, [_, _], h => by simp at h; omega
  | m + 1, [_, _, _], h => by simp at h; omega
theorem ints_flat (L : List Is) : ints (flatI L) = L.flatMap Is.cells := by
  induction L with
  | nil => rfl
  | cons x r ih =>
    rw [flatI, List.flatMap_cons, List.flatMap_cons, ints_app, ← ih]
    rfl
theorem seg_slice {w : World} {g : Nat} {l pre post : List Int} {L : List Is} (hc : ∀ j u, (ints l)[j]? = some u → w.cell? ⟨g, j, none⟩ = some u) (hl : l = pre ++ (flatI L ++ post)) {o : Nat} (ho : o = pre.length) : SliceAt w (some ⟨g, o, none⟩) L.length 4 (fun i => (L.getD i ⟨0, 0, 0, 0⟩).cells) := by
  refine Or.inr ⟨g, o, rfl, fun i hi j u hu => ?_⟩
  have hj : j < 4 := by
    obtain ⟨hl, -⟩ := List.getElem?_eq_some_iff.1 hu
    rw [Is.len] at hl; exact hl
  rw [Nat.add_assoc]
  refine hc _ _ ?_
  rw [hl, ints_app, ints_app, ints_flat]
  have hp : (ints pre).length = o := by rw [ho]; simp [ints]
  rw [List.getElem?_append_right (by omega), hp, show o + (i * 4 + j) - o = i * 4 + j by omega]
  have hf := flat_get L i j hi hj
  rw [List.getElem?_append_left]
  · rw [hf]; exact hu
  · rw [hu] at hf
    exact (List.getElem?_eq_some_iff.1 hf).1
theorem shape_yes {bs : List UInt8} {R S : Int} {X Y Z : Nat} {t : List Int} (h : nums bs = some (R :: S :: (X : Int) :: (Y : Int) :: (Z : Int) :: t)) (hX : X ≤ 16384) (hY : Y ≤ 16384) (hZ : Z ≤ 16384) (ht : t.length = 4 * (X + Y + Z)) :
    ∃ L1 L2 L3 : List Is, L1.length = X ∧ L2.length = Y ∧ L3.length = Z ∧ t = flatI L1 ++ (flatI L2 ++ flatI L3) ∧ Shape bs ⟨R, S, L1, L2, L3⟩ := by
  obtain ⟨L1, a1, b1⟩ := unflat X (t.take (4 * X)) (by rw [List.length_take]; omega)
  obtain ⟨L2, a2, b2⟩ := unflat Y ((t.drop (4 * X)).take (4 * Y)) (by rw [List.length_take, List.length_drop]; omega)
  obtain ⟨L3, a3, b3⟩ := unflat Z ((t.drop (4 * X)).drop (4 * Y)) (by rw [List.length_drop, List.length_drop]; omega)
  have e : t = flatI L1 ++ (flatI L2 ++ flatI L3) := by rw [b1, b2, b3, List.take_append_drop, List.take_append_drop]
  refine ⟨L1, L2, L3, a1, a2, a3, e, ?_, by show L1.length ≤ _; omega, by show L2.length ≤ _; omega, by show L3.length ≤ _; omega⟩
  rw [h, e, Dc.all]
  simp [a1, a2, a3]
theorem shape_no {bs : List UInt8} {R S x y z : Int} {t : List Int} (h : nums bs = some (R :: S :: x :: y :: z :: t)) (hn : ¬ (inB x 0 16384 = true ∧ inB y 0 16384 = true ∧ inB z 0 16384 = true ∧ (t.length : Int) = 4 * (x + y + z))) : NoShape bs := by
  intro d hd
  apply hn
  obtain ⟨t', ht, htl⟩ := all_form d
  have := hd.1
  rw [h, ht] at this
  simp only [Option.some.injEq, List.cons.injEq] at this
  obtain ⟨-, -, h3, h4, h5, h6⟩ := this
  have q1 := hd.2.1
  have q2 := hd.2.2.1
  have q3 := hd.2.2.2
  subst h6
  simp only [inB, Bool.and_eq_true, decide_eq_true_eq]
  omega
theorem shape_none {bs : List UInt8} (h : nums bs = none) : NoShape bs := fun d hd => by rw [hd.1] at h; cases h
theorem shape_few {bs : List UInt8} {l : List Int} (h : nums bs = some l) (hl : l.length < 5) : NoShape bs := fun d hd => by
  obtain ⟨t', ht, htl⟩ := all_form d
  have := hd.1
  rw [h, ht] at this
  injection this with this
  rw [this] at hl
  simp only [List.length_cons] at hl
  omega
end Go.Proofs.YtdhnjkcebaahcaaDoor.Dec
