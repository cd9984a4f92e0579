import Derived.Test.YtdhnjkcebaahcaaDoorEncJ
import Derived.Test.YtdhnjkcebaahcaaDoorEncU
import Derived.Test.YtdhnjkcebaahcaaDoorMarksC
namespace Go.Proofs.YtdhnjkcebaahcaaDoor.Enc
open Go Go.RowKit Go.Proofs.YtdhnjkcebaahcaaDoor.Mem Go.Proofs.YtdhnjkcebaahcaaDoor.ValC
set_option linter.unusedVariables false

theorem encSA (b1 b2 b3 : Nat) (c1 c2 c3 : Nat) (C : Co) (N : Nat) (w : World) (hN : N = (answer C).length) (h : CoAt w (some ⟨b1, 0, none⟩) (some ⟨b2, 0, none⟩) (some ⟨b3, 0, none⟩) C) (h1 : C.n1 ≤ 1048576) (h2 : C.n2 ≤ 1048576) (h3 : C.n3 ≤ 1048576) :
    Calls Tryd.prog 21 #[.agg #[.int .i64 C.R, .int .i64 C.S, .slice (some ⟨b1, 0, none⟩) C.n1 c1, .slice (some ⟨b2, 0, none⟩) C.n2 c2, .slice (some ⟨b3, 0, none⟩) C.n3 c3]] w fun e w' => ∃ a c, e = .returned (.slice a N c) ∧ MarksC.At w.heap.size w'.heap.size w' a (answer C) ∧ Below w.heap.size w w' := by
  refine (encodeS b1 b2 b3 c1 c2 c3 C w h h1 h2 h3).mono ?_
  rintro e w1 ⟨v, rfl, ho, hb⟩
  obtain ⟨a, c, rfl, hat⟩ := MarksC.Own.lies ho
  exact ⟨a, c, by rw [hN], hat, hb⟩
theorem encIA (b1 b2 b3 : Nat) (c1 c2 c3 : Nat) (C : Co) (N : Nat) (w : World) (hN : N = (answer C).length) (h : CoAt w (some ⟨b1, 0, none⟩) (some ⟨b2, 0, none⟩) (some ⟨b3, 0, none⟩) C) (h1 : C.n1 ≤ 1048576) (h2 : C.n2 ≤ 1048576) (h3 : C.n3 ≤ 1048576) (l1 : b1 < w.heap.size) (l2 : b2 < w.heap.size) (l3 : b3 < w.heap.size) (hT : TabC w) :
    Calls Tryd.prog 22 #[.agg #[.int .i64 C.R, .int .i64 C.S, .slice (some ⟨b1, 0, none⟩) C.n1 c1, .slice (some ⟨b2, 0, none⟩) C.n2 c2, .slice (some ⟨b3, 0, none⟩) C.n3 c3]] w fun e w' => ∃ a c, e = .returned (.slice a N c) ∧ MarksC.At w.heap.size w'.heap.size w' a (answer C) ∧ Below w.heap.size w w' := by
  refine (encodeI _ _ _ c1 c2 c3 C w h h1 h2 h3 (fun b hb => by injection hb with hb; rw [← hb]; exact l1) (fun b hb => by injection hb with hb; rw [← hb]; exact l2) (fun b hb => by injection hb with hb; rw [← hb]; exact l3) hT).mono ?_
  rintro e w1 ⟨v, rfl, ho, hb⟩
  obtain ⟨a, c, rfl, hat⟩ := MarksC.Own.lies (Joins.ownsRow_le ho (Nat.le_succ _))
  exact ⟨a, c, by rw [hN], hat, hb⟩
end Go.Proofs.YtdhnjkcebaahcaaDoor.Enc
