import Derived.Test.YtdhnjkcebaahcaaDoorTags
import Derived.Deep.RegionHeld3
import Derived.Deep.DrawnRows
namespace Go.Proofs.YtdhnjkcebaahcaaDoor.Print
open Go Go.RowKit Go.Proofs.YtdhnjkcebaahcaaDoor.Mem
set_option linter.unusedVariables false
attribute [local go_sem ↓] Go.wp_at_zero Go.wp_at_succ

/-- A value that leads to the bytes bs, in a block from B on. -/
def FV (B : Nat) (w : World) (v : Value) (bs : List UInt8) : Prop := ∃ g o n c, v = .slice (some ⟨g, o, none⟩) n c ∧ B ≤ g ∧ Rb w g o n bs
def FVs (B : Nat) (w : World) : List Value → List (List UInt8) → Prop
  | [], [] => True
  | v :: vs, b :: bs => FV B w v b ∧ FVs B w vs bs
  | _, _ => False
theorem FV.below {B : Nat} {w w' : World} {v : Value} {bs : List UInt8} (h : FV B w v bs) (hb : Below w.heap.size w w') : FV B w' v bs := by
  obtain ⟨g, o, n, c, e, hg, h⟩ := h
  exact ⟨g, o, n, c, e, hg, h.below hb⟩
theorem FV.low {B : Nat} {w : World} {v : Value} {bs : List UInt8} (h : FV B w v bs) : FV 0 w v bs := by
  obtain ⟨g, o, n, c, e, hg, h⟩ := h
  exact ⟨g, o, n, c, e, Nat.zero_le _, h⟩
theorem FV.grown {B : Nat} {w w' : World} {row : Option Nat} {v : Value} {bs : List UInt8} (h : FV B w v bs) (hg : w.grownBy w' row) (hr : ∀ k, row = some k → k < B) : FV B w' v bs := by
  obtain ⟨g, o, n, c, e, hB, h1, h2, h3⟩ := h
  refine ⟨g, o, n, c, e, hB, h1, Nat.lt_of_lt_of_le h2 hg.size, fun j u hu => hg.cell (h3 j u hu) ?_⟩
  rw [Addr.add_mid]
  intro he
  have := hr g he.symm
  omega
theorem FVs.below {B : Nat} {w w' : World} (hb : Below w.heap.size w w') : ∀ {vs : List Value} {L : List (List UInt8)}, FVs B w vs L → FVs B w' vs L
  | [], [], _ => trivial
  | _ :: _, _ :: _, h => ⟨h.1.below hb, FVs.below hb h.2⟩
theorem FVs.low {B : Nat} {w : World} : ∀ {vs : List Value} {L : List (List UInt8)}, FVs B w vs L → FVs 0 w vs L
  | [], [], _ => trivial
  | _ :: _, _ :: _, h => ⟨h.1.low, FVs.low h.2⟩
theorem FVs.grown {B : Nat} {w w' : World} {row : Option Nat} (hg : w.grownBy w' row) (hr : ∀ k, row = some k → k < B) : ∀ {vs : List Value} {L : List (List UInt8)}, FVs B w vs L → FVs B w' vs L
  | [], [], _ => trivial
  | _ :: _, _ :: _, h => ⟨h.1.grown hg hr, FVs.grown hg hr h.2⟩
theorem FVs.append {B : Nat} {w : World} : ∀ {vs : List Value} {L : List (List UInt8)} {vs' : List Value} {L' : List (List UInt8)}, FVs B w vs L → FVs B w vs' L' → FVs B w (vs ++ vs') (L ++ L')
  | [], [], _, _, _, h => h
  | _ :: _, _ :: _, _, _, h, h' => ⟨h.1, FVs.append h.2 h'⟩
theorem FVs.get {B : Nat} {w : World} : ∀ {vs : List Value} {L : List (List UInt8)}, FVs B w vs L → ∀ (k : Nat) (hk : k < L.length), ∃ v, vs[k]? = some v ∧ FV B w v L[k]
  | [], [], _, k, hk => by simp at hk
  | _ :: _, _ :: _, h, 0, _ => ⟨_, rfl, h.1⟩
  | _ :: _, _ :: _, h, k + 1, hk => by
    obtain ⟨v, h1, h2⟩ := FVs.get h.2 k (by simpa using hk)
    exact ⟨v, by simpa using h1, by simpa using h2⟩
theorem FVs.one {B : Nat} {w : World} : ∀ {vs : List Value} {L : List (List UInt8)}, FVs B w vs L → ∀ u ∈ vs, u.oneCell' = true
  | [], [], _, _, hu => by cases hu
  | _ :: _, _ :: _, h, u, hu => by
    rcases List.mem_cons.1 hu with rfl | hu
    · obtain ⟨g, o, n, c, rfl, _⟩ := h.1; rfl
    · exact FVs.one h.2 u hu

/-- The first k fields of a line, a blank between two. -/
def jn (L : List (List UInt8)) : Nat → List UInt8
  | 0 => []
  | k + 1 => (if k = 0 then jn L k else jn L k ++ [32]) ++ L.getD k []
/-- A line of these fields. -/
def line (L : List (List UInt8)) : List UInt8 := jn L L.length ++ [10]
theorem getD_get {L : List (List UInt8)} {k : Nat} (hk : k < L.length) : L.getD k [] = L[k] := by simp [List.getD, hk]
theorem jn_len {L : List (List UInt8)} (h : ∀ b ∈ L, b.length ≤ 40) : ∀ k, k ≤ L.length → (jn L k).length ≤ 41 * k
  | 0, _ => by simp [jn]
  | k + 1, hk => by
    have ih := jn_len h k (by omega)
    have hb : (L.getD k []).length ≤ 40 := by
      rw [getD_get (by omega)]
      exact h _ (List.getElem_mem _)
    unfold jn
    split
    · rw [List.length_append]; omega
    · rw [List.length_append, List.length_append, List.length_singleton]; omega

theorem own_app {B : Nat} {w : World} {v : Value} {bs cs : List UInt8} {n : Nat} (hn : n = cs.length) (h : w.ownsRow B 5 1 v (bs.length + n) (Lib.byteCells bs ++ Lib.byteCells cs)) : Own B w v (bs ++ cs) := by
  unfold Own
  rw [List.length_append, Lib.byteCells_append, ← hn]
  exact h

end Go.Proofs.YtdhnjkcebaahcaaDoor.Print
