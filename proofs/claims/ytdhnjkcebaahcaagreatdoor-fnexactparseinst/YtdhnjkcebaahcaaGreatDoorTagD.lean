import Derived.Test.YtdhnjkcebaahcaaGreatDoorPBase
namespace Go.Proofs.YtdhnjkcebaahcaaGreatDoor.Parse
open Go Go.RowKit Go.Proofs.YtdhnjkcebaahcaaGreatDoor.Mem
set_option linter.unusedVariables false
set_option linter.unusedSimpArgs false

def okTag (f : List UInt8) (k : Nat) : Bool := decide (97 ≤ (f.getD k 0).toNat) && decide ((f.getD k 0).toNat ≤ 112) && (decide (k = 0) || decide ((f.getD (k - 1) 0).toNat < (f.getD k 0).toNat))
def isTags (f : List UInt8) : Bool := f == [45] || (decide (0 < f.length) && allB f.length (okTag f))
def tagsV (f : List UInt8) : Nat → Int
  | 0 => 0
  | k + 1 => tagsV f k + (if (f.getD k 0).toNat = 45 then 0 else 2 ^ ((f.getD k 0).toNat - 97))
theorem drewN2 (w : World) (m n : Nat) : ∃ q, (w.drewN m).drewN n = w.drewN q := ⟨m + n, by unfold World.drewN; simp [Nat.add_assoc]⟩
theorem getD_of {f : List UInt8} {k : Nat} (h : k < f.length) : f.getD k 0 = f[k] := by simp [List.getD, h]

theorem tags_cases {f : List UInt8} (h : isTags f = true) : ∀ k, k < f.length → (f.getD k 0).toNat = 45 ∨ (97 ≤ (f.getD k 0).toNat ∧ (f.getD k 0).toNat ≤ 112) := by
  intro k hk
  unfold isTags at h
  simp only [Bool.or_eq_true] at h
  rcases h with h | h
  · have : f = [45] := by simpa using h
    subst this
    simp at hk
    subst hk
    exact Or.inl rfl
  · simp only [Bool.and_eq_true] at h
    have hall : ∀ n, allB n (okTag f) = true → ∀ k, k < n → okTag f k = true := by
      intro n
      induction n with
      | zero => intro _ k hk; omega
      | succ m ih =>
        intro h k hk
        simp only [allB, Bool.and_eq_true] at h
        by_cases e : k = m
        · subst e; exact h.2
        · exact ih h.1 k (by omega)
    have := hall _ h.2 k hk
    unfold okTag at this
    simp only [Bool.and_eq_true, decide_eq_true_eq] at this
    exact Or.inr this.1
theorem pow15 {b : Nat} (h : b ≤ 112) : (2 : Int) ^ (b - 97) ≤ 32768 ∧ 1 ≤ (2 : Int) ^ (b - 97) := by
  have h1 : b - 97 ≤ 15 := by omega
  generalize b - 97 = k at *
  match k, h1 with
  | 0, _ | 1, _ | 2, _ | 3, _ | 4, _ | 5, _ | 6, _ | 7, _ | 8, _ | 9, _ | 10, _ | 11, _ | 12, _ | 13, _ | 14, _ | 15, _ => decide
end Go.Proofs.YtdhnjkcebaahcaaGreatDoor.Parse
