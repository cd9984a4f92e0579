import Derived.Test.YtfoigigbggickaaDoorPq14
import Derived.Test.YtfoigigbggickaaDoorPq15
import Derived.Great.BuildSlice
import Derived.Lib.OthersKept
namespace Go.Proofs.YtfoigigbggickaaDoor.Par
open Go Go.RowKit Go.Proofs.YtfoigigbggickaaDoor.Mem Go.Proofs.YtfoigigbggickaaDoor.Syn Go.Proofs.YtfoigigbggickaaDoor.Parse
set_option linter.unusedVariables false
set_option linter.unusedSimpArgs false
attribute [local go_sem ↓] Go.wp_at_zero Go.wp_at_succ

/-- The number of Ops that a reader makes is the number that it counts. -/
theorem pf_cnt {T : Nat → Tk} {i o x : Nat} (h : cnt T i o = .ok x) : x = o + 1 := by
  unfold cnt at h
  split at h
  · cases h
  · injection h with h; omega
theorem bnd_inv {α β : Type} {r : Rs α} {F : α → Rs β} {y : β} (h : r.bnd F = .ok y) : ∃ x, r = .ok x ∧ F x = .ok y := by
  cases r with
  | out => cases h
  | bad c a => cases h
  | ok x => exact ⟨x, rfl, h⟩
theorem pfs_snoc (L : List Tr) (t : Tr) : (pfs (L ++ [t])).length = (pfs L).length + t.pf.length := by simp [pfs]
theorem call_pf {v : Nat} {L : List Tr} (h : L.length = 2 ∨ L.length = 3) : (callT v L).pf.length = (pfs L).length + 1 := by
  rcases L with _ | ⟨a, _ | ⟨b, _ | ⟨c, _ | ⟨e, r⟩⟩⟩⟩
  all_goals first | (simp at h; done) | (simp [callT, Tr.pf, pfs]; try omega) | (simp at h; omega)
theorem pf_all (T : Nat → Tk) : ∀ f,
    (∀ s i o d x, ex T f s i o d = .ok x → x.1.pf.length + o = x.2.2) ∧
    (∀ s l i o d x, lp T f s l i o d = .ok x → x.1.pf.length + o = l.pf.length + x.2.2) ∧
    (∀ i o d x, un T f i o d = .ok x → x.1.pf.length + o = x.2.2) ∧
    (∀ i o d x, pr T f i o d = .ok x → x.1.pf.length + o = x.2.2) ∧
    (∀ m i o d x, og T f m i o d = .ok x → (pfs x.1).length + o = x.2.2) ∧
    (∀ m L i o d x, ol T f m L i o d = .ok x → (pfs x.1).length + o = (pfs L).length + x.2.2)
  | 0 => by
    refine ⟨?_, ?_, ?_, ?_, ?_, ?_⟩
    · intro s i o d x h; rw [ex] at h; cases h
    · intro s l i o d x h; rw [lp] at h; cases h
    · intro i o d x h; rw [un] at h; cases h
    · intro i o d x h; rw [pr] at h; cases h
    · intro m i o d x h; rw [og] at h; cases h
    · intro m L i o d x h; rw [ol] at h; cases h
  | f + 1 => by
    obtain ⟨hE, hL, hU, hP, hG, hO⟩ := pf_all T f
    refine ⟨?_, ?_, ?_, ?_, ?_, ?_⟩
    · intro s i o d x h
      rw [ex] at h
      split at h
      · exact hU i o d x h
      · obtain ⟨y, h1, h2⟩ := bnd_inv h
        have := hE _ _ _ _ _ h1
        have := hL _ _ _ _ _ _ h2
        omega
    · intro s l i o d x h
      rw [lp] at h
      split at h
      · obtain ⟨o1, h1, h⟩ := bnd_inv h
        obtain ⟨j, h2, h⟩ := bnd_inv h
        obtain ⟨y, h3, h⟩ := bnd_inv h
        have e1 := pf_cnt h1
        have e3 := hE _ _ _ _ _ h3
        split at h
        · injection h with h
          rw [← h]
          simp only [Tr.pf, List.length_append, List.length_singleton]
          omega
        · have := hL _ _ _ _ _ _ h
          simp only [Tr.pf, List.length_append, List.length_singleton] at this
          omega
      · injection h with h; rw [← h]
    · intro i o d x h
      rw [un] at h
      split at h
      · obtain ⟨o1, h1, h⟩ := bnd_inv h
        obtain ⟨u, h2, h⟩ := bnd_inv h
        obtain ⟨j, h3, h⟩ := bnd_inv h
        obtain ⟨y, h4, h⟩ := bnd_inv h
        have e1 := pf_cnt h1
        have e4 := hU _ _ _ _ h4
        injection h with h
        rw [← h]
        simp only [Tr.pf, List.length_append, List.length_singleton]
        omega
      · exact hP i o d x h
    · intro i o d x h
      rw [pr] at h
      split at h
      · obtain ⟨y, h1, h⟩ := bnd_inv h
        have := hG _ _ _ _ _ h1
        have hl := og_len h1 (Nat.le_refl _)
        injection h with h
        rw [← h]
        obtain ⟨L, j, oo⟩ := y
        obtain ⟨a, rfl⟩ := List.length_eq_one_iff.1 hl
        simp [pfs] at this ⊢
        exact this
      · split at h
        · obtain ⟨o1, h1, h⟩ := bnd_inv h
          obtain ⟨j, h2, h⟩ := bnd_inv h
          obtain ⟨y, h3, h⟩ := bnd_inv h
          have e1 := pf_cnt h1
          have e3 := hG _ _ _ _ _ h3
          have hl := og_len h3 (by split <;> omega)
          injection h with h
          rw [← h]
          dsimp only
          rw [call_pf (by rw [hl]; split <;> simp)]
          omega
        · split at h
          · obtain ⟨o1, h1, h⟩ := bnd_inv h
            obtain ⟨j, h2, h⟩ := bnd_inv h
            obtain ⟨y, h3, h⟩ := bnd_inv h
            have e1 := pf_cnt h1
            injection h with h
            rw [← h]
            simp only [Tr.pf, List.length_singleton]
            omega
          · split at h
            · cases h
            · obtain ⟨o1, h1, h⟩ := bnd_inv h
              obtain ⟨j, h2, h⟩ := bnd_inv h
              have e1 := pf_cnt h1
              injection h with h
              rw [← h]
              simp only [Tr.pf, List.length_singleton]
              omega
    · intro m i o d x h
      rw [og] at h
      split at h
      · obtain ⟨u, h1, h⟩ := bnd_inv h
        obtain ⟨j, h2, h⟩ := bnd_inv h
        obtain ⟨y, h3, h⟩ := bnd_inv h
        obtain ⟨z, h4, h⟩ := bnd_inv h
        obtain ⟨k, h5, h⟩ := bnd_inv h
        have e3 := hE _ _ _ _ _ h3
        have e4 := hO _ _ _ _ _ _ h4
        injection h with h
        rw [← h]
        simp [pfs] at e4 ⊢
        omega
      · cases h
    · intro m L i o d x h
      cases m with
      | zero => rw [ol] at h; injection h with h; rw [← h]
      | succ m =>
        rw [ol] at h
        obtain ⟨j, h1, h⟩ := bnd_inv h
        obtain ⟨y, h2, h⟩ := bnd_inv h
        have e2 := hE _ _ _ _ _ h2
        have e3 := hO _ _ _ _ _ _ h
        rw [pfs_snoc] at e3
        omega
end Go.Proofs.YtfoigigbggickaaDoor.Par
