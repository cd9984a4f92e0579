import Derived.Test.YtgooegcmgejfpaaGreatDoorFn29
import Derived.Lib.SliceRun
namespace Go.Proofs.YtgooegcmgejfpaaGreatDoor.Mac
open Go Go.RowKit Go.Proofs.YtgooegcmgejfpaaGreatDoor.Mem
set_option linter.unusedVariables false
set_option linter.unusedSimpArgs false
attribute [local go_sem ↓] Go.wp_at_zero Go.wp_at_succ

/-- A copy of a list: nothing, or a list of its own. -/
def Cl (w : World) (l : List Int) (e : Ending) (w' : World) : Prop :=
  ∃ a' c', e = .returned (.slice a' l.length c') ∧ Below w.heap.size w w' ∧ (l.length = 0 ∨ ∃ g, a' = some ⟨g, 0, none⟩ ∧ w.heap.size ≤ g ∧ g < w'.heap.size ∧ Rw w' g l)
theorem nilEq (w : World) (a : Option Addr) (n c : Nat) : (binOp .eql 32 (.slice a n c) (.slice none 0 0)).run Tryz.prog w = .ok (.bool a.isNone) w := Lib.run_eql_slice_nil w _ _ a n c 0 0 Tryz.underlying32
theorem own_any {B : Nat} {w : World} {v : Value} {n : Nat} {l : List Value} (h : w.ownsRow B 2 1 v n l) : ∃ a c, v = .slice a n c := by
  rcases h.2 with ⟨hv, h0⟩ | ⟨g, cap, cur, hv, hg, hblk, h1, h2, h3, ht⟩
  · exact ⟨_, _, by rw [hv, h0]⟩
  · exact ⟨_, _, hv⟩

set_option maxHeartbeats 1600000 in
set_option maxRecDepth 100000 in
theorem cloneI (a : Option Addr) (n c : Nat) (l : List Int) (w : World) (hn : n = l.length) (h : Li w a l) (hN : n ≤ 1048576) :
    Calls Tryz.prog 121 #[.slice a n c] w (Cl w l) := by
  have HN := Hid.mk hn
  obtain ⟨i0, hi, hz0, hz1, hz2⟩ := info_parts infoIn
  by_cases h0 : n = 0
  · subst h0
    have hl : Hid (l.length = 0) := hn.symm
    clear hn
    cases a with
    | none =>
      clear h hi hz0 hz1 hz2
      have hq := fun w : World => nilEq w none 0 c
      go_enter Tryz.func121, Tryz.ntmps121
      go_wp2
      go_ret
      exact ⟨none, 0, by rw [hl.out]; rfl, by go_grown, Or.inl hl.out⟩
    | some ad =>
      clear h
      have hq := fun w : World => nilEq w (some ad) 0 c
      have hnews : ∀ j u, (icells [])[j]? = some u → (w.alloc (.cells #[] 2)).cell? (ad.add j) = some u := fun j u hj => by simp [icells] at hj
      go_enter Tryz.func121, Tryz.ntmps121
      go_wp2_with (at_builtin; refine wpList_append_own _ rfl _ _ 32 rfl w.heap.size 2 i0 (.int .i64 0) 1 8 Tryz.underlying32 hi hz0 hz1 hz2 rfl (by decide) _ _ _ rfl (own_nil w) ad 0 c (icells []) rfl (by simp [icells]) hnews (icells_one []) (by unfold maxLen; omega) (by omega) (by simp) ?_)
      intro v2 w2 hown hgrow _
      clear hnews
      have hB : Hid (Below w.heap.size w w2) := ((Below.refl _ _).alloc (Nat.le_refl _) _).grown hgrow (by simp) (fun q hq => by simp [Value.ownBlock] at hq; omega)
      obtain ⟨a', c', hv⟩ := own_any hown
      subst hv
      clear hown hgrow
      refine Hid.out ?_
      refine Lib.hid ?_
      go_wp2
      go_ret
      exact ⟨a', c', by rw [hl.out]; rfl, hB.out, Or.inl hl.out⟩
  rcases h with h | ⟨b, off, rfl, h⟩
  · omega
  have HH := Hid.mk h
  clear h hn
  have hq := fun w : World => nilEq w (some ⟨b, off, none⟩) n c
  have hnews : ∀ j u, (icells l)[j]? = some u → (w.alloc (.cells #[] 2)).cell? ((⟨b, off, none⟩ : Addr).add j) = some u := fun j u hj => by
    obtain ⟨h1, rfl⟩ := icells_get l j u hj
    have := ci.at (rangeAt_below (HH.out j h1) (show Below w.heap.size w (w.alloc (.cells #[] 2)) by go_grown))
    rw [Nat.mul_one] at this
    rw [Addr.add_mid]
    exact this
  go_enter Tryz.func121, Tryz.ntmps121
  go_wp2_with (at_builtin; refine wpList_append_own _ rfl _ _ 32 rfl w.heap.size 2 i0 (.int .i64 0) 1 8 Tryz.underlying32 hi hz0 hz1 hz2 rfl (by decide) _ _ _ rfl (own_nil w) ⟨b, off, none⟩ n c (icells l) rfl (by simp [icells]; exact HN.out.symm) hnews (icells_one l) (by unfold maxLen; omega) (by omega) (by simp) ?_)
  intro v2 w2 hown hgrow _
  clear hnews
  rw [show icells [] ++ icells l = icells l from rfl] at hown
  obtain ⟨g, c2, cs, rfl, hg, hblk, hsz, hcs⟩ := own_li (by omega) HN.out hown
  have hB : Hid (Below w.heap.size w w2) := ((Below.refl _ _).alloc (Nat.le_refl _) _).grown hgrow (by simp) (fun q hq => by simp [Value.ownBlock] at hq; omega)
  have HB2 := Hid.mk hblk
  have HG := Hid.mk hg
  have HC := Hid.mk (And.intro hsz hcs)
  clear hown hgrow hblk hsz hcs hg
  refine Hid.out ?_
  refine Lib.hid ?_
  go_wp2
  go_ret
  refine ⟨_, c2, by rw [← HN.out]; rfl, hB.out, Or.inr ⟨g, rfl, HG.out, blk_lt HB2.out, fun i hi => ?_⟩⟩
  have hl := HN.out
  exact ⟨by rw [blk_cell HB2.out, HC.out.2 i (by omega)], blk_unfrozen HB2.out i⟩
end Go.Proofs.YtgooegcmgejfpaaGreatDoor.Mac
