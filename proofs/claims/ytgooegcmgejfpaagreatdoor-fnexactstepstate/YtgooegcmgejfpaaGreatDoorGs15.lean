import Derived.Test.YtgooegcmgejfpaaGreatDoorGs14
import Derived.Deep.DrawnRows
import Derived.Laws.BitsLemmas
import Derived.Test.YtgooegcmgejfpaaGreatDoorGs12
import Derived.Lib.UnsafeStr
import Derived.OwnWalk
import Derived.Lib.Hide
import Derived.Lib.SmallJoins
import Derived.ArgAppend
import Derived.Laws.OwnMore
namespace Go.Proofs.YtgooegcmgejfpaaGreatDoor.Mac
open Go Go.RowKit Go.Proofs.YtgooegcmgejfpaaGreatDoor.Mem
open Go.Proofs.YtgooegcmgejfpaaGreatDoor.Arith (cl cl_bd sadd smul addS mulS addI mulI ret_int)
set_option linter.unusedVariables false
set_option linter.unusedSimpArgs false
attribute [local go_sem ↓] Go.wp_at_zero Go.wp_at_succ

theorem ret_bool {a b : Bool} (h : a = b) : Ending.returned (.bool a) = .returned (.bool b) := by rw [h]
theorem bitS (b : Bool) (w : World) : Calls Tryz.prog 96 #[.bool b] w fun e w' => e = .returned (.int .i64 (bit b)) ∧ w' = w := by
  cases b <;>
  (go_enter Tryz.func96, Tryz.ntmps96
   go_wp2
   go_ret
   exact ⟨rfl, rfl⟩)
theorem bitI (b : Bool) (w : World) : Calls Tryz.prog 142 #[.bool b] w fun e w' => e = .returned (.int .i64 (bit b)) ∧ w' = w := by
  cases b <;>
  (go_enter Tryz.func142, Tryz.ntmps142
   go_wp2
   go_ret
   exact ⟨rfl, rfl⟩)
theorem maxS (a b : Int) (w : World) : Calls Tryz.prog 116 #[.int .i64 a, .int .i64 b] w fun e w' => e = .returned (.int .i64 (max a b)) ∧ w' = w := by
  by_cases h : b < a
  · go_enter Tryz.func116, Tryz.ntmps116
    go_wp2
    go_ret
    exact ⟨ret_int (by omega), rfl⟩
  · have h' : decide (b < a) = false := by simpa using h
    go_enter Tryz.func116, Tryz.ntmps116
    go_wp2
    go_ret
    exact ⟨ret_int (by omega), rfl⟩
set_option maxHeartbeats 1600000 in
theorem hasS (z t : Int) (w : World) (z0 : 0 ≤ z) (z1 : z ≤ 65535) (t0 : 0 ≤ t) (t1 : t ≤ 15) : Calls Tryz.prog 131 #[.int .i64 z, .int .i64 t] w fun e w' => e = .returned (.bool (hasB z t)) ∧ w' = w := by
  have : t = 0 ∨ t = 1 ∨ t = 2 ∨ t = 3 ∨ t = 4 ∨ t = 5 ∨ t = 6 ∨ t = 7 ∨ t = 8 ∨ t = 9 ∨ t = 10 ∨ t = 11 ∨ t = 12 ∨ t = 13 ∨ t = 14 ∨ t = 15 := by omega
  rcases this with rfl | rfl | rfl | rfl | rfl | rfl | rfl | rfl | rfl | rfl | rfl | rfl | rfl | rfl | rfl | rfl
  all_goals
    go_enter Tryz.func131, Tryz.ntmps131
    go_wp2
    go_ret
    exact ⟨ret_bool (by simp [hasB]), rfl⟩
theorem and1 (x : Int) (h0 : 0 ≤ x) (h1 : x < 131072) : bits .and .i64 x 1 = x % 2 := bits_mask .i64 17 (by decide) (fun z h0 h1 => by rw [IntKind.wrap_i64]; omega) 1 (by decide) x h0 h1
set_option maxHeartbeats 1600000 in
theorem hasI (z t : Int) (w : World) (z0 : 0 ≤ z) (z1 : z ≤ 65535) (t0 : 0 ≤ t) (t1 : t ≤ 15) : Calls Tryz.prog 178 #[.int .i64 z, .int .i64 t] w fun e w' => e = .returned (.int .i64 (bit (hasB z t))) ∧ w' = w := by
  have : t = 0 ∨ t = 1 ∨ t = 2 ∨ t = 3 ∨ t = 4 ∨ t = 5 ∨ t = 6 ∨ t = 7 ∨ t = 8 ∨ t = 9 ∨ t = 10 ∨ t = 11 ∨ t = 12 ∨ t = 13 ∨ t = 14 ∨ t = 15 := by omega
  rcases this with rfl | rfl | rfl | rfl | rfl | rfl | rfl | rfl | rfl | rfl | rfl | rfl | rfl | rfl | rfl | rfl
  all_goals
    go_enter Tryz.func178, Tryz.ntmps178
    go_wp2
    go_ret
    exact ⟨ret_int (by rw [and1 _ (by omega) (by omega)]; simp [hasB, bit]; split <;> omega), rfl⟩
set_option maxHeartbeats 1600000 in
theorem binS (k a b : Int) (w : World) (a0 : -1000000000 ≤ a) (a1 : a ≤ 1000000000) (b0 : -1000000000 ≤ b) (b1 : b ≤ 1000000000) (k0 : 0 ≤ k) (k1 : k ≤ 5) : Calls Tryz.prog 132 #[.int .i64 k, .int .i64 a, .int .i64 b] w fun e w' => e = .returned (.int .i64 (if k = 0 then smul a b else if k = 1 then sadd a b else if k = 2 then sadd a (-b) else if k = 3 then bit (decide (a < b)) else if k = 4 then bit (decide (a ≤ b)) else bit (a == b))) ∧ w' = w := by
  have : k = 0 ∨ k = 1 ∨ k = 2 ∨ k = 3 ∨ k = 4 ∨ k = 5 := by omega
  rcases this with rfl | rfl | rfl | rfl | rfl | rfl
  all_goals
    go_enter Tryz.func132, Tryz.ntmps132
    go_wp2_with (first | (go_at_call 171; refine (mulS _ _ _).mono ?_; rintro e w' ⟨rfl, rfl⟩) | (go_at_call 90; refine (addS _ _ _).mono ?_; rintro e w' ⟨rfl, rfl⟩) | (go_at_call 96; refine (bitS _ _).mono ?_; rintro e w' ⟨rfl, rfl⟩))
    go_ret
    exact ⟨rfl, rfl⟩
theorem subI (a b : Int) (w : World) (a0 : -1000000000 ≤ a) (a1 : a ≤ 1000000000) (b0 : -1000000000 ≤ b) (b1 : b ≤ 1000000000) : Calls Tryz.prog 146 #[.int .i64 a, .int .i64 b] w fun e w' => e = .returned (.int .i64 (sadd a (-b))) ∧ w' = w := by
  go_enter Tryz.func146, Tryz.ntmps146
  go_wp2_with (go_at_call 145; refine (addI _ _ _).mono ?_; rintro e w' ⟨rfl, rfl⟩)
  go_ret
  exact ⟨rfl, rfl⟩
theorem lessI (a b : Int) (w : World) (a0 : -1000000000 ≤ a) (a1 : a ≤ 1000000000) (b0 : -1000000000 ≤ b) (b1 : b ≤ 1000000000) : Calls Tryz.prog 147 #[.int .i64 a, .int .i64 b] w fun e w' => e = .returned (.int .i64 (bit (decide (a < b)))) ∧ w' = w := by
  go_enter Tryz.func147, Tryz.ntmps147
  go_wp2_with (go_at_call 142; refine (bitI _ _).mono ?_; rintro e w' ⟨rfl, rfl⟩)
  go_ret
  exact ⟨rfl, rfl⟩
theorem mostI (a b : Int) (w : World) (a0 : -1000000000 ≤ a) (a1 : a ≤ 1000000000) (b0 : -1000000000 ≤ b) (b1 : b ≤ 1000000000) : Calls Tryz.prog 148 #[.int .i64 a, .int .i64 b] w fun e w' => e = .returned (.int .i64 (bit (decide (a ≤ b)))) ∧ w' = w := by
  go_enter Tryz.func148, Tryz.ntmps148
  go_wp2_with (go_at_call 142; refine (bitI _ _).mono ?_; rintro e w' ⟨rfl, rfl⟩)
  go_ret
  exact ⟨rfl, rfl⟩
theorem equalI (a b : Int) (w : World) (a0 : -1000000000 ≤ a) (a1 : a ≤ 1000000000) (b0 : -1000000000 ≤ b) (b1 : b ≤ 1000000000) : Calls Tryz.prog 149 #[.int .i64 a, .int .i64 b] w fun e w' => e = .returned (.int .i64 (bit (a == b))) ∧ w' = w := by
  go_enter Tryz.func149, Tryz.ntmps149
  go_wp2_with (go_at_call 142; refine (bitI _ _).mono ?_; rintro e w' ⟨rfl, rfl⟩)
  go_ret
  exact ⟨rfl, rfl⟩
theorem minI (a b : Int) (w : World) (a0 : -1000000000 ≤ a) (a1 : a ≤ 1000000000) (b0 : -1000000000 ≤ b) (b1 : b ≤ 1000000000) : Calls Tryz.prog 150 #[.int .i64 a, .int .i64 b] w fun e w' => e = .returned (.int .i64 (min a b)) ∧ w' = w := by
  go_enter Tryz.func150, Tryz.ntmps150
  go_wp2_with fail
  go_ret
  exact ⟨rfl, rfl⟩
theorem maxI (a b : Int) (w : World) (a0 : -1000000000 ≤ a) (a1 : a ≤ 1000000000) (b0 : -1000000000 ≤ b) (b1 : b ≤ 1000000000) : Calls Tryz.prog 151 #[.int .i64 a, .int .i64 b] w fun e w' => e = .returned (.int .i64 (max a b)) ∧ w' = w := by
  go_enter Tryz.func151, Tryz.ntmps151
  go_wp2_with fail
  go_ret
  exact ⟨rfl, rfl⟩
end Go.Proofs.YtgooegcmgejfpaaGreatDoor.Mac
namespace Go.Proofs.YtgooegcmgejfpaaGreatDoor.Mac
open Go Go.RowKit Go.Proofs.YtgooegcmgejfpaaGreatDoor.Mem
open Go.Proofs.YtgooegcmgejfpaaGreatDoor.Arith (cl cl_bd sadd smul addS mulS addI mulI ret_int)
set_option linter.unusedVariables false
set_option linter.unusedSimpArgs false
attribute [local go_sem ↓] Go.wp_at_zero Go.wp_at_succ

/-- A list of numbers in a slice. -/
def Li (w : World) (a : Option Addr) (l : List Int) : Prop := NumsAt w a l.length (fun i => l.getD i 0)
theorem Li.below {w w' : World} {a : Option Addr} {l : List Int} (h : Li w a l) (hb : Below w.heap.size w w') : Li w' a l := NumsAt.below h hb
theorem Li.at {w : World} {a : Option Addr} {l : List Int} (h : Li w a l) {i : Nat} (hi : i < l.length) : ∃ b off, a = some ⟨b, off, none⟩ ∧ w.cell? ⟨b, off + i, none⟩ = some (.int .i64 (l.getD i 0)) := NumsAt.at h hi
def icells (l : List Int) : List Value := l.map (Value.int .i64)
theorem icells_get (l : List Int) (j : Nat) (u : Value) (h : (icells l)[j]? = some u) : j < l.length ∧ u = .int .i64 (l.getD j 0) := by
  simp only [icells, List.getElem?_map, Option.map_eq_some_iff] at h
  obtain ⟨z, hz, rfl⟩ := h
  have hj := (List.getElem?_eq_some_iff.1 hz).1
  exact ⟨hj, by simp [List.getD_eq_getElem?_getD, hz]⟩
theorem icells_one (l : List Int) : ∀ u ∈ icells l, u.oneCell' = true := by
  intro u hu
  simp only [icells, List.mem_map] at hu
  obtain ⟨b, _, rfl⟩ := hu
  rfl
/-- A list of the call's own, in a block that may be longer. -/
theorem own_li {B : Nat} {w : World} {v : Value} {n : Nat} {l : List Int} (hp : 0 < n) (hn : n = l.length) (h : w.ownsRow B 2 1 v n (icells l)) : ∃ g c cs, v = .slice (some ⟨g, 0, none⟩) n c ∧ B ≤ g ∧ w.heap[g]? = some (.cells cs 2) ∧ n ≤ cs.size ∧ ∀ i, i < n → cs[i]? = some (.int .i64 (l.getD i 0)) := by
  rcases h.2 with ⟨-, h0⟩ | ⟨g, cap, cur, hv, hg, hblk, h1, h2, h3, ht⟩
  · omega
  · have key : ∀ i, i < n → cur.toList[i]? = some (.int .i64 (l.getD i 0)) := fun i hi => by
      have h5 : (icells l)[i]? = some (.int .i64 (l.getD i 0)) := by
        simp only [icells, List.getElem?_map, List.getD_eq_getElem?_getD]
        rw [List.getElem?_eq_getElem (by omega)]; rfl
      rw [← ht, List.getElem?_take] at h5
      split at h5
      · exact h5
      · cases h5
    refine ⟨g, cap, cur, hv, hg, hblk, ?_, fun i hi => by have := key i hi; simpa using this⟩
    have := key (n - 1) (by omega)
    have := (List.getElem?_eq_some_iff.1 this).1
    simp at this
    omega

theorem infoIn : (Tryz.prog.info? 2).map (fun i => (i.zero, i.size, i.bytes)) = some (some (.int .i64 0), 1, 8) := by kernel_rfl
theorem own_nil (w : World) : (w.alloc (.cells #[] 2)).ownsRow w.heap.size 2 1 (.slice (some ⟨w.heap.size, 0, none⟩) 0 0) 0 (icells []) := by
  refine ⟨by simp [icells], Or.inr ⟨w.heap.size, 0, _, rfl, Nat.le_refl _, blk_new _ _, Nat.le_refl _, by unfold maxLen; omega, by simp, by simp [icells]⟩⟩

set_option maxHeartbeats 1600000 in
set_option maxRecDepth 100000 in
theorem setS (a : Option Addr) (n c : Nat) (l : List Int) (k : Nat) (x : Int) (w : World) (hn : n = l.length) (h : Li w a l) (hk : k < n) (hN : n ≤ 1048576) :
    Calls Tryz.prog 70 #[.slice a n c, .int .i64 k, .int .i64 x] w fun e w' => ∃ g c', e = .returned (.slice (some ⟨g, 0, none⟩) n c') ∧ Li w' (some ⟨g, 0, none⟩) (l.set k x) ∧ Below w.heap.size w w' ∧ w.heap.size ≤ g := by
  have HL := Hid.mk h
  have HN := Hid.mk hn
  obtain ⟨i0, hi, hz0, hz1, hz2⟩ := info_parts infoIn
  rcases h with h | ⟨b, off, rfl, h⟩
  · omega
  have HH := Hid.mk h
  clear h hn
  have k0 : (0 : Int) ≤ (k : Int) := by omega
  have k1 : (k : Int) < (n : Int) := by omega
  have hnews : ∀ j u, (icells l)[j]? = some u → (w.alloc (.cells #[] 2)).cell? ((⟨b, off, none⟩ : Addr).add j) = some u := fun j u hj => by
    obtain ⟨h1, rfl⟩ := icells_get l j u hj
    have := ci.at (rangeAt_below (HH.out j h1) (show Below w.heap.size w (w.alloc (.cells #[] 2)) by go_grown))
    rw [Nat.mul_one] at this
    rw [Addr.add_mid]
    exact this
  go_enter Tryz.func70, Tryz.ntmps70
  go_wp2_with (at_builtin; refine wpList_append_own _ rfl _ _ 32 rfl w.heap.size 2 i0 (.int .i64 0) 1 8 Tryz.underlying32 hi hz0 hz1 hz2 rfl (by decide) _ _ _ rfl (own_nil w) ⟨b, off, none⟩ n c (icells l) rfl (by simp [icells]; exact HN.out.symm) hnews (icells_one l) (by unfold maxLen; omega) (by omega) (by simp) ?_)
  intro v2 w2 hown hgrow _
  clear hnews
  rw [show icells [] ++ icells l = icells l from rfl] at hown
  obtain ⟨g, c2, cs, rfl, hg, hblk, hsz, hcs⟩ := own_li (by omega) HN.out hown
  have hB : Hid (Below w.heap.size w w2) := ((Below.refl _ _).alloc (Nat.le_refl _) _).grown hgrow (by simp) (fun q hq => by simp [Value.ownBlock] at hq; omega)
  have HB2 := Hid.mk hblk
  have HG := Hid.mk hg
  have HC := Hid.mk (And.intro hsz hcs)
  have e1 := blk_cell hblk k
  rw [hcs k hk] at e1
  have e2 := blk_unfrozen hblk k
  clear hown hgrow hblk hsz hcs hg
  refine Hid.out ?_
  refine Lib.hid ?_
  go_wp2
  go_ret
  refine ⟨g, c2, rfl, Or.inr ⟨g, 0, rfl, fun i hi => ?_⟩, ?_, HG.out⟩
  · rw [List.length_set] at hi
    intro j u hj
    obtain ⟨rfl, rfl⟩ : j = 0 ∧ u = .int .i64 ((l.set k x).getD i 0) := by
      cases j with
      | zero => simp [ci] at hj; exact ⟨rfl, hj.symm⟩
      | succ j => simp [ci] at hj
    rw [blk_cell (blk_set HB2.out k _)]
    simp only [Nat.mul_one, Nat.zero_add, Nat.add_zero, Array.getElem?_setIfInBounds, List.getD_eq_getElem?_getD, List.getElem?_set]
    have hl := HN.out
    by_cases e : k = i
    · subst e
      rw [if_pos rfl, if_pos (by have := HC.out.1; omega), if_pos rfl, if_pos hi]; rfl
    · rw [if_neg e, if_neg e, HC.out.2 i (by omega), List.getD_eq_getElem?_getD]
  · exact hB.out.setCell (by exact HG.out) _
end Go.Proofs.YtgooegcmgejfpaaGreatDoor.Mac
