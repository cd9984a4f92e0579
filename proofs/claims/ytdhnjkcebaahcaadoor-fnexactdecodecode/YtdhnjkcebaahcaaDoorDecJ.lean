import Derived.Test.YtdhnjkcebaahcaaDoorDecI
import Derived.Test.YtdhnjkcebaahcaaDoorValCI
namespace Go.Proofs.YtdhnjkcebaahcaaDoor.Dec
open Go Go.RowKit Go.Proofs.YtdhnjkcebaahcaaDoor.Mem Go.Proofs.YtdhnjkcebaahcaaDoor.ValC Go.Proofs.YtdhnjkcebaahcaaDoor.Enc
set_option linter.unusedVariables false
set_option linter.unusedSimpArgs false
attribute [local go_sem ↓] Go.wp_at_zero Go.wp_at_succ

inductive Rds : List UInt8 → List Int → List UInt8 → Prop
  | nil (b : List UInt8) : Rds b [] b
  | snoc {b r s : List UInt8} {l : List Int} {n : Int} (h : Rds b l r) (h1 : one r = some (n, s)) : Rds b (l ++ [n]) s
theorem live_rds {bs rest r : List UInt8} {pre l : List Int} (h : Live bs pre rest) (h1 : Rds rest l r) : Live bs (pre ++ l) r := by
  induction h1 with
  | nil => rw [List.append_nil]; exact h
  | snoc h1 h2 ih => rw [← List.append_assoc]; exact live_step ih h2

theorem gb_trans {w w1 w2 : World} {r : Nat} (h : w.grownBy w1 (some r)) (h' : w1.grownBy w2 (some r)) : w.grownBy w2 (some r) :=
  ⟨h'.os.trans h.os, h'.tape.trans h.tape, h'.output.trans h.output, Nat.le_trans h.size h'.size, fun k hk hne => (h'.block k (Nat.lt_of_lt_of_le hk h.size) hne).trans (h.block k hk hne)⟩
theorem gb_refl (w : World) (r : Nat) : w.grownBy w (some r) := ⟨rfl, rfl, rfl, Nat.le_refl _, fun _ _ _ => rfl⟩
theorem gb_of_below {w w1 w2 : World} {r : Nat} (h : w.grownBy w1 (some r)) (hb : Below w.heap.size w1 w2) (hs : w1.heap.size ≤ w2.heap.size) : w.grownBy w2 (some r) :=
  ⟨hb.os.trans h.os, hb.tape.trans h.tape, hb.output.trans h.output, Nat.le_trans h.size hs, fun k hk hne => (hb.block k hk).trans (h.block k hk hne)⟩
theorem row_rec {w w' : World} {B s n r : Nat} {v : Value} {e t : TypeId} {xs : List Value} {C : Array Value} {fr : Nat × Nat} (h : w.ownsRow B e s v n xs) (hx : w.heap[r]? = some (.cells C t fr)) (hg : w.grownBy w' (some r)) (hne : e ≠ t) : w'.ownsRow B e s v n xs := by
  refine ⟨h.1, ?_⟩
  rcases h.2 with h0 | ⟨g, cap, cur, h1, h2, h3, h4⟩
  · exact Or.inl h0
  · refine Or.inr ⟨g, cap, cur, h1, h2, ?_, h4⟩
    rw [hg.block g (blk_lt h3) ?_]
    · exact h3
    · intro e1
      injection e1 with e1
      rw [e1, hx] at h3
      injection h3 with h3
      injection h3 with _ h5
      exact hne h5.symm
theorem De.keep {w w' : World} {r lo : Nat} {rest : List UInt8} {f : Bool} {a : Option Addr} {c : Nat} (h : De w r lo rest f a c) (hb : Below lo w w') (hx : w'.heap[r]? = w.heap[r]?) : De w' r lo rest f a c := by
  refine ⟨hx.trans h.x, h.cap, ?_, h.low, h.len⟩
  rcases h.rd with h0 | ⟨g, o, ea, hcl⟩
  · exact Or.inl h0
  · refine Or.inr ⟨g, o, ea, fun j hj => ?_⟩
    rw [hb.cell (p := ⟨g, o + j, none⟩) (h.low ⟨g, o, none⟩ ea)]; exact hcl j hj

/-- What reading a length leaves. -/
inductive LenP (w w' : World) (r lo : Nat) (rest : List UInt8) (f : Bool) (e : Ending) : Prop
  | mk (z : Int) (rest' : List UInt8) (f' : Bool) (a' : Option Addr) (c' : Nat) (he : e = .returned (.int .i64 z)) (hd : De w' r lo rest' f' a' c') (hg : w.grownBy w' (some r)) (h1 : f = true → f' = true) (h2 : f = false → (one rest = some (z, rest') ∧ 0 ≤ z ∧ z ≤ 16384 ∧ f' = false) ∨ (f' = true ∧ (one rest = none ∨ ∃ s, one rest = some (z, s) ∧ (z < 0 ∨ 16384 < z)))) : LenP w w' r lo rest f e

set_option maxHeartbeats 800000 in
theorem lengthI (r lo : Nat) (rest : List UInt8) (f : Bool) (a : Option Addr) (c : Nat) (w : World) (hd : De w r lo rest f a c) (hr : lo ≤ r) :
    Calls Tryd.prog 90 #[.pointer (some ⟨r, 0, none⟩)] w fun e w' => LenP w w' r lo rest f e := by
  have D := Hid.mk hd
  clear hd
  go_enter Tryd.func90, Tryd.ntmps90
  go_wp2_with fail
  refine (numberI r lo rest f a c _ D.out hr).mono ?_
  rintro e w1 ⟨z, rest1, f1, a1, c1, rfl, hd1, hg1, k1, k2⟩
  have D1 := Hid.mk hd1
  have G1 := Hid.mk hg1
  have K1 := Hid.mk k1
  have K2 := Hid.mk k2
  clear hd1 hg1 k1 k2 D
  cases hz : inB z 0 16384 with
  | true =>
    go_wp2_with (go_at_call 50; refine (inI _ _ _ _).mono ?_; rintro e w' ⟨rfl, hw'⟩; rw [hw']; clear hw')
    go_ret
    have hz' : 0 ≤ z ∧ z ≤ 16384 := by simpa [inB] using hz
    refine LenP.mk z rest1 f1 a1 c1 rfl D1.out G1.out K1.out (fun h => ?_)
    rcases K2.out h with ⟨h1, h2⟩ | ⟨h1, h2⟩
    · exact Or.inl ⟨h1, hz'.1, hz'.2, h2⟩
    · exact Or.inr ⟨h2, Or.inl h1⟩
  | false =>
    have x1 := blk_cell D1.out.x 1
    have y1 := blk_unfrozen D1.out.x 1
    simp only [List.getElem?_toArray, List.getElem?_cons_zero, List.getElem?_cons_succ] at x1
    go_wp2_with (go_at_call 50; refine (inI _ _ _ _).mono ?_; rintro e w' ⟨rfl, hw'⟩; rw [hw']; clear hw')
    go_ret
    have hz' : z < 0 ∨ 16384 < z := by simp [inB] at hz; omega
    have hg2 : w1.grownBy (w1.setCell ⟨r, 1, none⟩ (.bool true)) (some r) := gb_more (gb_refl _ _)
    have hd2 : De (w1.setCell ⟨r, 1, none⟩ (.bool true)) r lo (rest1.drop 0) true a1 c1 :=
      De.next (k := 0) D1.out hr (Nat.zero_le _) rfl (fun g o e => by rw [e]; split <;> rfl) (fun p hp => ⟨p, hp, rfl⟩) (blk_set D1.out.x 1 (.bool true)) hg2
    refine LenP.mk z (rest1.drop 0) true a1 c1 rfl hd2 (gb_trans G1.out hg2) (fun _ => rfl) (fun h => ?_)
    rcases K2.out h with ⟨h1, h2⟩ | ⟨h1, h2⟩
    · exact Or.inr ⟨rfl, Or.inr ⟨_, h1, hz'⟩⟩
    · exact Or.inr ⟨rfl, Or.inl h1⟩
end Go.Proofs.YtdhnjkcebaahcaaDoor.Dec
