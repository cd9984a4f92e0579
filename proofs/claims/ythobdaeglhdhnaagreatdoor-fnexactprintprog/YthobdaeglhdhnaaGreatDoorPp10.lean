import Derived.Test.YthobdaeglhdhnaaGreatDoorPp03
import Derived.Test.YthobdaeglhdhnaaGreatDoorPp02
import Derived.Lib.ItoaNum
import Derived.Lib.ItoaLen
import Derived.Lib.UnsafeStr
import Derived.OwnWalk
import Derived.Lib.Hide
import Derived.Lib.SmallJoins
import Derived.Lib.SlBytesConst
import Derived.ArgAppend
namespace Go.Proofs.YthobdaeglhdhnaaGreatDoor.Print
open Go Go.RowKit Go.Proofs.YthobdaeglhdhnaaGreatDoor.Mem
set_option linter.unusedVariables false

theorem infoB : (Tryz.prog.info? 5).map (fun i => (i.zero, i.size, i.bytes)) = some (some (.int .u8 0), 1, 1) := by kernel_rfl

/-- A row of bytes of the call's own, not nil. -/
def Own (B : Nat) (w' : World) (v : Value) (bs : List UInt8) : Prop := w'.ownsRow B 5 1 v bs.length (Lib.byteCells bs)

theorem own_new (w : World) (bs : List UInt8) (cs : Array Value) (hc : cs = (Lib.byteCells bs).toArray) (hl : bs.length ≤ 1000000) : Own w.heap.size (w.alloc (.cells cs 5)) (.slice (some ⟨w.heap.size, 0, none⟩) bs.length bs.length) bs := by
  subst hc
  refine ⟨by simp [Lib.byteCells], Or.inr ⟨w.heap.size, bs.length, _, rfl, Nat.le_refl _, blk_new _ _, Nat.le_refl _, by unfold maxLen; omega, by simp [Lib.byteCells], ?_⟩⟩
  simp only [Nat.mul_one]
  rw [List.take_of_length_le (by simp [Lib.byteCells])]

theorem dec_step {n : Nat} (h : ¬ n < 10) : Lib.decDigits n = Lib.decDigits (n / 10) ++ [UInt8.ofNat (48 + n % 10)] := by rw [Lib.decDigits, dif_neg h]
theorem dec_len : ∀ (k n : Nat), n < 10 ^ k → 1 ≤ k → (Lib.decDigits n).length ≤ k := by
  intro k
  induction k with
  | zero => intro n _ h; omega
  | succ m ih =>
    intro n hn _
    by_cases h : n < 10
    · rw [Lib.decDigits_one h]; simp
    · rw [dec_step h, List.length_append, List.length_singleton]
      have h1 : n / 10 < 10 ^ m := by rw [Nat.pow_succ] at hn; omega
      have h2 : 1 ≤ m := by
        rcases m with _ | m
        · simp at hn; omega
        · omega
      have := ih (n / 10) h1 h2
      omega
theorem u8_digit (d : Nat) (h : d < 10) : ((UInt8.ofNat (48 + d)).toNat : Int) = 48 + (d : Int) := by
  rw [UInt8.toNat_ofNat']; omega

set_option maxHeartbeats 1600000 in
set_option maxRecDepth 100000 in
theorem digits : ∀ (k : Nat) (z : Int) (w : World), z ≤ k → 0 ≤ z → z ≤ 1000000000000 → Calls Tryz.prog 43 #[.int .i64 z] w fun e w' => ∃ v, e = .returned v ∧ Own w.heap.size w' v (Lib.decDigits z.toNat) ∧ Below w.heap.size w w' := by
  intro k
  induction k with
  | zero =>
    intro z w hk h0 hn
    obtain rfl : z = 0 := by omega
    go_enter Tryz.func43, Tryz.ntmps43
    go_wp2
    go_ret
    exact ⟨_, rfl, by rw [Lib.decDigits_one (by omega)]; exact own_new w _ _ rfl (by simp), by go_grown⟩
  | succ m ih =>
    intro z w hk h0 hn
    by_cases hlt : z < 10
    · rw [Lib.decDigits_one (show z.toNat < 10 by omega)]
      have HU := Hid.mk (u8_digit z.toNat (by omega))
      go_enter Tryz.func43, Tryz.ntmps43
      go_wp2
      go_ret
      refine ⟨_, rfl, own_new w _ _ ?_ (by simp), by go_grown⟩
      have := HU.out
      simp [Lib.byteCells]; omega
    · have HD := Hid.mk (dec_len 13 (z.toNat / 10) (by omega) (by omega))
      have HU := Hid.mk (u8_digit (z.toNat % 10) (by omega))
      obtain ⟨i0, hi, hz0, hz1, hz2⟩ := info_parts infoB
      rw [dec_step (show ¬ z.toNat < 10 by omega)]
      have IH := Hid.mk (ih (z / 10))
      clear ih
      go_enter Tryz.func43, Tryz.ntmps43
      go_wp2_with fail
      refine (IH.out _ (by omega) (by omega) (by omega)).mono ?_
      rintro e w1 ⟨v1, rfl, hown, hb⟩
      rw [show (z / 10).toNat = z.toNat / 10 by omega] at hown
      have HO := Hid.mk hown
      have HB := Hid.mk hb
      clear hown hb
      go_wp2_with (at_builtin; refine wpList_append_own _ rfl _ _ 26 rfl w.heap.size 5 i0 (.int .u8 0) 1 1 Tryz.underlying26 hi hz0 hz1 hz2 rfl (by decide) _ _ _ rfl (HO.out.alloc _) ⟨w1.heap.size, 0, none⟩ 1 1 [Value.int .u8 (48 + z % 10)] rfl rfl (by intro j u' hj; match j, hj with | 0, hj => simp at hj; subst hj; simp [Addr.add]) (by intro u' hu'; simp at hu'; subst hu'; rfl) (by have := HD.out; unfold maxLen; omega) (by have := HD.out; omega) (by have := HB.out.size; simp; omega) ?_)
      intro v2 w2 hown2 hgrow _
      have hb2 : Below w.heap.size w w2 := (HB.out.alloc HB.out.size _).grown hgrow (by have := HB.out.size; simp; omega) (fun k hk => (HO.out.lt k hk).1)
      go_wp2
      go_ret
      refine ⟨v2, rfl, ?_, hb2⟩
      have hu := HU.out
      have e1 : Lib.byteCells (Lib.decDigits (z.toNat / 10) ++ [UInt8.ofNat (48 + z.toNat % 10)]) = Lib.byteCells (Lib.decDigits (z.toNat / 10)) ++ [Value.int .u8 (48 + z % 10)] := by
        rw [Lib.byteCells_append]
        simp only [Lib.byteCells, List.map_cons, List.map_nil, hu]
        rw [show ((z.toNat % 10 : Nat) : Int) = z % 10 by omega]
      unfold Own
      rw [e1, List.length_append, List.length_singleton]
      exact hown2

/-- The form of a row of bytes that has some. -/
theorem Own.form {B : Nat} {w : World} {v : Value} {bs : List UInt8} (h : Own B w v bs) (hp : 0 < bs.length) : ∃ g cap, v = .slice (some ⟨g, 0, none⟩) bs.length cap ∧ B ≤ g ∧ ∀ j u, (Lib.byteCells bs)[j]? = some u → w.cell? ((⟨g, 0, none⟩ : Addr).add j) = some u := by
  rcases h.2 with ⟨-, h0⟩ | ⟨g, cap, cur, hv, hg, hblk, -, -, -, ht⟩
  · omega
  · refine ⟨g, cap, hv, hg, fun j u hu => ?_⟩
    rw [Addr.add_mid, Nat.zero_add, blk_cell hblk j]
    have hj : j < (Lib.byteCells bs).length := (List.getElem?_eq_some_iff.1 hu).1
    rw [← ht] at hu
    rw [List.getElem?_take] at hu
    split at hu
    · simpa using hu
    · cases hu
theorem byteCells_one (bs : List UInt8) : ∀ u ∈ Lib.byteCells bs, u.oneCell' = true := by
  intro u hu
  simp only [Lib.byteCells, List.mem_map] at hu
  obtain ⟨b, _, rfl⟩ := hu
  rfl
theorem dec_pos (n : Nat) : 0 < (Lib.decDigits n).length := by
  by_cases h : n < 10
  · rw [Lib.decDigits_one h]; simp
  · rw [dec_step h]; simp

set_option maxHeartbeats 1600000 in
set_option maxRecDepth 100000 in
/-- The numeral of a number, by the specification's own text. -/
theorem decimal (z : Int) (w : World) (h0 : -1000000000000 ≤ z) (h1 : z ≤ 1000000000000) : Calls Tryz.prog 24 #[.int .i64 z] w fun e w' => ∃ v, e = .returned v ∧ Own w.heap.size w' v (Lib.itoa z) ∧ Below w.heap.size w w' := by
  by_cases hz : z < 0
  · rw [show Lib.itoa z = [45] ++ Lib.decDigits (-z).toNat from by unfold Lib.itoa; rw [if_pos hz]; simp only [List.singleton_append]; congr 2; omega]
    have HD := Hid.mk (dec_len 13 (-z).toNat (by omega) (by omega))
    obtain ⟨i0, hi, hz0, hz1, hz2⟩ := info_parts infoB
    have kc := fun (w : World) (C : Array Value) (n c : Nat) => Lib.run_convert_bytes_const (P := Tryz.prog) w 26 5 C n c Tryz.underlying26 Tryz.underlying5
    go_enter Tryz.func24, Tryz.ntmps24
    go_wp2_with fail
    refine (digits (-z).toNat (-z) _ (by omega) (by omega) (by omega)).mono ?_
    rintro e w1 ⟨v1, rfl, hown, hb⟩
    have HB := Hid.mk (below_then (w := w) (by go_grown) hb)
    have A1 := Hid.mk (blk_below (blk_new w _) hb)
    have HF := Hid.mk (Own.form hown (dec_pos _))
    clear hown hb
    obtain ⟨g, cap, hv, -, hc⟩ := HF.out
    rw [hv]
    have HC := Hid.mk hc
    clear hc HF hv
    go_wp2_with (at_builtin; refine wpList_append_grows _ rfl _ _ 26 rfl 5 i0 (.int .u8 0) 1 1 Tryz.underlying26 hi hz0 hz1 hz2 rfl (by decide) (some ⟨w.heap.size, 0, none⟩) 1 1 [Value.int .u8 45] rfl (by intro h; cases h) rfl ?o1 ⟨g, 0, none⟩ _ _ (Lib.byteCells (Lib.decDigits (-z).toNat)) rfl (by simp [Lib.byteCells]) HC.out (byteCells_one _) (by have := dec_pos (-z).toNat; omega) (by have := HD.out; unfold maxLen; omega) (by have := HD.out; omega) ?_)
    case o1 =>
      intro b hb j u hu
      injection hb with hb
      subst hb
      match j, hu with
      | 0, hu =>
        simp at hu; subst hu
        have := blk_cell A1.out 0
        simpa [Addr.add] using this
    · intro v2 w2 hown2 hgrow
      have hb2 : Below w.heap.size w w2 := HB.out.grown hgrow HB.out.size (fun k hk => by cases hk)
      have hs := HB.out.size
      go_wp2
      go_ret
      refine ⟨v2, rfl, ?_, hb2⟩
      unfold Own
      show w2.ownsRow w.heap.size 5 1 v2 ((Lib.decDigits (-z).toNat).length + 1) (Value.int .u8 45 :: Lib.byteCells (Lib.decDigits (-z).toNat))
      rw [Nat.add_comm]
      exact Joins.ownsRow_le hown2 hs
  · rw [show Lib.itoa z = Lib.decDigits z.toNat from by unfold Lib.itoa; rw [if_neg hz]]
    go_enter Tryz.func24, Tryz.ntmps24
    go_wp2_with fail
    refine (digits z.toNat z _ (by omega) (by omega) (by omega)).mono ?_
    rintro e w1 ⟨v1, rfl, hown, hb⟩
    go_wp2
    go_ret
    exact ⟨v1, rfl, hown, hb⟩
end Go.Proofs.YthobdaeglhdhnaaGreatDoor.Print
