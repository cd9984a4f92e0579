import Derived.Test.YtdhnjkcebaahcaaGreatDoorPlainI
import Derived.Lib.BytesEntry
import Derived.WalkSmall
namespace Go.Proofs.YtdhnjkcebaahcaaGreatDoor.Parse
open Go Go.RowKit Go.Proofs.YtdhnjkcebaahcaaGreatDoor.Mem
set_option linter.unusedVariables false
set_option linter.unusedSimpArgs false
attribute [local go_sem ↓] Go.wp_at_zero Go.wp_at_succ

/-- The part ahead of the first sep, and the part behind it. -/
def hd (sep : UInt8) (bs : List UInt8) : List UInt8 := bs.takeWhile (fun b => b != sep)
def tl (sep : UInt8) (bs : List UInt8) : List UInt8 := bs.drop ((hd sep bs).length + 1)
theorem hd_at {bs : List UInt8} {sep : UInt8} {k : Nat} (h : Lib.indexByte bs sep = k) : k < bs.length ∧ hd sep bs = bs.take k ∧ tl sep bs = bs.drop (k + 1) ∧ sep ∈ bs := by
  obtain ⟨hk, e, hn⟩ := at_index h
  have h1 : hd sep bs = bs.take k := by
    unfold hd
    generalize ha : bs.take k = x at *
    generalize hb : bs.drop (k + 1) = y at *
    rw [e, List.takeWhile_append_of_pos (by intro a hm; simp; intro e'; subst e'; exact hn hm)]
    simp
  refine ⟨hk, h1, ?_, ?_⟩
  · unfold tl
    rw [h1, List.length_take, Nat.min_eq_left (by omega)]
  · rw [e]; simp
theorem hd_none {bs : List UInt8} {sep : UInt8} (h : sep ∉ bs) : hd sep bs = bs ∧ tl sep bs = [] := by
  have h1 : hd sep bs = bs := by
    have := List.takeWhile_append_of_pos (p := fun b => b != sep) (l₁ := bs) (l₂ := []) (by intro a hm; simp; intro e'; subst e'; exact h hm)
    simpa [hd] using this
  refine ⟨h1, ?_⟩
  unfold tl
  rw [h1]
  exact List.drop_eq_nil_of_le (by omega)
theorem split_hd (sep : UInt8) (bs : List UInt8) : split sep bs = hd sep bs :: (if sep ∈ bs then split sep (tl sep bs) else []) := by
  by_cases h : sep ∈ bs
  · rw [if_pos h]
    have hi : 0 ≤ Lib.indexByte bs sep := by
      have := Lib.indexByte_ge bs sep
      by_cases h1 : Lib.indexByte bs sep = -1
      · exact absurd h (index_none h1)
      · omega
    obtain ⟨k, hk⟩ := Int.eq_ofNat_of_zero_le hi
    obtain ⟨h1, e, hn⟩ := at_index hk
    obtain ⟨-, e1, e2, -⟩ := hd_at hk
    rw [e1, e2]
    conv => lhs; rw [e]
    exact split_cut hn
  · rw [if_neg h, split_no h, (hd_none h).1]

/-- A row of bytes below block B, or of no byte. -/
def Txt (B : Nat) (w : World) (v : Value) (bs : List UInt8) : Prop :=
  ∃ p c, v = .slice p bs.length c ∧ bs.length ≤ c ∧ ((p = none ∧ c = 0) ∨ ∃ g o, p = some ⟨g, o, none⟩ ∧ ∀ j (h : j < bs.length), g < B ∧ w.cell? ⟨g, o + j, none⟩ = some (.int .u8 (bs[j].toNat : Int)))
theorem Txt.below {B : Nat} {w w' : World} {v : Value} {bs : List UInt8} (h : Txt B w v bs) (hb : Below B w w') : Txt B w' v bs := by
  obtain ⟨p, c, e, hc, h⟩ := h
  refine ⟨p, c, e, hc, ?_⟩
  rcases h with h | ⟨g, o, e1, h⟩
  · exact Or.inl h
  · refine Or.inr ⟨g, o, e1, fun j hj => ⟨(h j hj).1, ?_⟩⟩
    rw [hb.cell (p := ⟨g, o + j, none⟩) (h j hj).1]; exact (h j hj).2
theorem Txt.rd {B : Nat} {w : World} {v : Value} {bs : List UInt8} (h : Txt B w v bs) : ∃ p c, v = .slice p bs.length c ∧ bs.length ≤ c ∧ ((p = none ∧ c = 0) ∨ ∃ g o, p = some ⟨g, o, none⟩) ∧ Rd w p bs := by
  obtain ⟨p, c, e, hc, h⟩ := h
  rcases h with ⟨rfl, rfl⟩ | ⟨g, o, rfl, h⟩
  · exact ⟨none, 0, e, hc, Or.inl ⟨rfl, rfl⟩, fun j hj => by omega⟩
  · exact ⟨_, c, e, hc, Or.inr ⟨g, o, rfl⟩, fun j hj => ⟨g, o, rfl, (h j hj).2⟩⟩
theorem Txt.nil (B : Nat) (w : World) : Txt B w (.slice none 0 0) [] := ⟨none, 0, rfl, Nat.le_refl _, Or.inl ⟨rfl, rfl⟩⟩
theorem Txt.take {B : Nat} {w : World} {p : Option Addr} {c : Nat} {bs : List UInt8} {n : Nat} (h : Txt B w (.slice p n c) bs) (k : Nat) (hk : k ≤ bs.length) : Txt B w (.slice p k c) (bs.take k) := by
  obtain ⟨p', c', e, hc, h⟩ := h
  injection e with e1 e2 e3
  subst e1 e2 e3
  refine ⟨p, c, by rw [List.length_take, Nat.min_eq_left hk], by rw [List.length_take]; omega, ?_⟩
  rcases h with h | ⟨g, o, e1, h⟩
  · exact Or.inl h
  · refine Or.inr ⟨g, o, e1, fun j hj => ?_⟩
    rw [List.length_take] at hj
    rw [List.getElem_take]
    exact h j (by omega)
theorem Txt.drop {B : Nat} {w : World} {g o c : Nat} {bs : List UInt8} {n : Nat} (h : Txt B w (.slice (some ⟨g, o, none⟩) n c) bs) (k : Nat) (hk : k ≤ bs.length) : Txt B w (.slice (some ⟨g, o + k, none⟩) (n - k) (c - k)) (bs.drop k) := by
  obtain ⟨p', c', e, hc, h⟩ := h
  injection e with e1 e2 e3
  subst e1 e2 e3
  refine ⟨_, _, by rw [List.length_drop], by rw [List.length_drop]; omega, Or.inr ⟨g, o + k, rfl, fun j hj => ?_⟩⟩
  rcases h with ⟨h, -⟩ | ⟨g', o', e1, h⟩
  · cases h
  · injection e1 with e1
    injection e1 with e1 e2
    subst e1 e2
    rw [List.length_drop] at hj
    rw [List.getElem_drop, Nat.add_assoc]
    exact h (k + j) (by omega)
theorem Txt.end {B : Nat} {w : World} (g o : Nat) (c : Nat) : Txt B w (.slice (some ⟨g, o, none⟩) 0 c) [] := ⟨_, _, rfl, by simp, Or.inr ⟨g, o, rfl, fun j hj => by simp at hj⟩⟩

def ints (bs : List UInt8) : List Int := bs.map (fun b => (b.toNat : Int))
theorem bytes_ints (bs : List UInt8) : Lib.bytesOf (ints bs) = bs := by
  unfold Lib.bytesOf ints
  rw [List.map_map]
  conv => rhs; rw [← List.map_id bs]
  apply List.map_congr_left
  intro b _
  simp
theorem Rd.ints {w : World} {g o : Nat} {bs : List UInt8} (h : Rd w (Option.some ⟨g, o, none⟩) bs) : ∀ i, i < bs.length → w.cell? ⟨g, o + i, none⟩ = Option.some (.int .u8 ((Parse.ints bs).getD i 0)) := fun i hi => by
  rw [h.at i hi]
  simp [Parse.ints, List.getD, hi]

theorem run_countBytes {P : Program} (w : World) (g o n c : Nat) (bs : List UInt8) (hn : n = bs.length) (h : Rd w (some ⟨g, o, none⟩) bs) (sep : UInt8) :
    (Extern.BytealgCount.count #[.slice (some ⟨g, o, none⟩) n c, .int .u8 (sep.toNat : Int)]).run P w = .ok (.int .i64 (bs.count sep : Nat)) w := by
  have hl := Lib.run_loadBytesX (P := P) w (ints bs) ⟨g, o, none⟩ .empty (fun j x hj => by
    have hjl : j < bs.length := by have := (List.getElem?_eq_some_iff.1 hj).1; simpa [ints] using this
    have e : (⟨g, o, none⟩ : Addr).add j = ⟨g, o + j, none⟩ := by unfold Addr.add; split <;> simp_all
    rw [e, h.ints j hjl, List.getD_eq_getElem?_getD, hj]
    rfl)
  have hx : (ints bs).length = n := by rw [hn]; simp [ints]
  rw [hx, bytes_ints] at hl
  have he : (⟨ByteArray.empty.data ++ bs.toArray⟩ : ByteArray) = ⟨bs.toArray⟩ := by
    apply ByteArray.ext
    show (#[] : Array UInt8) ++ bs.toArray = bs.toArray
    simp
  rw [he] at hl
  have hs := Lib.run_countString (P := P) ⟨bs.toArray⟩ (sep.toNat : Int) w
  have hf : ∀ v, Extern.BytealgCount.count #[v, .int .u8 (sep.toNat : Int)] = (Extern.Bytes.bytesOf v >>= fun b => Extern.BytealgCount.count #[.string b, .int .u8 (sep.toNat : Int)]) := fun v => rfl
  rw [hf]
  simp only [Extern.Bytes.bytesOf, Sem.run_bind, Sem.run_pure, hl, Result.andThen]
  rw [hs]
  simp [Lib.countByte]

/-! The functions of package bytes at a separator of one byte. -/
set_option maxHeartbeats 1600000 in
set_option maxRecDepth 1000000 in
theorem indexByteI (B : Nat) (v : Value) (bs : List UInt8) (sep : UInt8) (w : World) (h : Txt B w v bs) :
    Calls Tryz.prog 61 #[v, .int .u8 (sep.toNat : Int)] w fun e w' => e = .returned (.int .i64 (Lib.indexByte bs sep)) ∧ w' = w := by
  obtain ⟨p, c, rfl, hc, hp, hr⟩ := h.rd
  rcases hp with ⟨rfl, rfl⟩ | ⟨g, o, rfl⟩
  · obtain rfl : bs = [] := List.eq_nil_of_length_eq_zero (by omega)
    go_enter Tryz.func61, Tryz.ntmps61
    go_wp2
    rw [run_callFunc_extern Tryz.func76 (by kernel_rfl) (by kernel_rfl) (by kernel_rfl) (e := Extern.BytealgIndexByte.indexByte) (by kernel_rfl), Lib.run_indexByteNil]
    simp only [Result.andThen]
    rw [Oper.upon_value]
    go_wp2
    go_ret
    exact ⟨rfl, rfl⟩
  · have hrun := Lib.run_indexByteSlice (P := Tryz.prog) w g o bs.length c (ints bs) (by simp [ints]) hr.ints (sep.toNat : Int)
    rw [bytes_ints, show ((sep.toNat : Int)).toNat.toUInt8 = sep by simp] at hrun
    go_enter Tryz.func61, Tryz.ntmps61
    go_wp2
    rw [run_callFunc_extern Tryz.func76 (by kernel_rfl) (by kernel_rfl) (by kernel_rfl) (e := Extern.BytealgIndexByte.indexByte) (by kernel_rfl), hrun]
    simp only [Result.andThen]
    rw [Oper.upon_value]
    go_wp2
    go_ret
    exact ⟨rfl, rfl⟩
set_option maxHeartbeats 1600000 in
set_option maxRecDepth 1000000 in
theorem indexI (B : Nat) (v : Value) (bs : List UInt8) (sep : UInt8) (z : Int) (g2 d : Nat) (w : World) (h : Txt B w v bs) (hz : z = (sep.toNat : Int)) (h2 : w.cell? ⟨g2, 0, none⟩ = some (.int .u8 z)) :
    Calls Tryz.prog 48 #[v, .slice (some ⟨g2, 0, none⟩) 1 d] w fun e w' => e = .returned (.int .i64 (Lib.indexByte bs sep)) ∧ w' = w := by
  have H := Hid.mk h
  have HZ := Hid.mk hz
  clear h hz
  go_enter Tryz.func48, Tryz.ntmps48
  go_wp2_with (go_at_call 61; rw [HZ.out]; refine (indexByteI B v bs sep _ H.out).mono ?_; rintro e w1 ⟨rfl, rfl⟩)
  go_ret
  exact ⟨rfl, rfl⟩
end Go.Proofs.YtdhnjkcebaahcaaGreatDoor.Parse
