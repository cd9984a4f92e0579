import Derived.Test.YthobdaeglhdhnaaGreatDoorPp17
import Derived.Test.YthobdaeglhdhnaaGreatDoorPp18
import Derived.Lib.OwnKind
import Derived.BigCall
import Derived.BigGuard
namespace Go.Proofs.YthobdaeglhdhnaaGreatDoor.Syn
open Go Go.RowKit Go.Sort Go.Proofs.YthobdaeglhdhnaaGreatDoor.Mem
open Go.Proofs.YthobdaeglhdhnaaGreatDoor.Print (Own infoB byteCells_one)
set_option linter.unusedVariables false
set_option linter.unusedSimpArgs false
attribute [local go_sem ↓] Go.wp_at_zero Go.wp_at_succ

/-- What an append leaves. -/
def App (B : Nat) (x : Value) (w : World) (t : List UInt8) (e : Ending) (w' : World) : Prop := ∃ v', e = .returned v' ∧ Own B w' v' t ∧ Kb B x v' w w'
/-- Several bytes of a row onto a row of the call's own. -/
theorem wpList_bytes {w : World} {ops : Array Oper} {rest : List Oper} {o : Oper} {a : Act} {Q : Exit → Act → World → Prop} (hgd : o.guard = none) (sl x : Operand)
    (ho : o.op = .call { callee := .builtin .append, args := #[sl, x], argTypes := #[26, 26] })
    (B : Nat) (v : Value) (bs : List UInt8) (hs : a.eval sl = v) (hown : Own B w v bs) (ad : Addr) (m c : Nat) (hx : a.eval x = .slice (some ad) m c) (b : List UInt8) (hm : m = b.length) (hc : ∀ j u, (Lib.byteCells b)[j]? = some u → w.cell? (ad.add j) = some u) (hB : B ≤ w.heap.size) (hl : bs.length + b.length ≤ 1000000000)
    (h : ∀ v' w', Own B w' v' (bs ++ b) → Kb B v v' w w' → wpList Tryz.prog ops Q rest (a.put o.dst v') w') : wpList Tryz.prog ops Q (o :: rest) a w := by
  subst hm
  obtain ⟨i0, hi, hz0, hz1, hz2⟩ := info_parts infoB
  refine wpList_append_own_at w hgd sl x 26 ho B 5 i0 (.int .u8 0) 1 1 Tryz.underlying26 hi hz0 hz1 hz2 rfl (by decide) v bs.length (Lib.byteCells bs) hs hown ad b.length c (Lib.byteCells b) hx (by rw [Lib.byteCells_length, Nat.mul_one]) hc (byteCells_one _) (by unfold maxLen; omega) (by omega) hB ?_
  intro v' w' h1 h2 _ h3
  exact h v' w' (own_of rfl rfl h1) (Kb.grown hown h2 h3 hB)
theorem dd_len {u : Nat} (hu : u < 18446744073709551616) : (Lib.decDigits u).length ≤ 20 := by
  rw [Lib.decDigits_length]
  by_cases h : u < 10
  · rw [Lib.nDigits_small h]; omega
  · have := Lib.numDigits_eq u (by omega) hu
    split at this <;> omega
set_option maxHeartbeats 6400000 in
set_option maxRecDepth 100000 in
theorem uintLow (B u : Nat) (hu : u < 100) (x : Value) (bs : List UInt8) (w : World) (hown : Own B w x bs) (hB : B ≤ w.heap.size) (hl : bs.length ≤ 900000000) :
    Calls Tryz.prog 71 #[x, .int .u64 u, .int .i64 10] w (App B x w (bs ++ Lib.decDigits u)) := by
  have hd := dd_len (u := u) (by omega)
  have HO := Hid.mk hown
  clear hown
  go_enter Tryz.func71, Tryz.ntmps71
  go_wp2_with fail
  refine (Any.internal_strconv_small (P := Tryz.prog) (ρ := Tryz.laysM176_ren) { Tryz.laysM176 with } u hu _).mono ?_
  rintro e w1 ⟨rfl, rfl⟩
  go_wp2_with (at_builtin; refine wpList_str rfl _ _ rfl B _ bs rfl HO.out (Lib.decDigits u) rfl hB (by omega) ?_)
  intro v2 w2 ho2 hk2
  have HO2 := Hid.mk ho2
  have HK2 := Hid.mk hk2
  clear ho2 hk2
  refine Hid.out ?_
  refine Lib.hid ?_
  go_wp2
  go_ret
  exact ⟨v2, rfl, HO2.out, HK2.out⟩
set_option maxHeartbeats 12800000 in
set_option maxRecDepth 100000 in
theorem uintHigh (B u : Nat) (hu : 100 ≤ u) (hu64 : u < 18446744073709551616) (x : Value) (bs : List UInt8) (w : World) (hown : Own B w x bs) (hB : B ≤ w.heap.size) (hl : bs.length ≤ 900000000) (htab : Lib.TabIs Tryz.prog w "internal/strconv.uint64pow10" .u64 Lib.pow10Tab) :
    Calls Tryz.prog 71 #[x, .int .u64 u, .int .i64 10] w (App B x w (bs ++ Lib.decDigits u)) := by
  have hd := dd_len hu64
  have hn : Lib.nDigits u ≤ 20 := by rw [← Lib.decDigits_length]; exact hd
  have HO := Hid.mk hown
  have HT := Hid.mk htab
  have hsl : ∀ W, (Instr.sliceAt 128 (.pointer (some ⟨w.heap.size, 0, none⟩)) none (some (.int .i64 (Lib.nDigits u : Int))) none).run Tryz.prog W = .ok (.slice (some ⟨w.heap.size, 0, none⟩) (Lib.nDigits u) 24) W := fun W => by
    have hal : Tryz.prog.arrayLen 128 = 24 := by rfl
    rw [run_sliceAt_array_h W 128 ⟨w.heap.size, 0, none⟩ (by rfl) .i64 (Lib.nDigits u : Int) (by omega) (by rw [hal]; omega)]
    go_simp
  have hH := Lib.holds_zero0 w 128 (Lib.nDigits u) (by omega)
  have hf := Any.internal_strconv_formatBase10 (P := Tryz.prog) (ρ := Tryz.laysM176_ren) { Tryz.laysM176 with } w.heap.size 0 24 u (Array.replicate (Lib.nDigits u) 0) (w.alloc (.cells Lib.zeros24 128)) hH (by rw [Array.size_replicate]; exact Lib.lt_pow_nDigits u) hu64 (by rw [Array.size_replicate]; omega)
  rw [Array.size_replicate] at hf
  have HH := Hid.mk hH
  have HF := Hid.mk hf
  have iu : (100 : Int) ≤ (u : Int) := by omega
  clear hown htab hH hf
  go_enter Tryz.func71, Tryz.ntmps71
  go_wp2_with fail
  refine (Any.internal_strconv_numDigits (P := Tryz.prog) (ρ := Tryz.laysM176_ren) { Tryz.laysM176 with } u (by omega) hu64 _ (Lib.tabIs_alloc HT.out _)).mono ?_
  rintro e w1 ⟨rfl, rfl⟩
  go_wp2_with fail
  refine HF.out.mono ?_
  rintro e w1 ⟨rfl, k, v', dk, rfl, hF⟩
  have hcell : ∀ j u', (Lib.byteCells (Lib.decDigits u))[j]? = some u' → ((putRow (fun (b : UInt8) => Value.int .u8 (b.toNat : Int)) (w.alloc (.cells Lib.zeros24 128)) w.heap.size 0 dk).drewN k).cell? ((⟨w.heap.size, 0, none⟩ : Addr).add j) = some u' := by
    intro j u' hj
    have hjl : j < (Lib.decDigits u).length := by rw [← Lib.byteCells_length]; exact (List.getElem?_eq_some_iff.1 hj).1
    have e5 : (Lib.byteCells (Lib.decDigits u))[j]? = some (Value.int .u8 ((Lib.decDigits u)[j].toNat : Int)) := by simp [Lib.byteCells, hjl]
    rw [e5] at hj
    cases hj
    rw [Lib.row_is_numeral hF j hjl, Lib.add_plain, World.cell?_drewN]
    exact cell?_putRow (fun (b : UInt8) => Value.int .u8 (b.toNat : Int)) _ w.heap.size 0 _ dk HH.out (by rw [hF.size, Array.size_replicate]) j (by rw [hF.size]; rw [Lib.decDigits_length] at hjl; exact hjl)
  obtain ⟨os, eo⟩ := Lib.fin_at w (.cells Lib.zeros24 128) dk k 0
  have hb : Below w.heap.size w ((putRow (fun (b : UInt8) => Value.int .u8 (b.toNat : Int)) (w.alloc (.cells Lib.zeros24 128)) w.heap.size 0 dk).drewN k) := by rw [eo]; exact Lib.below_grow w.heap.size w (Nat.le_refl _) k os
  generalize (putRow (fun (b : UInt8) => Value.int .u8 (b.toNat : Int)) (w.alloc (.cells Lib.zeros24 128)) w.heap.size 0 dk).drewN k = W2 at hcell hb ⊢
  have HO1 := Hid.mk (own_bel' HO.out hb)
  have HK1 := Hid.mk (Kb.of (x := x) hb hB)
  have hB1 := Nat.le_trans hB hb.size
  have HC := Hid.mk hcell
  clear eo HH HF HO HT hb hcell hF
  go_wp2_with (at_builtin; refine wpList_bytes rfl _ _ rfl B _ bs rfl HO1.out ⟨w.heap.size, 0, none⟩ (Lib.nDigits u) 24 rfl (Lib.decDigits u) (Lib.decDigits_length u).symm HC.out hB1 (by omega) ?_)
  intro v2 w2 ho2 hk2
  have HO2 := Hid.mk ho2
  have HK2 := Hid.mk (HK1.out.trans hk2)
  clear ho2 hk2
  refine Hid.out ?_
  refine Lib.hid ?_
  go_wp2
  go_ret
  exact ⟨v2, rfl, HO2.out, HK2.out⟩
set_option maxHeartbeats 6400000 in
set_option maxRecDepth 100000 in
/-- strconv.AppendInt at base 10. -/
theorem appendIntI (B : Nat) (z : Int) (h0 : -9223372036854775807 ≤ z) (h1 : z ≤ 9223372036854775807) (x : Value) (bs : List UInt8) (w : World) (hown : Own B w x bs) (hB : B ≤ w.heap.size) (hl : bs.length ≤ 800000000) (htab : Lib.TabBelow Tryz.prog B w "internal/strconv.uint64pow10" .u64 Lib.pow10Tab) :
    Calls Tryz.prog 33 #[x, .int .i64 z, .int .i64 10] w (App B x w (bs ++ Lib.itoa z)) := by
  have hU : Hid (∀ (u : Nat) (x : Value) (bs : List UInt8) (w : World), u ≤ 9223372036854775807 → Own B w x bs → B ≤ w.heap.size → bs.length ≤ 900000000 → Lib.TabBelow Tryz.prog B w "internal/strconv.uint64pow10" .u64 Lib.pow10Tab → Calls Tryz.prog 71 #[x, .int .u64 u, .int .i64 10] w (App B x w (bs ++ Lib.decDigits u))) := by
    intro u x bs w hu hown hB hl htab
    by_cases h : u < 100
    · exact uintLow B u h x bs w hown hB hl
    · exact uintHigh B u (by omega) (by omega) x bs w hown hB hl htab.here
  have HO := Hid.mk hown
  have HT := Hid.mk htab
  clear hown htab
  have hI : Hid (Calls Tryz.prog 51 #[x, .int .i64 z, .int .i64 10] w (App B x w (bs ++ Lib.itoa z))) := by
    unfold Hid
    by_cases hneg : z < 0
    · obtain ⟨u, rfl⟩ : ∃ u : Nat, z = -(u : Int) := ⟨z.natAbs, by omega⟩
      have hwr : IntKind.u64.wrap (-IntKind.u64.wrap (-(u : Int))) = (u : Int) := by rw [IntKind.wrap_u64, IntKind.wrap_u64]; omega
      have hit := Hid.mk (Lib.itoa_neg u (by omega))
      have hu9 : u ≤ 9223372036854775807 := by omega
      clear h0 h1
      go_enter Tryz.func51, Tryz.ntmps51
      go_wp2_with (at_builtin; refine wpList_byte rfl _ _ rfl B _ bs rfl (own_bel' HO.out (below_alloc' (Below.refl _ _) _)) _ _ rfl 45 (blk_cell (blk_new _ _) 0) (by simp; omega) (by omega) ?_)
      intro v1 w1 ho hk
      have HO1 := Hid.mk ho
      have HK1 := Hid.mk (((Kb.refl B x w).alloc hB _).trans hk)
      have hB1 := Nat.le_trans hB HK1.out.1.size
      have HT1 := Hid.mk (Lib.TabBelow.on HT.out HK1.out.1)
      clear ho hk HO HT
      refine Hid.out ?_
      refine Lib.hid ?_
      go_wp2_with fail
      refine (hU.out u _ (bs ++ [45]) _ hu9 HO1.out hB1 (by simp; omega) HT1.out).mono ?_
      rintro e w2 ⟨v2, rfl, ho, hk⟩
      have HO2 := Hid.mk ho
      have HK2 := Hid.mk (HK1.out.trans hk)
      clear ho hk
      go_wp2
      go_ret
      exact ⟨v2, rfl, by have z := HO2.out; rw [hit.out]; simpa [List.append_assoc] using z, HK2.out⟩
    · obtain ⟨u, rfl⟩ : ∃ u : Nat, z = u := ⟨z.toNat, by omega⟩
      have hit := Hid.mk (Lib.itoa_nonneg u)
      have hd : decide ((u : Int) < 0) = false := by simp
      clear hneg
      go_enter Tryz.func51, Tryz.ntmps51
      go_wp2_with fail
      refine (hU.out u _ bs _ (by omega) HO.out hB (by omega) HT.out).mono ?_
      rintro e w1 ⟨v1, rfl, ho, hk⟩
      have HO1 := Hid.mk ho
      have HK1 := Hid.mk hk
      clear ho hk
      go_wp2
      go_ret
      exact ⟨v1, rfl, by have z := HO1.out; rw [hit.out]; exact z, HK1.out⟩
  clear hU HO HT
  go_enter Tryz.func33, Tryz.ntmps33
  go_wp2_with fail
  refine hI.out.mono ?_
  rintro e w1 ⟨v1, rfl, ho, hk⟩
  have HO1 := Hid.mk ho
  have HK1 := Hid.mk hk
  clear ho hk
  go_wp2
  go_ret
  exact ⟨v1, rfl, HO1.out, HK1.out⟩
end Go.Proofs.YthobdaeglhdhnaaGreatDoor.Syn
