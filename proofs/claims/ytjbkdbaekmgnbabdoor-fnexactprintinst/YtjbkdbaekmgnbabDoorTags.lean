import Derived.Test.YtjbkdbaekmgnbabDoorDigits
import Derived.WalkLawsBesides
namespace Go.Proofs.YtjbkdbaekmgnbabDoor.Print
open Go Go.RowKit Go.Proofs.YtjbkdbaekmgnbabDoor.Mem
set_option linter.unusedVariables false

def bit (s : Int) (t : Nat) : Bool := (s.toNat / 2 ^ t) % 2 == 1
/-- The letters of a set's tags below k. -/
def tg (s : Int) : Nat → List UInt8
  | 0 => []
  | k + 1 => if bit s k then tg s k ++ [UInt8.ofNat (97 + k)] else tg s k
theorem tg_len (s : Int) (k : Nat) : (tg s k).length ≤ k := by
  induction k with
  | zero => simp [tg]
  | succ m ih => unfold tg; split <;> (try simp) <;> omega
def tagText (s : Int) : List UInt8 := if tg s 16 = [] then [45] else tg s 16

theorem bit_eq (s : Int) (k : Nat) (h : 0 ≤ s) : ((s / 2 ^ k).tmod 2 == 1) = bit s k := by
  obtain ⟨n, rfl⟩ := Int.eq_ofNat_of_zero_le h
  have e : ((n : Int) / 2 ^ k) = ((n / 2 ^ k : Nat) : Int) := by
    rw [Int.natCast_ediv]; norm_cast
  rw [e, Int.tmod_eq_emod_of_nonneg (Int.natCast_nonneg _)]
  unfold bit
  simp only [Int.toNat_natCast]
  generalize n / 2 ^ k = q
  rw [Bool.eq_iff_iff]
  simp
  omega
theorem tg_no {s : Int} {k : Nat} (h : bit s k = false) : tg s (k + 1) = tg s k := by rw [tg, if_neg (by rw [h]; exact Bool.false_ne_true)]
theorem tg_yes {s : Int} {k : Nat} (h : bit s k = true) : tg s (k + 1) = tg s k ++ [UInt8.ofNat (97 + k)] := by rw [tg, if_pos h]

/-- Bytes that lie somewhere and can be read. -/
def Rb (w : World) (g o n : Nat) (bs : List UInt8) : Prop := n = bs.length ∧ g < w.heap.size ∧ ∀ j u, (Lib.byteCells bs)[j]? = some u → w.cell? ((⟨g, o, none⟩ : Addr).add j) = some u
theorem Rb.below {w w' : World} {g o n : Nat} {bs : List UInt8} (h : Rb w g o n bs) (hb : Below w.heap.size w w') : Rb w' g o n bs :=
  ⟨h.1, Nat.lt_of_lt_of_le h.2.1 hb.size, fun j u hu => by rw [hb.cell (by rw [Addr.add_mid]; exact h.2.1)]; exact h.2.2 j u hu⟩
theorem Rb.alloc {w : World} {g o n : Nat} {bs : List UInt8} (h : Rb w g o n bs) (x : Obj) : Rb (w.alloc x) g o n bs := h.below ((Below.refl _ _).alloc (Nat.le_refl _) x)
theorem Rb.new (w : World) (bs : List UInt8) (cs : Array Value) (t : TypeId) (fr : Nat × Nat) (hc : cs = (Lib.byteCells bs).toArray) : Rb (w.alloc (.cells cs t fr)) w.heap.size 0 bs.length bs := by
  subst hc
  refine ⟨rfl, by simp, fun j u hu => ?_⟩
  rw [Addr.add_mid, Nat.zero_add, blk_cell (blk_new _ _) j]
  simpa using hu
theorem Own.rb {B : Nat} {w : World} {v : Value} {bs : List UInt8} (h : Own B w v bs) (hp : 0 < bs.length) : ∃ g o n c, v = .slice (some ⟨g, o, none⟩) n c ∧ B ≤ g ∧ Rb w g o n bs := by
  obtain ⟨g, cap, hv, hg, hc⟩ := Own.form h hp
  refine ⟨g, 0, bs.length, cap, hv, hg, rfl, ?_, hc⟩
  cases bs with
  | nil => simp at hp
  | cons b r =>
    have := hc 0 _ rfl
    rw [Addr.add_mid] at this
    exact World.block_lt_of_cell? w _ this
theorem Own.shape {B : Nat} {w : World} {v : Value} {bs : List UInt8} (h : Own B w v bs) : ∃ a c, v = .slice a bs.length c := by
  rcases Joins.ownsRow_forms h with ⟨rfl, h0⟩ | ⟨g, cap, rfl⟩
  · exact ⟨none, 0, by rw [h0]⟩
  · exact ⟨_, _, rfl⟩
theorem own_empty (w : World) (cs : Array Value) (h : cs = #[]) : Own w.heap.size (w.alloc (.cells cs 5)) (.slice (some ⟨w.heap.size, 0, none⟩) 0 0) [] := by
  have := own_new w [] cs (by rw [h]; rfl) (by simp)
  exact this
theorem u8_letter (d : Nat) (h : d < 16) : ((UInt8.ofNat (97 + d)).toNat : Int) = 97 + (d : Int) := by
  rw [UInt8.toNat_ofNat']; omega
theorem own_snoc {B : Nat} {w : World} {v : Value} {bs : List UInt8} {b : UInt8} {z : Int} (hz : (b.toNat : Int) = z) (h : w.ownsRow B 5 1 v (bs.length + 1) (Lib.byteCells bs ++ [Value.int .u8 z])) : Own B w v (bs ++ [b]) := by
  unfold Own
  rw [List.length_append, List.length_singleton, Lib.byteCells_append]
  simp only [Lib.byteCells, List.map_cons, List.map_nil, hz] at *
  exact h

theorem size_drew (w : World) : w.drew.heap.size = w.heap.size := rfl
theorem itoa_pos (z : Int) : 0 < (Lib.itoa z).length := by
  unfold Lib.itoa
  split
  · simp
  · exact dec_pos _
theorem decimalR (z : Int) (w : World) (h0 : -1000000000000 ≤ z) (h1 : z ≤ 1000000000000) : Calls Tryd.prog 63 #[.int .i64 z] w fun e w' => ∃ g o n c, e = .returned (.slice (some ⟨g, o, none⟩) n c) ∧ w.heap.size ≤ g ∧ Rb w' g o n (Lib.itoa z) ∧ Below w.heap.size w w' := by
  refine (decimal z w h0 h1).mono ?_
  rintro e w1 ⟨v, rfl, ho, hb⟩
  obtain ⟨g, o, n, c, rfl, hg, hr⟩ := Own.rb ho (itoa_pos z)
  exact ⟨g, o, n, c, rfl, hg, hr, hb⟩

set_option maxHeartbeats 1600000 in
set_option maxRecDepth 100000 in
theorem tagTextS (s : Int) (w : World) (h0 : 0 ≤ s) (h1 : s ≤ 65535) : Calls Tryd.prog 64 #[.int .i64 s] w fun e w' => ∃ g o n c, e = .returned (.slice (some ⟨g, o, none⟩) n c) ∧ w.heap.size ≤ g ∧ Rb w' g o n (tagText s) ∧ Below w.heap.size w w' := by
  obtain ⟨i0, hi, hz0, hz1, hz2⟩ := info_parts infoB
  have kc := fun (w : World) (C : Array Value) (n c : Nat) => Lib.run_convert_bytes_const (P := Tryd.prog) w 28 5 C n c Tryd.underlying28 Tryd.underlying5
  go_enter Tryd.func64, Tryd.ntmps64
  go_wp2
  go_loopw [3, 4] (fun v i wr => ∃ k : Nat, k ≤ 16 ∧ i = .int .i64 k ∧ Hid (Own w.heap.size wr v (tg s k)) ∧ Hid (Below w.heap.size w wr)) (fun _ i _ => 16 - (intOf i).toNat)
  case atStart => exact ⟨0, by omega, rfl, own_empty w _ rfl, (Below.refl _ _).alloc (Nat.le_refl _) _⟩
  case round =>
    obtain ⟨k, hk, rfl, ho, hb⟩ := hrel
    have hl := tg_len s k
    obtain ⟨a, c, hv⟩ := Own.shape ho.out
    rw [hv] at ho ⊢
    clear hv
    by_cases hlt : k < 16
    · have k0 : (0 : Int) ≤ (k : Int) := by omega
      have k1 : (k : Int) < 16 := by omega
      have HU := Hid.mk (u8_letter k hlt)
      cases hbt : bit s k with
      | false =>
        have hq : ((s / 2 ^ k).tmod 2 == 1) = false := by rw [bit_eq s k h0]; exact hbt
        have ho' : Hid (Own w.heap.size wr (.slice a (tg s k).length c) (tg s (k + 1))) := by rw [tg_no hbt]; exact ho
        clear hbt
        go_wp2
        exact ⟨⟨k + 1, by omega, by go_num, ho', hb⟩, by simp [intOf]; omega⟩
      | true =>
        have hq : ((s / 2 ^ k).tmod 2 == 1) = true := by rw [bit_eq s k h0]; exact hbt
        have htg := Hid.mk (tg_yes hbt)
        clear hbt
        go_wp2_with (at_builtin; refine wpList_append_own _ rfl _ _ 28 rfl w.heap.size 5 i0 (.int .u8 0) 1 1 Tryd.underlying28 hi hz0 hz1 hz2 rfl (by decide) _ _ _ rfl (ho.out.alloc _) ⟨wr.heap.size, 0, none⟩ 1 1 [Value.int .u8 (97 + k)] rfl rfl (by intro j u' hj; match j, hj with | 0, hj => simp at hj; subst hj; simp [Addr.add]) (by intro u' hu'; simp at hu'; subst hu'; rfl) (by unfold maxLen; omega) (by omega) (by have := hb.out.size; simp; omega) ?_)
        intro v2 w2 hown2 hgrow _
        have hb2 : Hid (Below w.heap.size w w2) := (hb.out.alloc hb.out.size _).grown hgrow (by have := hb.out.size; simp; omega) (fun k hk => (ho.out.lt k hk).1)
        have ho2 : Hid (Own w.heap.size w2 v2 (tg s (k + 1))) := by rw [htg.out]; exact own_snoc HU.out hown2
        clear hown2 hgrow
        go_wp2
        exact ⟨⟨k + 1, by omega, by go_num, ho2, hb2⟩, by simp [intOf]; omega⟩
    · obtain rfl : k = 16 := by omega
      by_cases hn : tg s 16 = []
      · have HT : Hid (tagText s = [45]) := by unfold Hid tagText; rw [if_pos hn]
        have hln : (tg s 16).length = 0 := by rw [hn]; rfl
        rw [hln]
        clear hn hln
        go_wp2
        go_ret
        exact ⟨_, _, _, _, rfl, hb.out.size, by rw [HT.out]; exact Rb.new _ [45] _ _ _ rfl, hb.out.alloc hb.out.size _⟩
      · have hln : (((tg s 16).length : Int) == 0) = false := by
          simp; exact hn
        have HT : Hid (tagText s = tg s 16) := by unfold Hid tagText; rw [if_neg hn]
        have hp : 0 < (tg s 16).length := List.length_pos_iff.2 hn
        clear hn
        obtain ⟨g, o, n, c', hv, hg, hr⟩ := Own.rb ho.out hp
        have HR := Hid.mk hr
        have HG := Hid.mk hg
        clear hr hg
        injection hv with hv1 hv2 hv3
        subst hv1
        subst hv3
        have hv2' := Hid.mk hv2
        clear hv2
        go_wp2
        go_ret
        exact ⟨_, _, _, _, rfl, HG.out, by rw [HT.out, hv2'.out]; exact HR.out, hb.out⟩
end Go.Proofs.YtjbkdbaekmgnbabDoor.Print
