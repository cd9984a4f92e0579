import Derived.Test.YtdhnjkcebaahcaaDoorDigits
import Derived.WalkLawsBesides
namespace Go.Proofs.YtdhnjkcebaahcaaDoor.Print
open Go Go.RowKit Go.Proofs.YtdhnjkcebaahcaaDoor.Mem
set_option linter.unusedVariables false

def bit (s : Int) (t : Nat) : Bool := (s.toNat / 2 ^ t) % 2 == 1
/-- The letters of a set's tags below k. -/
def tg (s : Int) : Nat → List UInt8
  | 0 => []
  | k + 1 => if bit s k then tg s k ++ [UInt8.ofNat (97 + k)] else tg s k
theorem tg_len (s : Int) (k : Nat) : (tg s k).length ≤ k := by
  induction k with
  | zero => simp [tg]
  | succ m ih => unfold tg; split <;> (try simp) <;> omega
def tagText (s : Int) : List UInt8 := if tg s 16 = [] then [45] else tg s 16

theorem bit_eq (s : Int) (k : Nat) (h : 0 ≤ s) : ((s / 2 ^ k).tmod 2 == 1) = bit s k := by
  obtain ⟨n, rfl⟩ := Int.eq_ofNat_of_zero_le h
  have e : ((n : Int) / 2 ^ k) = ((n / 2 ^ k : Nat) : Int) := by
    rw [Int.natCast_ediv]; norm_cast
  rw [e, Int.tmod_eq_emod_of_nonneg (Int.natCast_nonneg _)]
  unfold bit
  simp only [Int.toNat_natCast]
  generalize n / 2 ^ k = q
  rw [Bool.eq_iff_iff]
  simp
  omega
theorem tg_no {s : Int} {k : Nat} (h : bit s k = false) : tg s (k + 1) = tg s k := by rw [tg, if_neg (by rw [h]; exact Bool.false_ne_true)]
theorem tg_yes {s : Int} {k : Nat} (h : bit s k = true) : tg s (k + 1) = tg s k ++ [UInt8.ofNat (97 + k)] := by rw [tg, if_pos h]

/-- Bytes that lie somewhere and can be read. -/
def Rb (w : World) (g o n : Nat) (bs : List UInt8) : Prop := n = bs.length ∧ g < w.heap.size ∧ ∀ j u, (Lib.byteCells bs)[j]? = some u → w.cell? ((⟨g, o, none⟩ : Addr).add j) = some u
theorem Rb.below {w w' : World} {g o n : Nat} {bs : List UInt8} (h : Rb w g o n bs) (hb : Below w.heap.size w w') : Rb w' g o n bs :=
  ⟨h.1, Nat.lt_of_lt_of_le h.2.1 hb.size, fun j u hu => by rw [hb.cell (by rw [Addr.add_mid]; exact h.2.1)]; exact h.2.2 j u hu⟩
theorem Rb.alloc {w : World} {g o n : Nat} {bs : List UInt8} (h : Rb w g o n bs) (x : Obj) : Rb (w.alloc x) g o n bs := h.below ((Below.refl _ _).alloc (Nat.le_refl _) x)
theorem Rb.new (w : World) (bs : List UInt8) (cs : Array Value) (t : TypeId) (fr : Nat × Nat) (hc : cs = (Lib.byteCells bs).toArray) : Rb (w.alloc (.cells cs t fr)) w.heap.size 0 bs.length bs := by
  subst hc
  refine ⟨rfl, by simp, fun j u hu => ?_⟩
  rw [Addr.add_mid, Nat.zero_add, blk_cell (blk_new _ _) j]
  simpa using hu
theorem Own.rb {B : Nat} {w : World} {v : Value} {bs : List UInt8} (h : Own B w v bs) (hp : 0 < bs.length) : ∃ g o n c, v = .slice (some ⟨g, o, none⟩) n c ∧ B ≤ g ∧ Rb w g o n bs := by
  obtain ⟨g, cap, hv, hg, hc⟩ := Own.form h hp
  refine ⟨g, 0, bs.length, cap, hv, hg, rfl, ?_, hc⟩
  cases bs with
  | nil => simp at hp
  | cons b r =>
    have := hc 0 _ rfl
    rw [Addr.add_mid] at this
    exact World.block_lt_of_cell? w _ this
theorem Own.shape {B : Nat} {w : World} {v : Value} {bs : List UInt8} (h : Own B w v bs) : ∃ a c, v = .slice a bs.length c := by
  rcases Joins.ownsRow_forms h with ⟨rfl, h0⟩ | ⟨g, cap, rfl⟩
  · exact ⟨none, 0, by rw [h0]⟩
  · exact ⟨_, _, rfl⟩
theorem own_empty (w : World) (cs : Array Value) (h : cs = #[]) : Own w.heap.size (w.alloc (.cells cs 5)) (.slice (some ⟨w.heap.size, 0, none⟩) 0 0) [] := by
  have := own_new w [] cs (by rw [h]; rfl) (by simp)
  exact this
theorem u8_letter (d : Nat) (h : d < 16) : ((UInt8.ofNat (97 + d)).toNat : Int) = 97 + (d : Int) := by
  rw [UInt8.toNat_ofNat']; omega
theorem own_snoc {B : Nat} {w : World} {v : Value} {bs : List UInt8} {b : UInt8} {z : Int} (hz : (b.toNat : Int) = z) (h : w.ownsRow B 5 1 v (bs.length + 1) (Lib.byteCells bs ++ [Value.int .u8 z])) : Own B w v (bs ++ [b]) := by
  unfold Own
  rw [List.length_append, List.length_singleton, Lib.byteCells_append]
  simp only [Lib.byteCells, List.map_cons, List.map_nil, hz] at *
  exact h

theorem size_drew (w : World) : w.drew.heap.size = w.heap.size := rfl
theorem itoa_pos (z : Int) : 0 < (Lib.itoa z).length := by
  unfold Lib.itoa
  split
  · simp
  · exact dec_pos _
theorem decimalR (z : Int) (w : World) (h0 : -1000000000000 ≤ z) (h1 : z ≤ 1000000000000) : Calls Tryd.prog 67 #[.int .i64 z] w fun e w' => ∃ g o n c, e = .returned (.slice (some ⟨g, o, none⟩) n c) ∧ w.heap.size ≤ g ∧ Rb w' g o n (Lib.itoa z) ∧ Below w.heap.size w w' := by
  refine (decimal z w h0 h1).mono ?_
  rintro e w1 ⟨v, rfl, ho, hb⟩
  obtain ⟨g, o, n, c, rfl, hg, hr⟩ := Own.rb ho (itoa_pos z)
  exact ⟨g, o, n, c, rfl, hg, hr, hb⟩

end Go.Proofs.YtdhnjkcebaahcaaDoor.Print
