import Derived.Test.YtefkdpppcjlflaaGreatDoorIt11
import Derived.Test.YtefkdpppcjlflaaGreatDoorIt02
import Derived.Lib.ItoaNum
import Derived.Lib.ItoaLen
import Derived.Lib.UnsafeStr
import Derived.OwnWalk
import Derived.Lib.Hide
import Derived.Lib.SmallJoins
import Derived.Lib.SlBytesConst
import Derived.ArgAppend
import Derived.WalkLawsBesides
import Derived.Deep.RegionHeld3
import Derived.Deep.DrawnRows
namespace Go.Proofs.YtefkdpppcjlflaaGreatDoor.Print
open Go Go.RowKit Go.Proofs.YtefkdpppcjlflaaGreatDoor.Mem
set_option linter.unusedVariables false

theorem infoB : (Tryz.prog.info? 5).map (fun i => (i.zero, i.size, i.bytes)) = some (some (.int .u8 0), 1, 1) := by kernel_rfl

/-- A row of bytes of the call's own, not nil. -/
def Own (B : Nat) (w' : World) (v : Value) (bs : List UInt8) : Prop := w'.ownsRow B 5 1 v bs.length (Lib.byteCells bs)

theorem own_new (w : World) (bs : List UInt8) (cs : Array Value) (hc : cs = (Lib.byteCells bs).toArray) (hl : bs.length ≤ 1000000) : Own w.heap.size (w.alloc (.cells cs 5)) (.slice (some ⟨w.heap.size, 0, none⟩) bs.length bs.length) bs := by
  subst hc
  refine ⟨by simp [Lib.byteCells], Or.inr ⟨w.heap.size, bs.length, _, rfl, Nat.le_refl _, blk_new _ _, Nat.le_refl _, by unfold maxLen; omega, by simp [Lib.byteCells], ?_⟩⟩
  simp only [Nat.mul_one]
  rw [List.take_of_length_le (by simp [Lib.byteCells])]

theorem dec_step {n : Nat} (h : ¬ n < 10) : Lib.decDigits n = Lib.decDigits (n / 10) ++ [UInt8.ofNat (48 + n % 10)] := by rw [Lib.decDigits, dif_neg h]
theorem dec_len : ∀ (k n : Nat), n < 10 ^ k → 1 ≤ k → (Lib.decDigits n).length ≤ k := by
  intro k
  induction k with
  | zero => intro n _ h; omega
  | succ m ih =>
    intro n hn _
    by_cases h : n < 10
    · rw [Lib.decDigits_one h]; simp
    · rw [dec_step h, List.length_append, List.length_singleton]
      have h1 : n / 10 < 10 ^ m := by rw [Nat.pow_succ] at hn; omega
      have h2 : 1 ≤ m := by
        rcases m with _ | m
        · simp at hn; omega
        · omega
      have := ih (n / 10) h1 h2
      omega
theorem u8_digit (d : Nat) (h : d < 10) : ((UInt8.ofNat (48 + d)).toNat : Int) = 48 + (d : Int) := by
  rw [UInt8.toNat_ofNat']; omega

/-- The form of a row of bytes that has some. -/
theorem Own.form {B : Nat} {w : World} {v : Value} {bs : List UInt8} (h : Own B w v bs) (hp : 0 < bs.length) : ∃ g cap, v = .slice (some ⟨g, 0, none⟩) bs.length cap ∧ B ≤ g ∧ ∀ j u, (Lib.byteCells bs)[j]? = some u → w.cell? ((⟨g, 0, none⟩ : Addr).add j) = some u := by
  rcases h.2 with ⟨-, h0⟩ | ⟨g, cap, cur, hv, hg, hblk, -, -, -, ht⟩
  · omega
  · refine ⟨g, cap, hv, hg, fun j u hu => ?_⟩
    rw [Addr.add_mid, Nat.zero_add, blk_cell hblk j]
    have hj : j < (Lib.byteCells bs).length := (List.getElem?_eq_some_iff.1 hu).1
    rw [← ht] at hu
    rw [List.getElem?_take] at hu
    split at hu
    · simpa using hu
    · cases hu
theorem byteCells_one (bs : List UInt8) : ∀ u ∈ Lib.byteCells bs, u.oneCell' = true := by
  intro u hu
  simp only [Lib.byteCells, List.mem_map] at hu
  obtain ⟨b, _, rfl⟩ := hu
  rfl
theorem dec_pos (n : Nat) : 0 < (Lib.decDigits n).length := by
  by_cases h : n < 10
  · rw [Lib.decDigits_one h]; simp
  · rw [dec_step h]; simp

end Go.Proofs.YtefkdpppcjlflaaGreatDoor.Print
namespace Go.Proofs.YtefkdpppcjlflaaGreatDoor.Print
open Go Go.RowKit Go.Proofs.YtefkdpppcjlflaaGreatDoor.Mem
set_option linter.unusedVariables false

def bit (s : Int) (t : Nat) : Bool := (s.toNat / 2 ^ t) % 2 == 1
/-- The letters of a set's tags below k. -/
def tg (s : Int) : Nat → List UInt8
  | 0 => []
  | k + 1 => if bit s k then tg s k ++ [UInt8.ofNat (97 + k)] else tg s k
theorem tg_len (s : Int) (k : Nat) : (tg s k).length ≤ k := by
  induction k with
  | zero => simp [tg]
  | succ m ih => unfold tg; split <;> (try simp) <;> omega
def tagText (s : Int) : List UInt8 := if tg s 16 = [] then [45] else tg s 16

theorem bit_eq (s : Int) (k : Nat) (h : 0 ≤ s) : ((s / 2 ^ k).tmod 2 == 1) = bit s k := by
  obtain ⟨n, rfl⟩ := Int.eq_ofNat_of_zero_le h
  have e : ((n : Int) / 2 ^ k) = ((n / 2 ^ k : Nat) : Int) := by
    rw [Int.natCast_ediv]; norm_cast
  rw [e, Int.tmod_eq_emod_of_nonneg (Int.natCast_nonneg _)]
  unfold bit
  simp only [Int.toNat_natCast]
  generalize n / 2 ^ k = q
  rw [Bool.eq_iff_iff]
  simp
  omega
theorem tg_no {s : Int} {k : Nat} (h : bit s k = false) : tg s (k + 1) = tg s k := by rw [tg, if_neg (by rw [h]; exact Bool.false_ne_true)]
theorem tg_yes {s : Int} {k : Nat} (h : bit s k = true) : tg s (k + 1) = tg s k ++ [UInt8.ofNat (97 + k)] := by rw [tg, if_pos h]

/-- Bytes that lie somewhere and can be read. -/
def Rb (w : World) (g o n : Nat) (bs : List UInt8) : Prop := n = bs.length ∧ g < w.heap.size ∧ ∀ j u, (Lib.byteCells bs)[j]? = some u → w.cell? ((⟨g, o, none⟩ : Addr).add j) = some u
theorem Rb.below {w w' : World} {g o n : Nat} {bs : List UInt8} (h : Rb w g o n bs) (hb : Below w.heap.size w w') : Rb w' g o n bs :=
  ⟨h.1, Nat.lt_of_lt_of_le h.2.1 hb.size, fun j u hu => by rw [hb.cell (by rw [Addr.add_mid]; exact h.2.1)]; exact h.2.2 j u hu⟩
theorem Rb.alloc {w : World} {g o n : Nat} {bs : List UInt8} (h : Rb w g o n bs) (x : Obj) : Rb (w.alloc x) g o n bs := h.below ((Below.refl _ _).alloc (Nat.le_refl _) x)
theorem Rb.new (w : World) (bs : List UInt8) (cs : Array Value) (t : TypeId) (fr : Nat × Nat) (hc : cs = (Lib.byteCells bs).toArray) : Rb (w.alloc (.cells cs t fr)) w.heap.size 0 bs.length bs := by
  subst hc
  refine ⟨rfl, by simp, fun j u hu => ?_⟩
  rw [Addr.add_mid, Nat.zero_add, blk_cell (blk_new _ _) j]
  simpa using hu
theorem Own.rb {B : Nat} {w : World} {v : Value} {bs : List UInt8} (h : Own B w v bs) (hp : 0 < bs.length) : ∃ g o n c, v = .slice (some ⟨g, o, none⟩) n c ∧ B ≤ g ∧ Rb w g o n bs := by
  obtain ⟨g, cap, hv, hg, hc⟩ := Own.form h hp
  refine ⟨g, 0, bs.length, cap, hv, hg, rfl, ?_, hc⟩
  cases bs with
  | nil => simp at hp
  | cons b r =>
    have := hc 0 _ rfl
    rw [Addr.add_mid] at this
    exact World.block_lt_of_cell? w _ this
theorem Own.shape {B : Nat} {w : World} {v : Value} {bs : List UInt8} (h : Own B w v bs) : ∃ a c, v = .slice a bs.length c := by
  rcases Joins.ownsRow_forms h with ⟨rfl, h0⟩ | ⟨g, cap, rfl⟩
  · exact ⟨none, 0, by rw [h0]⟩
  · exact ⟨_, _, rfl⟩
theorem own_empty (w : World) (cs : Array Value) (h : cs = #[]) : Own w.heap.size (w.alloc (.cells cs 5)) (.slice (some ⟨w.heap.size, 0, none⟩) 0 0) [] := by
  have := own_new w [] cs (by rw [h]; rfl) (by simp)
  exact this
theorem u8_letter (d : Nat) (h : d < 16) : ((UInt8.ofNat (97 + d)).toNat : Int) = 97 + (d : Int) := by
  rw [UInt8.toNat_ofNat']; omega
theorem own_snoc {B : Nat} {w : World} {v : Value} {bs : List UInt8} {b : UInt8} {z : Int} (hz : (b.toNat : Int) = z) (h : w.ownsRow B 5 1 v (bs.length + 1) (Lib.byteCells bs ++ [Value.int .u8 z])) : Own B w v (bs ++ [b]) := by
  unfold Own
  rw [List.length_append, List.length_singleton, Lib.byteCells_append]
  simp only [Lib.byteCells, List.map_cons, List.map_nil, hz] at *
  exact h

theorem size_drew (w : World) : w.drew.heap.size = w.heap.size := rfl
theorem itoa_pos (z : Int) : 0 < (Lib.itoa z).length := by
  unfold Lib.itoa
  split
  · simp
  · exact dec_pos _
end Go.Proofs.YtefkdpppcjlflaaGreatDoor.Print
namespace Go.Proofs.YtefkdpppcjlflaaGreatDoor.Print
open Go Go.RowKit Go.Proofs.YtefkdpppcjlflaaGreatDoor.Mem
set_option linter.unusedVariables false
attribute [local go_sem ↓] Go.wp_at_zero Go.wp_at_succ

/-- A value that leads to the bytes bs, in a block from B on. -/
def FV (B : Nat) (w : World) (v : Value) (bs : List UInt8) : Prop := ∃ g o n c, v = .slice (some ⟨g, o, none⟩) n c ∧ B ≤ g ∧ Rb w g o n bs
def FVs (B : Nat) (w : World) : List Value → List (List UInt8) → Prop
  | [], [] => True
  | v :: vs, b :: bs => FV B w v b ∧ FVs B w vs bs
  | _, _ => False
theorem FV.below {B : Nat} {w w' : World} {v : Value} {bs : List UInt8} (h : FV B w v bs) (hb : Below w.heap.size w w') : FV B w' v bs := by
  obtain ⟨g, o, n, c, e, hg, h⟩ := h
  exact ⟨g, o, n, c, e, hg, h.below hb⟩
theorem FV.low {B : Nat} {w : World} {v : Value} {bs : List UInt8} (h : FV B w v bs) : FV 0 w v bs := by
  obtain ⟨g, o, n, c, e, hg, h⟩ := h
  exact ⟨g, o, n, c, e, Nat.zero_le _, h⟩
theorem FV.grown {B : Nat} {w w' : World} {row : Option Nat} {v : Value} {bs : List UInt8} (h : FV B w v bs) (hg : w.grownBy w' row) (hr : ∀ k, row = some k → k < B) : FV B w' v bs := by
  obtain ⟨g, o, n, c, e, hB, h1, h2, h3⟩ := h
  refine ⟨g, o, n, c, e, hB, h1, Nat.lt_of_lt_of_le h2 hg.size, fun j u hu => hg.cell (h3 j u hu) ?_⟩
  rw [Addr.add_mid]
  intro he
  have := hr g he.symm
  omega
theorem FVs.below {B : Nat} {w w' : World} (hb : Below w.heap.size w w') : ∀ {vs : List Value} {L : List (List UInt8)}, FVs B w vs L → FVs B w' vs L
  | [], [], _ => trivial
  | _ :: _, _ :: _, h => ⟨h.1.below hb, FVs.below hb h.2⟩
theorem FVs.low {B : Nat} {w : World} : ∀ {vs : List Value} {L : List (List UInt8)}, FVs B w vs L → FVs 0 w vs L
  | [], [], _ => trivial
  | _ :: _, _ :: _, h => ⟨h.1.low, FVs.low h.2⟩
theorem FVs.grown {B : Nat} {w w' : World} {row : Option Nat} (hg : w.grownBy w' row) (hr : ∀ k, row = some k → k < B) : ∀ {vs : List Value} {L : List (List UInt8)}, FVs B w vs L → FVs B w' vs L
  | [], [], _ => trivial
  | _ :: _, _ :: _, h => ⟨h.1.grown hg hr, FVs.grown hg hr h.2⟩
theorem FVs.append {B : Nat} {w : World} : ∀ {vs : List Value} {L : List (List UInt8)} {vs' : List Value} {L' : List (List UInt8)}, FVs B w vs L → FVs B w vs' L' → FVs B w (vs ++ vs') (L ++ L')
  | [], [], _, _, _, h => h
  | _ :: _, _ :: _, _, _, h, h' => ⟨h.1, FVs.append h.2 h'⟩
theorem FVs.get {B : Nat} {w : World} : ∀ {vs : List Value} {L : List (List UInt8)}, FVs B w vs L → ∀ (k : Nat) (hk : k < L.length), ∃ v, vs[k]? = some v ∧ FV B w v L[k]
  | [], [], _, k, hk => by simp at hk
  | _ :: _, _ :: _, h, 0, _ => ⟨_, rfl, h.1⟩
  | _ :: _, _ :: _, h, k + 1, hk => by
    obtain ⟨v, h1, h2⟩ := FVs.get h.2 k (by simpa using hk)
    exact ⟨v, by simpa using h1, by simpa using h2⟩
theorem FVs.one {B : Nat} {w : World} : ∀ {vs : List Value} {L : List (List UInt8)}, FVs B w vs L → ∀ u ∈ vs, u.oneCell' = true
  | [], [], _, _, hu => by cases hu
  | _ :: _, _ :: _, h, u, hu => by
    rcases List.mem_cons.1 hu with rfl | hu
    · obtain ⟨g, o, n, c, rfl, _⟩ := h.1; rfl
    · exact FVs.one h.2 u hu

/-- The first k fields of a line, a blank between two. -/
def jn (L : List (List UInt8)) : Nat → List UInt8
  | 0 => []
  | k + 1 => (if k = 0 then jn L k else jn L k ++ [32]) ++ L.getD k []
/-- A line of these fields. -/
def line (L : List (List UInt8)) : List UInt8 := jn L L.length ++ [10]
theorem getD_get {L : List (List UInt8)} {k : Nat} (hk : k < L.length) : L.getD k [] = L[k] := by simp [List.getD, hk]
theorem jn_len {L : List (List UInt8)} (h : ∀ b ∈ L, b.length ≤ 40) : ∀ k, k ≤ L.length → (jn L k).length ≤ 41 * k
  | 0, _ => by simp [jn]
  | k + 1, hk => by
    have ih := jn_len h k (by omega)
    have hb : (L.getD k []).length ≤ 40 := by
      rw [getD_get (by omega)]
      exact h _ (List.getElem_mem _)
    unfold jn
    split
    · rw [List.length_append]; omega
    · rw [List.length_append, List.length_append, List.length_singleton]; omega

theorem own_app {B : Nat} {w : World} {v : Value} {bs cs : List UInt8} {n : Nat} (hn : n = cs.length) (h : w.ownsRow B 5 1 v (bs.length + n) (Lib.byteCells bs ++ Lib.byteCells cs)) : Own B w v (bs ++ cs) := by
  unfold Own
  rw [List.length_append, Lib.byteCells_append, ← hn]
  exact h

end Go.Proofs.YtefkdpppcjlflaaGreatDoor.Print
