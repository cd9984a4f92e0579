import Derived.Test.YtdhnjkcebaahcaaDoorValC1
import Derived.Lib.UnsafeStr
import Derived.OwnWalk
import Derived.Lib.Hide
import Derived.Lib.SmallJoins
import Derived.ArgAppend
import Derived.Lib.OthersKept
import Derived.Laws.BitsLemmas
import Derived.Laws.OwnMore
namespace Go.Proofs.YtdhnjkcebaahcaaDoor.Enc
open Go Go.RowKit Go.Proofs.YtdhnjkcebaahcaaDoor.Mem Go.Proofs.YtdhnjkcebaahcaaDoor.ValC
set_option linter.unusedVariables false
set_option linter.unusedSimpArgs false

/-! Numbers in groups of seven bits. -/
/-- A number in groups of seven bits. -/
def grp (z : Nat) : List UInt8 := if z < 128 then [UInt8.ofNat z] else UInt8.ofNat (128 + z % 128) :: grp (z / 128)
termination_by z
decreasing_by omega
theorem grp_lo {z : Nat} (h : z < 128) : grp z = [UInt8.ofNat z] := by rw [grp, if_pos h]
theorem grp_hi {z : Nat} (h : ¬ z < 128) : grp z = UInt8.ofNat (128 + z % 128) :: grp (z / 128) := by rw [grp, if_neg h]
def zig (n : Int) : Nat := if n < 0 then (-2 * n - 1).toNat else (2 * n).toNat
def vr (n : Int) : List UInt8 := grp (zig n)
/-- The numbers in a row. -/
def vrs : List Int → List UInt8
  | [] => []
  | n :: r => vr n ++ vrs r
theorem vrs_app (l m : List Int) : vrs (l ++ m) = vrs l ++ vrs m := by
  induction l with
  | nil => rfl
  | cons n r ih => simp [vrs, ih]
def insN (x : Is) : List Int := [x.p, x.a, x.b, x.c]
def blkN (B : Nat → Is) : Nat → List Int
  | 0 => []
  | k + 1 => blkN B k ++ insN (B k)
def headN (C : Co) : List Int := [C.R, C.S, (C.n1 : Int), (C.n2 : Int), (C.n3 : Int)]
def numsC (C : Co) : List Int := headN C ++ (blkN C.B1 C.n1 ++ (blkN C.B2 C.n2 ++ blkN C.B3 C.n3))
theorem grp_len (k : Nat) : ∀ z : Nat, z < 128 ^ (k + 1) → (grp z).length ≤ k + 1 := by
  induction k with
  | zero => intro z h; rw [grp_lo (by omega)]; simp
  | succ k ih =>
    intro z h
    by_cases h1 : z < 128
    · rw [grp_lo h1]; simp
    · rw [grp_hi h1, List.length_cons]
      have := ih (z / 128) (by rw [Nat.div_lt_iff_lt_mul (by omega)]; rw [Nat.pow_succ] at h; exact h)
      omega
theorem vr_len {n : Int} (h0 : -1000000000 ≤ n) (h1 : n ≤ 1000000000) : (vr n).length ≤ 5 := by
  refine grp_len 4 _ ?_
  unfold zig
  split <;> omega
theorem vrs_len {l : List Int} (h : ∀ n ∈ l, -1000000000 ≤ n ∧ n ≤ 1000000000) : (vrs l).length ≤ 5 * l.length := by
  induction l with
  | nil => simp [vrs]
  | cons n r ih =>
    have h0 := h n (List.mem_cons_self ..)
    have := ih (fun m hm => h m (List.mem_cons_of_mem _ hm))
    have := vr_len h0.1 h0.2
    simp only [vrs, List.length_append, List.length_cons]
    omega
theorem blkN_len (B : Nat → Is) (n : Nat) : (blkN B n).length = 4 * n := by
  induction n with
  | zero => rfl
  | succ k ih => simp only [blkN, List.length_append, ih, insN, List.length_cons, List.length_nil]; omega
theorem blkN_mem {B : Nat → Is} {n : Nat} {z : Int} (h : z ∈ blkN B n) : ∃ i, i < n ∧ z ∈ insN (B i) := by
  induction n with
  | zero => simp [blkN] at h
  | succ k ih =>
    simp only [blkN, List.mem_append] at h
    rcases h with h | h
    · obtain ⟨i, hi, hz⟩ := ih h
      exact ⟨i, by omega, hz⟩
    · exact ⟨k, by omega, h⟩

def encB (C : Co) : List UInt8 := vrs (numsC C)
/-- The byte form of a code. -/
def answer (C : Co) : List UInt8 := if okCo C = true then encB C else []

theorem small_tf {R S k n u x : Int} (hR1 : R ≤ 1000) (hS1 : S ≤ 100) (hk : 0 ≤ k) (hn : n ≤ 1000000) (h : tf R S k n u x = true) : -1000000000 ≤ x ∧ x ≤ 1000000000 := by
  unfold tf inB at h
  split at h
  · simp at h; omega
  · split at h
    · simp at h; omega
    · split at h
      · simp at h; omega
      · split at h
        · simp at h; omega
        · split at h
          · simp at h; omega
          · split at h
            · simp at h; omega
            · split at h
              · simp at h; omega
              · simp at h; omega
theorem small_ins {R S k n : Int} {x : Is} (hR1 : R ≤ 1000) (hS1 : S ≤ 100) (hk : 0 ≤ k) (hn : n ≤ 1000000) (h : okI R S k n x = true) : ∀ z ∈ insN x, -1000000000 ≤ z ∧ z ≤ 1000000000 := by
  unfold okI at h
  simp only [Bool.and_eq_true] at h
  obtain ⟨h1, ⟨h2, h3⟩, h4⟩ := h
  intro z hz
  simp only [insN, List.mem_cons, List.not_mem_nil, or_false] at hz
  rcases hz with rfl | rfl | rfl | rfl
  · simp [inB] at h1; omega
  · exact small_tf hR1 hS1 hk hn h2
  · exact small_tf hR1 hS1 hk hn h3
  · exact small_tf hR1 hS1 hk hn h4
theorem allB_at {n : Nat} {f : Nat → Bool} (h : allB n f = true) {i : Nat} (hi : i < n) : f i = true := by
  cases hf : f i with
  | true => rfl
  | false => rw [allB_false hi hf] at h; cases h
/-- A block of a code that keeps the bounds. -/
structure GoodB (n : Nat) (B : Nat → Is) : Prop where
  len : n ≤ 16384
  small : ∀ i, i < n → ∀ z ∈ insN (B i), -1000000000 ≤ z ∧ z ≤ 1000000000
theorem good_blk {R S : Int} {n : Nat} {B : Nat → Is} (hR1 : R ≤ 1000) (hS1 : S ≤ 100) (h : okBlk R S n B = true) : GoodB n B := by
  simp only [okBlk, Bool.and_eq_true, Bool.not_eq_true', decide_eq_false_iff_not] at h
  refine ⟨by omega, fun i hi => small_ins hR1 hS1 (by omega) (by omega) (allB_at h.2 hi)⟩
structure GoodC (C : Co) : Prop where
  r0 : 13 ≤ C.R
  r1 : C.R ≤ 1000
  s0 : 0 ≤ C.S
  s1 : C.S ≤ 100
  b1 : GoodB C.n1 C.B1
  b2 : GoodB C.n2 C.B2
  b3 : GoodB C.n3 C.B3
theorem good_co {C : Co} (h : okCo C = true) : GoodC C := by
  unfold okCo at h
  simp only [Bool.and_eq_true] at h
  obtain ⟨⟨⟨⟨h1, h2⟩, h3⟩, h4⟩, h5⟩ := h
  simp [inB] at h1 h2
  exact ⟨h1.1, h1.2, h2.1, h2.2, good_blk h1.2 h2.2 h3, good_blk h1.2 h2.2 h4, good_blk h1.2 h2.2 h5⟩
theorem blk_small {n : Nat} {B : Nat → Is} (h : GoodB n B) {k : Nat} (hk : k ≤ n) : ∀ z ∈ blkN B k, -1000000000 ≤ z ∧ z ≤ 1000000000 := fun z hz => by
  obtain ⟨i, hi, hz'⟩ := blkN_mem hz
  exact h.small i (by omega) z hz'
theorem head_small {C : Co} (h : GoodC C) : ∀ z ∈ headN C, -1000000000 ≤ z ∧ z ≤ 1000000000 := fun z hz => by
  have h1 := h.b1.len; have h2 := h.b2.len; have h3 := h.b3.len; have h4 := h.r0; have h5 := h.r1; have h6 := h.s0; have h7 := h.s1
  simp only [headN, List.mem_cons, List.not_mem_nil, or_false] at hz
  rcases hz with rfl | rfl | rfl | rfl | rfl <;> omega
theorem blk_len {n : Nat} {B : Nat → Is} (h : GoodB n B) {k : Nat} (hk : k ≤ n) : (vrs (blkN B k)).length ≤ 20 * k := by
  have := vrs_len (blk_small h hk)
  rw [blkN_len] at this; omega
theorem head_len {C : Co} (h : GoodC C) : (vrs (headN C)).length ≤ 25 := by
  have := vrs_len (head_small h)
  simpa [headN] using this
theorem enc_len {C : Co} (h : GoodC C) : (encB C).length ≤ 1000000 := by
  have h0 := head_len h; have h1 := blk_len h.b1 (Nat.le_refl _); have h2 := blk_len h.b2 (Nat.le_refl _); have h3 := blk_len h.b3 (Nat.le_refl _)
  have l1 := h.b1.len; have l2 := h.b2.len; have l3 := h.b3.len
  unfold encB numsC
  rw [vrs_app, vrs_app, vrs_app, List.length_append, List.length_append, List.length_append]
  omega
theorem answer_len (C : Co) : (answer C).length ≤ 1000000 := by
  unfold answer
  split
  · rename_i h; exact enc_len (good_co h)
  · simp

/-! Rows of bytes of the call's own. -/
theorem infoB : (Tryd.prog.info? 5).map (fun i => (i.zero, i.size, i.bytes)) = some (some (.int .u8 0), 1, 1) := by kernel_rfl
def Own (B : Nat) (w' : World) (v : Value) (bs : List UInt8) : Prop := w'.ownsRow B 5 1 v bs.length (Lib.byteCells bs)
theorem own_new (w : World) (bs : List UInt8) (cs : Array Value) (hc : cs = (Lib.byteCells bs).toArray) (hl : bs.length ≤ 1000000) : Own w.heap.size (w.alloc (.cells cs 5)) (.slice (some ⟨w.heap.size, 0, none⟩) bs.length bs.length) bs := by
  subst hc
  refine ⟨by simp [Lib.byteCells], Or.inr ⟨w.heap.size, bs.length, _, rfl, Nat.le_refl _, blk_new _ _, Nat.le_refl _, by unfold maxLen; omega, by simp [Lib.byteCells], ?_⟩⟩
  simp only [Nat.mul_one]
  rw [List.take_of_length_le (by simp [Lib.byteCells])]
theorem byteCells_one (bs : List UInt8) : ∀ u ∈ Lib.byteCells bs, u.oneCell' = true := by
  intro u hu
  simp only [Lib.byteCells, List.mem_map] at hu
  obtain ⟨b, _, rfl⟩ := hu
  rfl
theorem Own.shape {B : Nat} {w : World} {v : Value} {bs : List UInt8} (h : Own B w v bs) : ∃ a c, v = .slice a bs.length c := by
  rcases Joins.ownsRow_forms h with ⟨rfl, h0⟩ | ⟨g, cap, rfl⟩
  · exact ⟨none, 0, by rw [h0]⟩
  · exact ⟨_, _, rfl⟩
theorem own_empty (w : World) (cs : Array Value) (h : cs = #[]) : Own w.heap.size (w.alloc (.cells cs 5)) (.slice (some ⟨w.heap.size, 0, none⟩) 0 0) [] := by
  have := own_new w [] cs (by rw [h]; rfl) (by simp)
  exact this
theorem own_snoc {B : Nat} {w : World} {v : Value} {bs : List UInt8} {b : UInt8} {z : Int} (hz : (b.toNat : Int) = z) (h : w.ownsRow B 5 1 v (bs.length + 1) (Lib.byteCells bs ++ [Value.int .u8 z])) : Own B w v (bs ++ [b]) := by
  unfold Own
  rw [List.length_append, List.length_singleton, Lib.byteCells_append]
  simp only [Lib.byteCells, List.map_cons, List.map_nil, hz] at *
  exact h
theorem own_app {B : Nat} {w : World} {v : Value} {bs cs : List UInt8} {n : Nat} (hn : n = cs.length) (h : w.ownsRow B 5 1 v (bs.length + n) (Lib.byteCells bs ++ Lib.byteCells cs)) : Own B w v (bs ++ cs) := by
  unfold Own
  rw [List.length_append, Lib.byteCells_append, ← hn]
  exact h
theorem Own.below {B : Nat} {w w' : World} {v : Value} {bs : List UInt8} (h : Own B w v bs) (hb : Below w.heap.size w w') : Own B w' v bs := by
  refine ⟨h.1, ?_⟩
  rcases h.2 with h0 | ⟨g, cap, cur, h1, h2, h3, h4⟩
  · exact Or.inl h0
  · exact Or.inr ⟨g, cap, cur, h1, h2, blk_below h3 hb, h4⟩
theorem blk_grown {w w' : World} {g : Nat} {o : Obj} {row : Option Nat} (h : w.heap[g]? = some o) (hg : w.grownBy w' row) (hne : row ≠ some g) : w'.heap[g]? = some o := by
  obtain ⟨_, _, _, _, h5⟩ := hg
  rw [h5 g (blk_lt h) (Ne.symm hne)]; exact h
theorem cells_of_blk {w : World} {g : Nat} {vs : List Value} {t : TypeId} {fr : Nat × Nat} (h : w.heap[g]? = some (.cells vs.toArray t fr)) : ∀ j u, vs[j]? = some u → w.cell? ((⟨g, 0, none⟩ : Addr).add j) = some u := by
  intro j u hu
  rw [Addr.add_mid, Nat.zero_add, blk_cell h j]
  simpa using hu
theorem ownsRow_below {B size n : Nat} {e : TypeId} {w w' : World} {v : Value} {xs : List Value} (h : w.ownsRow B e size v n xs) (hb : Below w.heap.size w w') : w'.ownsRow B e size v n xs := by
  refine ⟨h.1, ?_⟩
  rcases h.2 with h0 | ⟨g, cap, cur, h1, h2, h3, h4⟩
  · exact Or.inl h0
  · exact Or.inr ⟨g, cap, cur, h1, h2, blk_below h3 hb, h4⟩
/-- Below B nothing has turned, and no block has but those of bytes. -/
def Kp (B : Nat) (w w' : World) : Prop := Below B w w' ∧ Lib.OthersKept 5 none w w'
theorem Kp.refl (B : Nat) (w : World) : Kp B w w := ⟨Below.refl _ _, Lib.OthersKept.refl _ _ _⟩
theorem Kp.trans {B : Nat} {a b c : World} (h : Kp B a b) (k : Kp B b c) : Kp B a c := ⟨h.1.trans k.1, h.2.trans k.2⟩
theorem Kp.alloc {B : Nat} {a w : World} (h : Kp B a w) (hB : B ≤ w.heap.size) (o : Obj) : Kp B a (w.alloc o) := ⟨h.1.alloc hB o, h.2.alloc o⟩
theorem Own.kind {B : Nat} {w : World} {v : Value} {bs : List UInt8} (h : Own B w v bs) : ∀ g, v.ownBlock = some g → ∃ c fz, w.heap[g]? = some (.cells c 5 fz) := by
  intro g hg
  rcases h.2 with ⟨rfl, _⟩ | ⟨g', cap, cur, rfl, _, hgg, _⟩
  · simp [Value.ownBlock] at hg
  · simp [Value.ownBlock] at hg
    subst hg
    exact ⟨cur, _, hgg⟩
theorem Kp.grown {B : Nat} {a w w' : World} {v : Value} {bs : List UInt8} (h : Kp B a w) (ho : Own B w v bs) (hg : w.grownBy w' v.ownBlock) (hB : B ≤ w.heap.size) : Kp B a w' :=
  ⟨h.1.grown hg hB (fun k hk => (ho.lt k hk).1), h.2.grown hg ho.kind⟩
theorem Kp.blk {B g : Nat} {w w' : World} {cs : Array Value} {t : TypeId} {fr : Nat × Nat} (h : Kp B w w') (hb : w.heap[g]? = some (.cells cs t fr)) (ht : t ≠ 5) : w'.heap[g]? = some (.cells cs t fr) :=
  h.2 g _ hb (by intro e; cases e) (fun c fz e => ht (by injection e))

theorem own_snoc' {B n : Nat} {w : World} {v : Value} {bs : List UInt8} {b : UInt8} {z : Int} (hn : n = bs.length) (hz : (b.toNat : Int) = z) (h : w.ownsRow B 5 1 v (n + 1) (Lib.byteCells bs ++ [Value.int .u8 z])) : Own B w v (bs ++ [b]) := by
  subst hn; exact own_snoc hz h
theorem own_app' {B n m : Nat} {w : World} {v : Value} {bs cs : List UInt8} (hm : m = bs.length) (hn : n = cs.length) (h : w.ownsRow B 5 1 v (m + n) (Lib.byteCells bs ++ Lib.byteCells cs)) : Own B w v (bs ++ cs) := by
  subst hm; exact own_app hn h

theorem own_empty1 (w : World) (o : Obj) : Own (w.heap.size + 1) ((w.alloc o).alloc (.cells #[] 5)) (.slice (some ⟨w.heap.size + 1, 0, none⟩) 0 0) [] := by
  have := own_empty (w.alloc o) _ rfl
  rw [World.size_alloc] at this
  exact this
theorem Own.form {B : Nat} {w : World} {v : Value} {bs : List UInt8} (h : Own B w v bs) (hp : 0 < bs.length) : ∃ g cap, v = .slice (some ⟨g, 0, none⟩) bs.length cap ∧ B ≤ g ∧ ∀ j u, (Lib.byteCells bs)[j]? = some u → w.cell? ((⟨g, 0, none⟩ : Addr).add j) = some u := by
  rcases h.2 with ⟨-, h0⟩ | ⟨g, cap, cur, hv, hg, hblk, -, -, -, ht⟩
  · omega
  · refine ⟨g, cap, hv, hg, fun j u hu => ?_⟩
    rw [Addr.add_mid, Nat.zero_add, blk_cell hblk j]
    have hj : j < (Lib.byteCells bs).length := (List.getElem?_eq_some_iff.1 hu).1
    rw [← ht] at hu
    rw [List.getElem?_take] at hu
    split at hu
    · simpa using hu
    · cases hu
theorem grp_pos (z : Nat) : 0 < (grp z).length := by
  by_cases h : z < 128
  · rw [grp_lo h]; simp
  · rw [grp_hi h]; simp
end Go.Proofs.YtdhnjkcebaahcaaDoor.Enc
