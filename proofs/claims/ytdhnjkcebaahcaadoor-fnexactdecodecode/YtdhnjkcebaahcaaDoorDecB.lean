import Derived.Test.YtdhnjkcebaahcaaDoorEncB
namespace Go.Proofs.YtdhnjkcebaahcaaDoor.Dec
open Go Go.RowKit Go.Proofs.YtdhnjkcebaahcaaDoor.Mem Go.Proofs.YtdhnjkcebaahcaaDoor.ValC Go.Proofs.YtdhnjkcebaahcaaDoor.Enc
set_option linter.unusedVariables false
set_option linter.unusedSimpArgs false

/-- How many bytes that go on stand first. -/
def hib : List UInt8 → Nat
  | [] => 0
  | c :: r => if 128 ≤ c.toNat then hib r + 1 else 0
def valB : List UInt8 → Nat
  | [] => 0
  | c :: r => c.toNat % 128 + 128 * valB r
def unz (z : Nat) : Int := if z % 2 = 1 then -((z / 2 : Nat) : Int) - 1 else ((z / 2 : Nat) : Int)
/-- The number that stands first, and what follows it. -/
def one (b : List UInt8) : Option (Int × List UInt8) :=
  if hib b < b.length ∧ hib b < 5 ∧ ¬ (0 < hib b ∧ (b.getD (hib b) 0).toNat = 0) then some (unz (valB (b.take (hib b + 1))), b.drop (hib b + 1)) else none
theorem one_short {b r : List UInt8} {n : Int} (h : one b = some (n, r)) : r.length < b.length := by
  unfold one at h
  split at h
  · rename_i hc
    injection h with h
    injection h with _ h
    rw [← h, List.length_drop]; omega
  · cases h
/-- All numbers of a byte text, none where it is not whole numbers in shortest form. -/
def nums (b : List UInt8) : Option (List Int) :=
  if b = [] then some [] else
  match h : one b with
  | none => none
  | some (n, r) => (nums r).map (n :: ·)
termination_by b.length
decreasing_by exact one_short h
theorem nums_nil : nums [] = some [] := by rw [nums, if_pos rfl]
theorem nums_none {b : List UInt8} (hb : b ≠ []) (h : one b = none) : nums b = none := by
  rw [nums, if_neg hb]
  split
  · rfl
  · rename_i h'; rw [h] at h'; cases h'
theorem nums_some {b r : List UInt8} {n : Int} (h : one b = some (n, r)) : nums b = (nums r).map (n :: ·) := by
  have hb : b ≠ [] := by intro e; subst e; simp [one, hib] at h
  rw [nums, if_neg hb]
  split
  · rename_i h'; rw [h] at h'; cases h'
  · rename_i n' r' h'; rw [h] at h'; injection h' with h'; injection h' with h1 h2; subst h1; subst h2; rfl
theorem one_nil : one [] = none := by simp [one, hib]
theorem hib_le (b : List UInt8) : hib b ≤ b.length := by
  induction b with
  | nil => simp [hib]
  | cons c r ih => unfold hib; split <;> simp <;> omega
theorem hib_lt {b : List UInt8} {j : Nat} (h : j < hib b) : 128 ≤ (b.getD j 0).toNat := by
  induction b generalizing j with
  | nil => simp [hib] at h
  | cons c r ih =>
    unfold hib at h
    split at h
    · cases j with
      | zero => simpa using ‹128 ≤ c.toNat›
      | succ m => simpa using ih (j := m) (by omega)
    · omega
theorem hib_at {b : List UInt8} (h : hib b < b.length) : (b.getD (hib b) 0).toNat < 128 := by
  induction b with
  | nil => simp at h
  | cons c r ih =>
    unfold hib at h ⊢
    split
    · rename_i hc
      rw [if_pos hc] at h
      simpa using ih (by simpa using h)
    · rename_i hc
      simp; omega
theorem hib_eq {b : List UInt8} {j : Nat} (hj : j < b.length) (h1 : ∀ i, i < j → 128 ≤ (b.getD i 0).toNat) (h2 : (b.getD j 0).toNat < 128) : hib b = j := by
  rcases Nat.lt_trichotomy (hib b) j with h | h | h
  · have := hib_at (b := b) (by omega); have := h1 _ h; omega
  · exact h
  · have := hib_lt h; omega
theorem hib_ge {b : List UInt8} {j : Nat} (hj : j ≤ b.length) (h1 : ∀ i, i < j → 128 ≤ (b.getD i 0).toNat) : j ≤ hib b := by
  rcases Nat.lt_or_ge (hib b) j with h | h
  · have := hib_at (b := b) (by omega); have := h1 _ h; omega
  · exact h
theorem valB_app (l : List UInt8) (c : UInt8) : valB (l ++ [c]) = valB l + 128 ^ l.length * (c.toNat % 128) := by
  induction l with
  | nil => simp [valB]
  | cons x r ih =>
    rw [List.cons_append, valB, ih, valB, List.length_cons, Nat.pow_succ, Nat.mul_add, ← Nat.add_assoc]
    congr 1
    rw [← Nat.mul_assoc, Nat.mul_comm 128]
theorem valB_lt (l : List UInt8) : valB l < 128 ^ l.length := by
  induction l with
  | nil => simp [valB]
  | cons x r ih => rw [valB, List.length_cons, Nat.pow_succ]; omega

/-! What a byte text is decoded to. -/
def flatI (L : List Is) : List Int := L.flatMap insN
/-- The parts of a code as numbers and lists. -/
structure Dc where
  (R S : Int) (L1 L2 L3 : List Is)
def Dc.all (d : Dc) : List Int := [d.R, d.S, (d.L1.length : Int), (d.L2.length : Int), (d.L3.length : Int)] ++ (flatI d.L1 ++ (flatI d.L2 ++ flatI d.L3))
/-- The numbers of the text are those of a code whose blocks are not too long. -/
def Shape (bs : List UInt8) (d : Dc) : Prop := nums bs = some d.all ∧ d.L1.length ≤ 16384 ∧ d.L2.length ≤ 16384 ∧ d.L3.length ≤ 16384
theorem flat_len' (L : List Is) : (flatI L).length = 4 * L.length := by
  induction L with
  | nil => rfl
  | cons x r ih => rw [flatI, List.flatMap_cons, List.length_append]; unfold flatI at ih; rw [ih]; simp [insN]; omega
theorem flat_inj {L M : List Is} (h : flatI L = flatI M) : L = M := by
  induction L generalizing M with
  | nil =>
    cases M with
    | nil => rfl
    | cons y s => simp [flatI, insN] at h
  | cons x r ih =>
    cases M with
    | nil => simp [flatI, insN] at h
    | cons y s =>
      simp only [flatI, List.flatMap_cons, insN, List.cons_append, List.nil_append, List.cons.injEq] at h
      obtain ⟨h1, h2, h3, h4, h5⟩ := h
      have := ih (M := s) h5
      subst this
      cases x; cases y
      simp_all
theorem dc_inj {d e : Dc} (h : d.all = e.all) : d = e := by
  obtain ⟨R, S, L1, L2, L3⟩ := d
  obtain ⟨R', S', M1, M2, M3⟩ := e
  simp only [Dc.all, List.cons_append, List.nil_append, List.cons.injEq] at h
  obtain ⟨h1, h2, h3, h4, h5, h6⟩ := h
  have l1 : L1.length = M1.length := by omega
  have l2 : L2.length = M2.length := by omega
  have k1 := List.append_inj h6 (by rw [flat_len', flat_len', l1])
  have k2 := List.append_inj k1.2 (by rw [flat_len', flat_len', l2])
  rw [h1, h2, flat_inj k1.1, flat_inj k2.1, flat_inj k2.2]
theorem shape_one {bs : List UInt8} {d e : Dc} (h : Shape bs d) (h' : Shape bs e) : d = e := dc_inj (Option.some.inj (h.1.symm.trans h'.1))
/-- So far these numbers have been read, and this is left. -/
def Live (bs : List UInt8) (pre : List Int) (rest : List UInt8) : Prop := nums bs = (nums rest).map (pre ++ ·)
def NoShape (bs : List UInt8) : Prop := ∀ d, ¬ Shape bs d
theorem live_start (bs : List UInt8) : Live bs [] bs := by unfold Live; simp
theorem live_step {bs rest r : List UInt8} {pre : List Int} {n : Int} (h : Live bs pre rest) (h1 : one rest = some (n, r)) : Live bs (pre ++ [n]) r := by
  unfold Live at *
  rw [h, nums_some h1]
  simp [Option.map_map, Function.comp_def]
theorem all_form (d : Dc) : ∃ t, d.all = d.R :: d.S :: (d.L1.length : Int) :: (d.L2.length : Int) :: (d.L3.length : Int) :: t ∧ t.length = 4 * (d.L1.length + d.L2.length + d.L3.length) := by
  refine ⟨flatI d.L1 ++ (flatI d.L2 ++ flatI d.L3), rfl, ?_⟩
  rw [List.length_append, List.length_append, flat_len', flat_len', flat_len']; omega
theorem live_shape {bs rest : List UInt8} {pre : List Int} {d : Dc} (h : Live bs pre rest) (hd : Shape bs d) : ∃ l, nums rest = some l ∧ d.all = pre ++ l := by
  unfold Live at h
  rw [hd.1] at h
  cases hr : nums rest with
  | none => rw [hr] at h; cases h
  | some l => rw [hr] at h; exact ⟨l, rfl, Option.some.inj h⟩
theorem dead {bs rest : List UInt8} {pre : List Int} (h : Live bs pre rest) (h1 : one rest = none) (hp : pre.length < 5 ∨ ∃ R S x y z t, pre = R :: S :: x :: y :: z :: t ∧ (t.length : Int) < 4 * (x + y + z)) : NoShape bs := by
  intro d hd
  obtain ⟨l, hl, he⟩ := live_shape h hd
  by_cases hr : rest = []
  · subst hr
    rw [nums_nil] at hl
    have hl' : l = [] := (Option.some.inj hl).symm
    subst hl'
    rw [List.append_nil] at he
    obtain ⟨t, ht, htl⟩ := all_form d
    rw [ht] at he
    rcases hp with hp | ⟨R, S, x, y, z, t', hp, htl'⟩
    · rw [← he] at hp; simp at hp; omega
    · rw [hp] at he
      simp only [List.cons.injEq] at he
      obtain ⟨-, -, h3, h4, h5, h6⟩ := he
      subst h6
      omega
  · rw [nums_none hr h1] at hl; cases hl
theorem dead_len {bs rest : List UInt8} {pre t : List Int} {R S x : Int} (h : Live bs pre rest) (hp : pre = R :: S :: x :: t) (hx : x < 0 ∨ 16384 < x) : NoShape bs := by
  intro d hd
  obtain ⟨l, hl, he⟩ := live_shape h hd
  obtain ⟨t', ht, htl⟩ := all_form d
  rw [ht, hp] at he
  simp only [List.cons_append, List.cons.injEq] at he
  have := hd.2.1
  omega
theorem dead_len2 {bs rest : List UInt8} {pre t : List Int} {R S x y : Int} (h : Live bs pre rest) (hp : pre = R :: S :: x :: y :: t) (hx : y < 0 ∨ 16384 < y) : NoShape bs := by
  intro d hd
  obtain ⟨l, hl, he⟩ := live_shape h hd
  obtain ⟨t', ht, htl⟩ := all_form d
  rw [ht, hp] at he
  simp only [List.cons_append, List.cons.injEq] at he
  have := hd.2.2.1
  omega
theorem dead_len3 {bs rest : List UInt8} {pre t : List Int} {R S x y z : Int} (h : Live bs pre rest) (hp : pre = R :: S :: x :: y :: z :: t) (hx : z < 0 ∨ 16384 < z) : NoShape bs := by
  intro d hd
  obtain ⟨l, hl, he⟩ := live_shape h hd
  obtain ⟨t', ht, htl⟩ := all_form d
  rw [ht, hp] at he
  simp only [List.cons_append, List.cons.injEq] at he
  have := hd.2.2.2
  omega
theorem nums_cons {b : List UInt8} (hb : b ≠ []) {l : List Int} (h : nums b = some l) : l ≠ [] := by
  cases h1 : one b with
  | none => rw [nums_none hb h1] at h; cases h
  | some p =>
    obtain ⟨n, r⟩ := p
    rw [nums_some h1] at h
    cases hr : nums r with
    | none => rw [hr] at h; cases h
    | some m => rw [hr] at h; have := Option.some.inj h; rw [← this]; simp
theorem dead_rest {bs rest : List UInt8} {e : Dc} (h : Live bs e.all rest) (hr : rest ≠ []) : NoShape bs := by
  intro d hd
  obtain ⟨l, hl, he⟩ := live_shape h hd
  have hl0 := nums_cons hr hl
  obtain ⟨t, ht, htl⟩ := all_form d
  obtain ⟨t', ht', htl'⟩ := all_form e
  rw [ht, ht'] at he
  simp only [List.cons_append, List.cons.injEq] at he
  obtain ⟨-, -, h3, h4, h5, h6⟩ := he
  have := congrArg List.length h6
  rw [List.length_append] at this
  have : 0 < l.length := List.length_pos_iff.2 hl0
  omega
theorem alive {bs : List UInt8} {e : Dc} (h : Live bs e.all []) (h1 : e.L1.length ≤ 16384) (h2 : e.L2.length ≤ 16384) (h3 : e.L3.length ≤ 16384) : Shape bs e := by
  refine ⟨?_, h1, h2, h3⟩
  unfold Live at h
  rw [h, nums_nil]; simp

/-- Bytes that can be read through a slice. -/
def RdB (w : World) (a : Option Addr) (bs : List UInt8) : Prop := bs = [] ∨ ∃ g o, a = some ⟨g, o, none⟩ ∧ ∀ j (h : j < bs.length), w.cell? ⟨g, o + j, none⟩ = some (.int .u8 (bs[j].toNat : Int))
theorem RdB.below {w w' : World} {a : Option Addr} {bs : List UInt8} (h : RdB w a bs) (hb : Below w.heap.size w w') : RdB w' a bs := by
  rcases h with h | ⟨g, o, ha, h⟩
  · exact Or.inl h
  · exact Or.inr ⟨g, o, ha, fun j hj => cell_keep hb (h j hj)⟩
/-- The decoder's record: what is left, and whether it has failed. -/
structure De (w : World) (r : Nat) (lo : Nat) (rest : List UInt8) (f : Bool) (a : Option Addr) (c : Nat) : Prop where
  x : w.heap[r]? = some (.cells #[.slice a rest.length c, .bool f] 98)
  cap : rest.length ≤ c
  rd : RdB w a rest
  low : ∀ p, a = some p → p.block < lo
  len : rest.length ≤ 1048576
end Go.Proofs.YtdhnjkcebaahcaaDoor.Dec
