import Derived.Test.YthobdaeglhdhnaaGreatDoorPp01
namespace Go.Proofs.YthobdaeglhdhnaaGreatDoor.Mem
open Go Go.RowKit
set_option linter.unusedVariables false

theorem below_alloc' {w W : World} (h : Below w.heap.size w W) (o : Obj) : Below w.heap.size w (W.alloc o) := h.alloc h.size o
theorem cell_alloc' {w : World} {p : Addr} {v : Value} (h : w.cell? p = some v) (o : Obj) : (w.alloc o).cell? p = some v := by
  rw [World.cell?_alloc_lt _ _ _ (World.block_lt_of_cell? w _ h)]; exact h
end Go.Proofs.YthobdaeglhdhnaaGreatDoor.Mem
namespace Go.Proofs.YthobdaeglhdhnaaGreatDoor.Syn
open Go Go.RowKit Go.Proofs.YthobdaeglhdhnaaGreatDoor.Mem
set_option linter.unusedVariables false

/-- One Op of a postfix list. -/
structure Po where
  (k v : Int) (n : List UInt8)
instance : Inhabited Po := ⟨⟨0, 0, []⟩⟩
def Po.cells (o : Po) : List Value := [.int .i64 o.k, .int .i64 o.v, .string ⟨o.n.toArray⟩]
theorem Po.len (v : Po) : v.cells.length = 3 := rfl
theorem Po.one (v : Po) : v.cells.toArray.all (·.oneCell') = true := by simp [Po.cells, Value.oneCell']
theorem Po.at {w : World} {b o : Nat} {v : Po} (h : w.rangeAt b o v.cells) : w.cell? ⟨b, o, none⟩ = some (.int .i64 v.k) ∧ w.cell? ⟨b, o + 1, none⟩ = some (.int .i64 v.v) ∧ w.cell? ⟨b, o + 2, none⟩ = some (.string ⟨v.n.toArray⟩) :=
  ⟨h 0 _ rfl, h 1 _ rfl, h 2 _ rfl⟩
theorem str_list (s : ByteArray) : (⟨s.data.toList.toArray⟩ : ByteArray) = s := by cases s; simp

/-! Words. -/
def tw : List (List UInt8) := [[], [], [], [59], [44], [40], [41], [46, 46], [42], [43], [45], [60], [60, 61], [61], [97, 110, 100], [111, 114], [108, 101, 116], [101, 97, 99, 104], [101, 110, 100], [115, 117, 109], [110, 101, 118, 101, 114], [97, 112, 97, 114, 116], [108, 105, 102, 111], [114, 105, 100, 101], [115, 116, 114, 101, 97, 107], [109, 105, 110], [109, 97, 120], [105, 102], [102, 97, 108, 115, 101], [116, 114, 117, 101], [116, 105, 109, 101], [108, 101, 103], [119, 97, 105, 116], [100, 105, 115, 116], [108, 111, 97, 100], [115, 105, 122, 101], [111, 112, 101, 110], [99, 108, 111, 115, 101], [104, 111, 108, 100], [114, 111, 111, 109], [112, 111, 115], [112, 105, 99, 107], [100, 114, 111, 112], [102, 114, 111, 109], [105, 110], [116, 104, 101, 110], [109, 111, 115, 116], [110, 111, 116], [104, 97, 115], [115, 107, 105, 108, 108]]
def twAt (m : Nat) : List UInt8 := tw.getD m []
/-- The words that are reserved. -/
def rw : List (List UInt8) := tw.drop 14
def resB (n : List UInt8) : Bool := rw.contains n
/-- The kind of a word from token m on. -/
def wkF (n : List UInt8) (m : Nat) : Nat → Nat
  | 0 => 2
  | f + 1 => if n == twAt m then m else wkF n (m + 1) f
def wk (n : List UInt8) : Nat := wkF n 14 36
theorem wkF_first {n : List UInt8} {m f k : Nat} (hk : k < f) (h1 : ∀ j, j < k → (n == twAt (m + j)) = false) (h2 : (n == twAt (m + k)) = true) : wkF n m f = m + k := by
  induction f generalizing m k with
  | zero => omega
  | succ f ih =>
    unfold wkF
    cases k with
    | zero => rw [if_pos (by simpa using h2)]; rfl
    | succ k =>
      rw [if_neg (by have := h1 0 (by omega); simpa using this), ih (k := k) (by omega) (fun j hj => by have := h1 (j + 1) (by omega); rwa [Nat.add_right_comm, Nat.add_assoc m j 1] ) (by rwa [Nat.add_right_comm, Nat.add_assoc m k 1])]
      omega
theorem wkF_none {n : List UInt8} {m f : Nat} (h1 : ∀ j, j < f → (n == twAt (m + j)) = false) : wkF n m f = 2 := by
  induction f generalizing m with
  | zero => rfl
  | succ f ih =>
    unfold wkF
    rw [if_neg (by have := h1 0 (by omega); simpa using this), ih (fun j hj => by have := h1 (j + 1) (by omega); rwa [Nat.add_right_comm, Nat.add_assoc m j 1])]
theorem resB_iff (n : List UInt8) : resB n = true ↔ ∃ j, j < 36 ∧ (n == twAt (14 + j)) = true := by
  unfold resB
  rw [List.contains_iff_mem]
  constructor
  · intro h
    obtain ⟨j, hj, he⟩ := List.mem_iff_getElem.1 h
    have h36 : rw.length = 36 := by decide
    refine ⟨j, by omega, ?_⟩
    have : twAt (14 + j) = rw[j] := by
      unfold twAt
      rw [List.getD_eq_getElem?_getD, ← List.getElem?_drop]
      show (rw[j]?).getD [] = _
      rw [List.getElem?_eq_getElem hj]; rfl
    rw [this, he]; simp
  · rintro ⟨j, hj, he⟩
    have h36 : rw.length = 36 := by decide
    have : twAt (14 + j) = rw[j]'(by omega) := by
      unfold twAt
      rw [List.getD_eq_getElem?_getD, ← List.getElem?_drop]
      show (rw[j]?).getD [] = _
      rw [List.getElem?_eq_getElem (by omega)]; rfl
    have he' : n = twAt (14 + j) := by simpa using he
    rw [he', this]
    exact List.getElem_mem _
theorem wk_name (n : List UInt8) : ((wk n : Int) == 2) = !resB n := by
  cases h : resB n with
  | true =>
    obtain ⟨j, hj, he⟩ := (resB_iff n).1 h
    have : wk n ≠ 2 := by
      unfold wk
      have hex : ∃ k, k < 36 ∧ (n == twAt (14 + k)) = true ∧ ∀ j, j < k → (n == twAt (14 + j)) = false := by
        induction j using Nat.strongRecOn with
        | ind j ih =>
          by_cases hall : ∀ i, i < j → (n == twAt (14 + i)) = false
          · exact ⟨j, hj, he, hall⟩
          · simp only [Classical.not_forall] at hall
            obtain ⟨i, hi, hne⟩ := hall
            exact ih i hi (by omega) (by simpa using hne)
      obtain ⟨k, hk, h1, h2⟩ := hex
      rw [wkF_first hk h2 h1]
      omega
    simp; omega
  | false =>
    have hall : ∀ j, j < 36 → (n == twAt (14 + j)) = false := fun j hj => by
      cases hc : (n == twAt (14 + j)) with
      | false => rfl
      | true => rw [(resB_iff n).2 ⟨j, hj, hc⟩] at h; cases h
    unfold wk
    rw [wkF_none hall]
    rfl

def letB (c : UInt8) : Bool := 97 ≤ c.toNat && c.toNat ≤ 122
def digB (c : UInt8) : Bool := 48 ≤ c.toNat && c.toNat ≤ 57
def wB (c : UInt8) : Bool := letB c || digB c || c.toNat == 95
/-- A name: a word that is not reserved. -/
def nameB (n : List UInt8) : Bool := 1 ≤ n.length && n.length ≤ 16 && letB (n.getD 0 0) && n.all wB && !resB n

/-! Ops. -/
def opMax (k : Int) : Int := if k = 1 then 999999999 else if k = 3 then 12 else if k = 4 then 15 else if k = 5 then 15 else if k = 6 then 1 else if k = 9 then 7 else if k = 10 then 2 else 0
def opB (o : Po) : Bool := decide (1 ≤ o.k) && decide (o.k ≤ 10) && decide (0 ≤ o.v) && decide (o.v ≤ opMax o.k) && (if o.k = 2 then nameB o.n else o.n == [])
/-- How many operands an Op takes. -/
def ar (o : Po) : Nat := if o.k = 7 ∨ o.k = 8 then 1 else if o.k = 9 then 2 else if o.k = 10 then (if o.v = 2 then 3 else 2) else 0
/-- Expressions. -/
inductive Tr where
  | leaf (o : Po)
  | pre (o : Po) (a : Tr)
  | bin (o : Po) (a b : Tr)
  | two (o : Po) (a b : Tr)
  | three (o : Po) (a b c : Tr)
def Tr.op : Tr → Po
  | .leaf o | .pre o _ | .bin o _ _ | .two o _ _ | .three o _ _ _ => o
def bstr (v : Int) : Int := if v = 0 then 5 else if v = 1 ∨ v = 2 then 4 else if v = 6 then 2 else if v = 7 then 1 else 3
def pstr (o : Po) : Int := if o.k = 9 then bstr o.v else if o.k = 7 ∨ o.k = 8 then 6 else 7
def Tr.str (t : Tr) : Int := pstr t.op
def lL (s : Int) : Int := if s = 3 then 4 else s
/-- The nesting of an operand that stands in parentheses where it is weaker than the least. -/
def opn (n s least : Int) : Int := if s < least then n + 1 else n
def Tr.nst : Tr → Int
  | .leaf _ => 0
  | .pre _ a => 1 + opn a.nst a.str 6
  | .bin o a b => max (opn a.nst a.str (lL (bstr o.v))) (opn b.nst b.str (bstr o.v + 1))
  | .two _ a b => 1 + max a.nst b.nst
  | .three _ a b c => 1 + max (max a.nst b.nst) c.nst
/-- The node over operands. -/
def mk (o : Po) : List Tr → Tr
  | [a] => .pre o a
  | [a, b] => if o.k = 9 then .bin o a b else .two o a b
  | [a, b, c] => .three o a b c
  | _ => .leaf o
/-- The stack of trees behind the first n Ops, the last on top (at the end). -/
def stk (E : Nat → Po) : Nat → Option (List Tr)
  | 0 => some []
  | n + 1 => (stk E n).bind fun s => if opB (E n) = true ∧ ar (E n) ≤ s.length then some (s.take (s.length - ar (E n)) ++ [mk (E n) (s.drop (s.length - ar (E n)))]) else none
def exprB (E : Nat → Po) (n : Nat) : Bool := match stk E n with
  | some [t] => decide (t.nst ≤ 64)
  | _ => false
theorem stk_none {E : Nat → Po} {m n : Nat} (h : stk E m = none) (hmn : m ≤ n) : stk E n = none := by
  induction n with
  | zero => obtain rfl : m = 0 := by omega
            exact h
  | succ n ih =>
    by_cases e : m = n + 1
    · rw [← e]; exact h
    · simp [stk, ih (by omega)]
theorem exprB_none {E : Nat → Po} {m n : Nat} (h : stk E m = none) (hmn : m ≤ n) : exprB E n = false := by
  unfold exprB; rw [stk_none h hmn]
end Go.Proofs.YthobdaeglhdhnaaGreatDoor.Syn
