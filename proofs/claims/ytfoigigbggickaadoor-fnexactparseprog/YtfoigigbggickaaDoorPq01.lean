import Derived.Deep.MidRow
import Derived.Laws.MakeOwn
import Derived.Below
import Derived.Handy
import Derived.Deep.Draws
namespace Go.Proofs.YtfoigigbggickaaDoor.Mem
open Go Go.RowKit
set_option linter.unusedVariables false

/-- Of a slice's header: it has no element, or it leads to a block in which element i lies from cell 'off + i * k' on. -/
def SliceAt (w : World) (a : Option Addr) (n k : Nat) (C : Nat → List Value) : Prop :=
  n = 0 ∨ ∃ b off, a = some ⟨b, off, none⟩ ∧ ∀ i, i < n → w.rangeAt b (off + i * k) (C i)

theorem Hid.mk {p : Prop} (h : p) : Hid p := h
theorem below_drewN' {B : Nat} {a w : World} (h : Below B a w) (n : Nat) : Below B a (w.drewN n) := h.trans ⟨rfl, rfl, rfl, Nat.le_refl _, fun _ _ => rfl⟩
theorem below_then {w W w1 : World} (h : Below w.heap.size w W) (hb : Below W.heap.size W w1) : Below w.heap.size w w1 := h.trans (hb.mono h.size)

theorem lt_of_cell {w : World} {b o : Nat} {v : Value} (h : w.cell? ⟨b, o, none⟩ = some v) : b < w.heap.size := World.block_lt_of_cell? w _ h

theorem rangeAt_below {w w' : World} {b o : Nat} {cs : List Value} (h : w.rangeAt b o cs) (hb : Below w.heap.size w w') : w'.rangeAt b o cs := fun j v hv => by
  have := h j v hv
  rw [hb.cell (p := ⟨b, o + j, none⟩) (lt_of_cell this)]; exact this

theorem cell_keep {W w1 : World} (hb : Below W.heap.size W w1) {p : Addr} {v : Value} (h : W.cell? p = some v) : w1.cell? p = some v := by
  rw [hb.cell (World.block_lt_of_cell? W _ h)]; exact h

theorem SliceAt.below {w w' : World} {a : Option Addr} {n k : Nat} {C : Nat → List Value} (h : SliceAt w a n k C) (hb : Below w.heap.size w w') : SliceAt w' a n k C := by
  rcases h with h | ⟨b, off, ha, h⟩
  · exact Or.inl h
  · exact Or.inr ⟨b, off, ha, fun i hi => rangeAt_below (h i hi) hb⟩

theorem there_below {w w' : World} {B b o n : Nat} (h : w.there b o n) (hB : b < B) (hb : Below B w w') : w'.there b o n := fun j hj => by
  rw [hb.cell (p := ⟨b, o + j, none⟩) hB, hb.frozen (p := ⟨b, o + j, none⟩) hB]; exact h j hj

theorem there_made (w : World) (c : Array Value) (t : TypeId) : (w.alloc (.cells c t)).there w.heap.size 0 c.size := fun j hj => by
  simp only [Nat.zero_add]
  constructor
  · rw [World.cell?_alloc_at c t _ j rfl, Array.getElem?_eq_getElem hj]; rfl
  · exact World.frozen?_alloc_at c t _ j rfl

theorem size_set (w : World) (p : Addr) (v : Value) : (w.setCell p v).heap.size = w.heap.size := by simp [World.setCell]

theorem blk_cell {w : World} {g : Nat} {cs : Array Value} {t : TypeId} {fr : Nat × Nat} (h : w.heap[g]? = some (.cells cs t fr)) (i : Nat) : w.cell? ⟨g, i, none⟩ = cs[i]? := by simp [World.cell?, h]
theorem blk_unfrozen {w : World} {g : Nat} {cs : Array Value} {t : TypeId} (h : w.heap[g]? = some (.cells cs t (0, 0))) (i : Nat) : w.frozen? ⟨g, i, none⟩ = false := by simp [World.frozen?, h]
theorem blk_set {w : World} {g : Nat} {cs : Array Value} {t : TypeId} {fr : Nat × Nat} (h : w.heap[g]? = some (.cells cs t fr)) (i : Nat) (v : Value) : (w.setCell ⟨g, i, none⟩ v).heap[g]? = some (.cells (cs.setIfInBounds i v) t fr) := by
  simp [World.setCell, Array.getElem?_modify, h]
theorem blk_set_other {w : World} {g : Nat} {o : Obj} (h : w.heap[g]? = some o) {p : Addr} (hne : g ≠ p.block) (v : Value) : (w.setCell p v).heap[g]? = some o := by
  rw [Below.heap_setCell _ _ _ _ hne]; exact h
theorem blk_lt {w : World} {g : Nat} {o : Obj} (h : w.heap[g]? = some o) : g < w.heap.size := (Array.getElem?_eq_some_iff.1 h).1
theorem blk_below {w w' : World} {g : Nat} {o : Obj} (h : w.heap[g]? = some o) (hb : Below w.heap.size w w') : w'.heap[g]? = some o := by rw [hb.block g (blk_lt h)]; exact h
theorem blk_alloc {w : World} {g : Nat} {o : Obj} (h : w.heap[g]? = some o) (o' : Obj) : (w.alloc o').heap[g]? = some o := by rw [Below.heap_alloc _ _ _ (blk_lt h)]; exact h
theorem blk_new (w : World) (o : Obj) : (w.alloc o).heap[w.heap.size]? = some o := by show (w.heap.push o)[w.heap.size]? = some o; simp
theorem blk_new1 (w : World) (o o' : Obj) : ((w.alloc o').alloc o).heap[w.heap.size + 1]? = some o := by have := blk_new (w.alloc o') o; simpa using this
/-- 'make([]T, n)', T of whatever size, at a length that is a variable: for every world. -/
theorem run_make_n {P : Program} (t e : TypeId) (z : Value) (k bytes : Nat) (ht : P.underlying t = some (.slice e)) (hinfo : (P.info? e).map (fun i => (i.zero, i.size, i.bytes)) = some (some z, k, bytes))
    (n : Nat) (hn : n ≤ 1048576) (hb : bytes ≤ 1000) (w : World) :
    (Instr.makeSlice t (.int .i64 n) (.int .i64 n)).run P w = .ok (.slice (some ⟨w.heap.size, 0, none⟩) n n) (w.alloc (.cells (madeCells z.cells (n * k)) e)) := by
  cases hq : P.info? e with
  | none => simp [hq] at hinfo
  | some i =>
    simp only [hq, Option.map_some, Option.some.injEq, Prod.mk.injEq] at hinfo
    obtain ⟨h1, h2, h3⟩ := hinfo
    have hm : (i.bytes : Int) * (n : Int) ≤ 281474976710656 := by
      have h4 : i.bytes * n ≤ 1000 * 1048576 := Nat.mul_le_mul (by omega) hn
      have h5 : (i.bytes : Int) * (n : Int) = ((i.bytes * n : Nat) : Int) := by simp
      rw [h5]; omega
    have := run_make (P := P) w t e i z ht hq h1 .i64 .i64 n n (by omega) (by omega) hm (by omega)
    rw [this, h2]
    simp

/-- The block that 'make' lays, element by element there. -/
theorem there_make (w : World) (z : Array Value) (e : TypeId) (n : Nat) : (w.alloc (.cells (madeCells z n) e)).there w.heap.size 0 n := by
  have := there_made w (madeCells z n) e
  rwa [size_madeCells] at this

structure Veh where
  (a b x y o c h : Int)
structure Req where
  (a b x y o c h x' y' o' c' h' : Int)
structure Rd where
  (a b t : Int)
def Veh.cells (v : Veh) : List Value := [.int .i64 v.a, .int .i64 v.b, .int .i64 v.x, .int .i64 v.y, .int .i64 v.o, .int .i64 v.c, .int .i64 v.h]
def Req.cells (q : Req) : List Value := [.int .i64 q.a, .int .i64 q.b, .int .i64 q.x, .int .i64 q.y, .int .i64 q.o, .int .i64 q.c, .int .i64 q.h, .int .i64 q.x', .int .i64 q.y', .int .i64 q.o', .int .i64 q.c', .int .i64 q.h']
def Rd.cells (r : Rd) : List Value := [.int .i64 r.a, .int .i64 r.b, .int .i64 r.t]
theorem Veh.at {w : World} {b o : Nat} {v : Veh} (h : w.rangeAt b o v.cells) : w.cell? ⟨b, o, none⟩ = some (.int .i64 v.a) ∧ w.cell? ⟨b, o + 1, none⟩ = some (.int .i64 v.b) ∧ w.cell? ⟨b, o + 2, none⟩ = some (.int .i64 v.x) ∧ w.cell? ⟨b, o + 3, none⟩ = some (.int .i64 v.y) ∧ w.cell? ⟨b, o + 4, none⟩ = some (.int .i64 v.o) ∧ w.cell? ⟨b, o + 5, none⟩ = some (.int .i64 v.c) ∧ w.cell? ⟨b, o + 6, none⟩ = some (.int .i64 v.h) :=
  ⟨h 0 _ rfl, h 1 _ rfl, h 2 _ rfl, h 3 _ rfl, h 4 _ rfl, h 5 _ rfl, h 6 _ rfl⟩
theorem Veh.len (v : Veh) : v.cells.length = 7 := rfl
theorem Veh.one (v : Veh) : v.cells.toArray.all (·.oneCell') = true := by simp [Veh.cells, Value.oneCell']
theorem Req.at {w : World} {b o : Nat} {v : Req} (h : w.rangeAt b o v.cells) : w.cell? ⟨b, o, none⟩ = some (.int .i64 v.a) ∧ w.cell? ⟨b, o + 1, none⟩ = some (.int .i64 v.b) ∧ w.cell? ⟨b, o + 2, none⟩ = some (.int .i64 v.x) ∧ w.cell? ⟨b, o + 3, none⟩ = some (.int .i64 v.y) ∧ w.cell? ⟨b, o + 4, none⟩ = some (.int .i64 v.o) ∧ w.cell? ⟨b, o + 5, none⟩ = some (.int .i64 v.c) ∧ w.cell? ⟨b, o + 6, none⟩ = some (.int .i64 v.h) ∧ w.cell? ⟨b, o + 7, none⟩ = some (.int .i64 v.x') ∧ w.cell? ⟨b, o + 8, none⟩ = some (.int .i64 v.y') ∧ w.cell? ⟨b, o + 9, none⟩ = some (.int .i64 v.o') ∧ w.cell? ⟨b, o + 10, none⟩ = some (.int .i64 v.c') ∧ w.cell? ⟨b, o + 11, none⟩ = some (.int .i64 v.h') :=
  ⟨h 0 _ rfl, h 1 _ rfl, h 2 _ rfl, h 3 _ rfl, h 4 _ rfl, h 5 _ rfl, h 6 _ rfl, h 7 _ rfl, h 8 _ rfl, h 9 _ rfl, h 10 _ rfl, h 11 _ rfl⟩
theorem Req.len (v : Req) : v.cells.length = 12 := rfl
theorem Req.one (v : Req) : v.cells.toArray.all (·.oneCell') = true := by simp [Req.cells, Value.oneCell']
theorem Rd.at {w : World} {b o : Nat} {v : Rd} (h : w.rangeAt b o v.cells) : w.cell? ⟨b, o, none⟩ = some (.int .i64 v.a) ∧ w.cell? ⟨b, o + 1, none⟩ = some (.int .i64 v.b) ∧ w.cell? ⟨b, o + 2, none⟩ = some (.int .i64 v.t) :=
  ⟨h 0 _ rfl, h 1 _ rfl, h 2 _ rfl⟩
theorem Rd.len (v : Rd) : v.cells.length = 3 := rfl
theorem Rd.one (v : Rd) : v.cells.toArray.all (·.oneCell') = true := by simp [Rd.cells, Value.oneCell']
structure In where
  (nV nQ nR : Nat) (V : Nat → Veh) (Q : Nat → Req) (R : Nat → Rd)
/-- The three slices of an instance lie in the world. -/
structure InAt (w : World) (a1 a2 a3 : Option Addr) (I : In) : Prop where
  v : SliceAt w a1 I.nV 7 (fun i => (I.V i).cells)
  q : SliceAt w a2 I.nQ 12 (fun i => (I.Q i).cells)
  r : SliceAt w a3 I.nR 3 (fun i => (I.R i).cells)
theorem InAt.below {w w' : World} {a1 a2 a3 : Option Addr} {I : In} (h : InAt w a1 a2 a3 I) (hb : Below w.heap.size w w') : InAt w' a1 a2 a3 I := ⟨h.v.below hb, h.q.below hb, h.r.below hb⟩
end Go.Proofs.YtfoigigbggickaaDoor.Mem
namespace Go.Proofs.YtfoigigbggickaaDoor.Mem
open Go Go.RowKit
set_option linter.unusedVariables false

theorem below_alloc' {w W : World} (h : Below w.heap.size w W) (o : Obj) : Below w.heap.size w (W.alloc o) := h.alloc h.size o
end Go.Proofs.YtfoigigbggickaaDoor.Mem
namespace Go.Proofs.YtfoigigbggickaaDoor.Syn
open Go Go.RowKit Go.Proofs.YtfoigigbggickaaDoor.Mem
set_option linter.unusedVariables false

/-- One Op of a postfix list. -/
structure Po where
  (k v : Int) (n : List UInt8)
instance : Inhabited Po := ⟨⟨0, 0, []⟩⟩
def Po.cells (o : Po) : List Value := [.int .i64 o.k, .int .i64 o.v, .string ⟨o.n.toArray⟩]
theorem Po.len (v : Po) : v.cells.length = 3 := rfl
theorem Po.one (v : Po) : v.cells.toArray.all (·.oneCell') = true := by simp [Po.cells, Value.oneCell']
theorem Po.at {w : World} {b o : Nat} {v : Po} (h : w.rangeAt b o v.cells) : w.cell? ⟨b, o, none⟩ = some (.int .i64 v.k) ∧ w.cell? ⟨b, o + 1, none⟩ = some (.int .i64 v.v) ∧ w.cell? ⟨b, o + 2, none⟩ = some (.string ⟨v.n.toArray⟩) :=
  ⟨h 0 _ rfl, h 1 _ rfl, h 2 _ rfl⟩
def tw : List (List UInt8) := [[], [], [], [59], [44], [40], [41], [46, 46], [42], [43], [45], [60], [60, 61], [61], [97, 110, 100], [111, 114], [108, 101, 116], [101, 97, 99, 104], [101, 110, 100], [115, 117, 109], [110, 101, 118, 101, 114], [97, 112, 97, 114, 116], [108, 105, 102, 111], [114, 105, 100, 101], [115, 116, 114, 101, 97, 107], [109, 105, 110], [109, 97, 120], [105, 102], [102, 97, 108, 115, 101], [116, 114, 117, 101], [116, 105, 109, 101], [108, 101, 103], [119, 97, 105, 116], [100, 105, 115, 116], [108, 111, 97, 100], [115, 105, 122, 101], [111, 112, 101, 110], [99, 108, 111, 115, 101], [104, 111, 108, 100], [114, 111, 111, 109], [112, 111, 115], [112, 105, 99, 107], [100, 114, 111, 112], [102, 114, 111, 109], [105, 110], [116, 104, 101, 110], [109, 111, 115, 116], [110, 111, 116], [104, 97, 115], [115, 107, 105, 108, 108]]
def twAt (m : Nat) : List UInt8 := tw.getD m []
/-- The words that are reserved. -/
def rw : List (List UInt8) := tw.drop 14
def resB (n : List UInt8) : Bool := rw.contains n
/-- The kind of a word from token m on. -/
def wkF (n : List UInt8) (m : Nat) : Nat → Nat
  | 0 => 2
  | f + 1 => if n == twAt m then m else wkF n (m + 1) f
def wk (n : List UInt8) : Nat := wkF n 14 36
theorem wkF_first {n : List UInt8} {m f k : Nat} (hk : k < f) (h1 : ∀ j, j < k → (n == twAt (m + j)) = false) (h2 : (n == twAt (m + k)) = true) : wkF n m f = m + k := by
  induction f generalizing m k with
  | zero => omega
  | succ f ih =>
    unfold wkF
    cases k with
    | zero => rw [if_pos (by simpa using h2)]; rfl
    | succ k =>
      rw [if_neg (by have := h1 0 (by omega); simpa using this), ih (k := k) (by omega) (fun j hj => by have := h1 (j + 1) (by omega); rwa [Nat.add_right_comm, Nat.add_assoc m j 1] ) (by rwa [Nat.add_right_comm, Nat.add_assoc m k 1])]
      omega
theorem wkF_none {n : List UInt8} {m f : Nat} (h1 : ∀ j, j < f → (n == twAt (m + j)) = false) : wkF n m f = 2 := by
  induction f generalizing m with
  | zero => rfl
  | succ f ih =>
    unfold wkF
    rw [if_neg (by have := h1 0 (by omega); simpa using this), ih (fun j hj => by have := h1 (j + 1) (by omega); rwa [Nat.add_right_comm, Nat.add_assoc m j 1])]
theorem resB_iff (n : List UInt8) : resB n = true ↔ ∃ j, j < 36 ∧ (n == twAt (14 + j)) = true := by
  unfold resB
  rw [List.contains_iff_mem]
  constructor
  · intro h
    obtain ⟨j, hj, he⟩ := List.mem_iff_getElem.1 h
    have h36 : rw.length = 36 := by decide
    refine ⟨j, by omega, ?_⟩
    have : twAt (14 + j) = rw[j] := by
      unfold twAt
      rw [List.getD_eq_getElem?_getD, ← List.getElem?_drop]
      show (rw[j]?).getD [] = _
      rw [List.getElem?_eq_getElem hj]; rfl
    rw [this, he]; simp
  · rintro ⟨j, hj, he⟩
    have h36 : rw.length = 36 := by decide
    have : twAt (14 + j) = rw[j]'(by omega) := by
      unfold twAt
      rw [List.getD_eq_getElem?_getD, ← List.getElem?_drop]
      show (rw[j]?).getD [] = _
      rw [List.getElem?_eq_getElem (by omega)]; rfl
    have he' : n = twAt (14 + j) := by simpa using he
    rw [he', this]
    exact List.getElem_mem _
theorem wk_name (n : List UInt8) : ((wk n : Int) == 2) = !resB n := by
  cases h : resB n with
  | true =>
    obtain ⟨j, hj, he⟩ := (resB_iff n).1 h
    have : wk n ≠ 2 := by
      unfold wk
      have hex : ∃ k, k < 36 ∧ (n == twAt (14 + k)) = true ∧ ∀ j, j < k → (n == twAt (14 + j)) = false := by
        induction j using Nat.strongRecOn with
        | ind j ih =>
          by_cases hall : ∀ i, i < j → (n == twAt (14 + i)) = false
          · exact ⟨j, hj, he, hall⟩
          · simp only [Classical.not_forall] at hall
            obtain ⟨i, hi, hne⟩ := hall
            exact ih i hi (by omega) (by simpa using hne)
      obtain ⟨k, hk, h1, h2⟩ := hex
      rw [wkF_first hk h2 h1]
      omega
    simp; omega
  | false =>
    have hall : ∀ j, j < 36 → (n == twAt (14 + j)) = false := fun j hj => by
      cases hc : (n == twAt (14 + j)) with
      | false => rfl
      | true => rw [(resB_iff n).2 ⟨j, hj, hc⟩] at h; cases h
    unfold wk
    rw [wkF_none hall]
    rfl

def letB (c : UInt8) : Bool := 97 ≤ c.toNat && c.toNat ≤ 122
def digB (c : UInt8) : Bool := 48 ≤ c.toNat && c.toNat ≤ 57
def wB (c : UInt8) : Bool := letB c || digB c || c.toNat == 95
def opMax (k : Int) : Int := if k = 1 then 999999999 else if k = 3 then 12 else if k = 4 then 15 else if k = 5 then 15 else if k = 6 then 1 else if k = 9 then 7 else if k = 10 then 2 else 0
/-- Expressions. -/
inductive Tr where
  | leaf (o : Po)
  | pre (o : Po) (a : Tr)
  | bin (o : Po) (a b : Tr)
  | two (o : Po) (a b : Tr)
  | three (o : Po) (a b c : Tr)
def Tr.op : Tr → Po
  | .leaf o | .pre o _ | .bin o _ _ | .two o _ _ | .three o _ _ _ => o
def bstr (v : Int) : Int := if v = 0 then 5 else if v = 1 ∨ v = 2 then 4 else if v = 6 then 2 else if v = 7 then 1 else 3
def lL (s : Int) : Int := if s = 3 then 4 else s
/-- The nesting of an operand that stands in parentheses where it is weaker than the least. -/
def opn (n s least : Int) : Int := if s < least then n + 1 else n
/-- The node over operands. -/
def mk (o : Po) : List Tr → Tr
  | [a] => .pre o a
  | [a, b] => if o.k = 9 then .bin o a b else .two o a b
  | [a, b, c] => .three o a b c
  | _ => .leaf o
end Go.Proofs.YtfoigigbggickaaDoor.Syn
