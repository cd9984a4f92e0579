import Derived.Deep.MidRow
import Derived.Laws.MakeOwn
import Derived.Below
import Derived.Handy
import Derived.Deep.Draws
namespace Go.Proofs.YtefkdpppcjlflaaGreatDoor.Mem
open Go Go.RowKit
set_option linter.unusedVariables false

/-- Of a slice's header: it has no element, or it leads to a block in which element i lies from cell 'off + i * k' on. -/
def SliceAt (w : World) (a : Option Addr) (n k : Nat) (C : Nat → List Value) : Prop :=
  n = 0 ∨ ∃ b off, a = some ⟨b, off, none⟩ ∧ ∀ i, i < n → w.rangeAt b (off + i * k) (C i)

theorem Hid.mk {p : Prop} (h : p) : Hid p := h
theorem below_drewN' {B : Nat} {a w : World} (h : Below B a w) (n : Nat) : Below B a (w.drewN n) := h.trans ⟨rfl, rfl, rfl, Nat.le_refl _, fun _ _ => rfl⟩
theorem below_then {w W w1 : World} (h : Below w.heap.size w W) (hb : Below W.heap.size W w1) : Below w.heap.size w w1 := h.trans (hb.mono h.size)

theorem bcell {W w1 : World} (hb : Below W.heap.size W w1) : (∀ b o, b < W.heap.size → w1.cell? ⟨b, o, none⟩ = W.cell? ⟨b, o, none⟩) ∧ (∀ b o, b < W.heap.size → w1.frozen? ⟨b, o, none⟩ = W.frozen? ⟨b, o, none⟩) :=
  ⟨fun b o h => hb.cell (p := ⟨b, o, none⟩) h, fun b o h => hb.frozen (p := ⟨b, o, none⟩) h⟩

theorem lt_of_cell {w : World} {b o : Nat} {v : Value} (h : w.cell? ⟨b, o, none⟩ = some v) : b < w.heap.size := World.block_lt_of_cell? w _ h

theorem rangeAt_below {w w' : World} {b o : Nat} {cs : List Value} (h : w.rangeAt b o cs) (hb : Below w.heap.size w w') : w'.rangeAt b o cs := fun j v hv => by
  have := h j v hv
  rw [hb.cell (p := ⟨b, o + j, none⟩) (lt_of_cell this)]; exact this

theorem cell_keep {W w1 : World} (hb : Below W.heap.size W w1) {p : Addr} {v : Value} (h : W.cell? p = some v) : w1.cell? p = some v := by
  rw [hb.cell (World.block_lt_of_cell? W _ h)]; exact h

theorem SliceAt.below {w w' : World} {a : Option Addr} {n k : Nat} {C : Nat → List Value} (h : SliceAt w a n k C) (hb : Below w.heap.size w w') : SliceAt w' a n k C := by
  rcases h with h | ⟨b, off, ha, h⟩
  · exact Or.inl h
  · exact Or.inr ⟨b, off, ha, fun i hi => rangeAt_below (h i hi) hb⟩

theorem there_below {w w' : World} {B b o n : Nat} (h : w.there b o n) (hB : b < B) (hb : Below B w w') : w'.there b o n := fun j hj => by
  rw [hb.cell (p := ⟨b, o + j, none⟩) hB, hb.frozen (p := ⟨b, o + j, none⟩) hB]; exact h j hj

theorem there_made (w : World) (c : Array Value) (t : TypeId) : (w.alloc (.cells c t)).there w.heap.size 0 c.size := fun j hj => by
  simp only [Nat.zero_add]
  constructor
  · rw [World.cell?_alloc_at c t _ j rfl, Array.getElem?_eq_getElem hj]; rfl
  · exact World.frozen?_alloc_at c t _ j rfl

theorem there_part {w : World} {b o n o' n' : Nat} (h : w.there b o n) (h1 : o ≤ o') (h2 : o' + n' ≤ o + n) : w.there b o' n' := fun j hj => by
  have := h (o' - o + j) (by omega)
  rw [show o + (o' - o + j) = o' + j from by omega] at this
  exact this

theorem Below.setCells' {B : Nat} {a : World} (b : Nat) (hB : B ≤ b) : ∀ (vs : List Value) (o : Nat) (w : World), Below B a w → Below B a (w.setCells b o vs)
  | [], _, _, h => h
  | v :: r, o, w, h => Below.setCells' b hB r (o + 1) _ (h.setCell (p := ⟨b, o, none⟩) hB v)

theorem size_setCells (b : Nat) : ∀ (vs : List Value) (o : Nat) (w : World), (w.setCells b o vs).heap.size = w.heap.size
  | [], _, _ => rfl
  | v :: r, o, w => by rw [World.setCells, size_setCells b r]; simp [World.setCell]

theorem rangeAt_set_other {w : World} {b o : Nat} {cs : List Value} (h : w.rangeAt b o cs) {p : Addr} (hne : p.block ≠ b) (v : Value) : (w.setCell p v).rangeAt b o cs := fun j u hu => by
  rw [World.cell?_setCell_other _ _ _ _ (fun e => hne (by rw [e]))]; exact h j u hu
theorem there_set {w : World} {b o n : Nat} (h : w.there b o n) (p : Addr) (hne : p.block ≠ b) (v : Value) : (w.setCell p v).there b o n := fun j hj => by
  rw [World.cell?_setCell_other _ _ _ _ (fun e => hne (by rw [e])), World.frozen?_setCell]; exact h j hj
theorem below_set {w W : World} (h : Below w.heap.size w W) (p : Addr) (hp : w.heap.size ≤ p.block) (v : Value) : Below w.heap.size w (W.setCell p v) := h.setCell hp v
theorem size_set (w : World) (p : Addr) (v : Value) : (w.setCell p v).heap.size = w.heap.size := by simp [World.setCell]

theorem blk_cell {w : World} {g : Nat} {cs : Array Value} {t : TypeId} {fr : Nat × Nat} (h : w.heap[g]? = some (.cells cs t fr)) (i : Nat) : w.cell? ⟨g, i, none⟩ = cs[i]? := by simp [World.cell?, h]
theorem blk_unfrozen {w : World} {g : Nat} {cs : Array Value} {t : TypeId} (h : w.heap[g]? = some (.cells cs t (0, 0))) (i : Nat) : w.frozen? ⟨g, i, none⟩ = false := by simp [World.frozen?, h]
theorem blk_set {w : World} {g : Nat} {cs : Array Value} {t : TypeId} {fr : Nat × Nat} (h : w.heap[g]? = some (.cells cs t fr)) (i : Nat) (v : Value) : (w.setCell ⟨g, i, none⟩ v).heap[g]? = some (.cells (cs.setIfInBounds i v) t fr) := by
  simp [World.setCell, Array.getElem?_modify, h]
theorem blk_set_other {w : World} {g : Nat} {o : Obj} (h : w.heap[g]? = some o) {p : Addr} (hne : g ≠ p.block) (v : Value) : (w.setCell p v).heap[g]? = some o := by
  rw [Below.heap_setCell _ _ _ _ hne]; exact h
theorem blk_lt {w : World} {g : Nat} {o : Obj} (h : w.heap[g]? = some o) : g < w.heap.size := (Array.getElem?_eq_some_iff.1 h).1
theorem blk_below {w w' : World} {g : Nat} {o : Obj} (h : w.heap[g]? = some o) (hb : Below w.heap.size w w') : w'.heap[g]? = some o := by rw [hb.block g (blk_lt h)]; exact h
theorem blk_alloc {w : World} {g : Nat} {o : Obj} (h : w.heap[g]? = some o) (o' : Obj) : (w.alloc o').heap[g]? = some o := by rw [Below.heap_alloc _ _ _ (blk_lt h)]; exact h
theorem blk_new (w : World) (o : Obj) : (w.alloc o).heap[w.heap.size]? = some o := by show (w.heap.push o)[w.heap.size]? = some o; simp
theorem blk_new1 (w : World) (o o' : Obj) : ((w.alloc o').alloc o).heap[w.heap.size + 1]? = some o := by have := blk_new (w.alloc o') o; simpa using this
theorem blk_new2 (w : World) (o o' o'' : Obj) : (((w.alloc o'').alloc o').alloc o).heap[w.heap.size + 1 + 1]? = some o := by have := blk_new ((w.alloc o'').alloc o') o; simpa using this

/-- 'make([]T, n)', T of whatever size, at a length that is a variable: for every world. -/
theorem run_make_n {P : Program} (t e : TypeId) (z : Value) (k bytes : Nat) (ht : P.underlying t = some (.slice e)) (hinfo : (P.info? e).map (fun i => (i.zero, i.size, i.bytes)) = some (some z, k, bytes))
    (n : Nat) (hn : n ≤ 1048576) (hb : bytes ≤ 1000) (w : World) :
    (Instr.makeSlice t (.int .i64 n) (.int .i64 n)).run P w = .ok (.slice (some ⟨w.heap.size, 0, none⟩) n n) (w.alloc (.cells (madeCells z.cells (n * k)) e)) := by
  cases hq : P.info? e with
  | none => simp [hq] at hinfo
  | some i =>
    simp only [hq, Option.map_some, Option.some.injEq, Prod.mk.injEq] at hinfo
    obtain ⟨h1, h2, h3⟩ := hinfo
    have hm : (i.bytes : Int) * (n : Int) ≤ 281474976710656 := by
      have h4 : i.bytes * n ≤ 1000 * 1048576 := Nat.mul_le_mul (by omega) hn
      have h5 : (i.bytes : Int) * (n : Int) = ((i.bytes * n : Nat) : Int) := by simp
      rw [h5]; omega
    have := run_make (P := P) w t e i z ht hq h1 .i64 .i64 n n (by omega) (by omega) hm (by omega)
    rw [this, h2]
    simp

/-- The block that 'make' lays, element by element there. -/
theorem there_make (w : World) (z : Array Value) (e : TypeId) (n : Nat) : (w.alloc (.cells (madeCells z n) e)).there w.heap.size 0 n := by
  have := there_made w (madeCells z n) e
  rwa [size_madeCells] at this

/-- What lies in a block that was being filled, behind one element more. -/
theorem fill_step {w : World} {B k m : Nat} {C : Nat → List Value} (hk : ∀ i, i < m + 1 → (C i).length = k) (ht : w.there B 0 ((m + 1) * k)) (hf : ∀ i, i < m → w.rangeAt B (0 + i * k) (C i)) :
    ∀ i, i < m + 1 → (w.setCells B (m * k) (C m)).rangeAt B (0 + i * k) (C i) := fun i hi => by
  by_cases h : i < m
  · refine World.rangeAt_setCells_apart (hf i h) _ _ _ (Or.inr (Or.inl ?_))
    rw [hk i hi]
    have := Nat.mul_le_mul_right k (show i + 1 ≤ m from h)
    rw [Nat.succ_mul] at this
    omega
  · have : i = m := by omega
    subst this
    rw [Nat.zero_add]
    refine World.rangeAt_setCells_same _ _ _ _ (there_part ht (by omega) ?_)
    rw [hk i hi, Nat.succ_mul]; omega

/-- A store of many cells, met by its very shape. -/
theorem wpList_store_pat {P : Program} {ops : Array Oper} {rest : List Oper} {Q : Exit → Act → World → Prop} {dst : Option Nat} {t : TypeId} {p : String} {af : Array Edge} {a : Act} {w : World} (ty : TypeId) (x y : Operand) (b o : Nat) (cells : Array Value)
    (hx : a.eval x = .pointer (some ⟨b, o, none⟩)) (hy : a.eval y = .agg cells) (ht : w.there b o cells.size) (hi : (P.info? ty).map (·.size) = some cells.size) (h1 : cells.all (·.oneCell') = true)
    (h : wpList P ops Q rest (a.put dst undef) (w.setCells b o cells.toList)) : wpList P ops Q (⟨dst, .store ty x y, t, p, af, none⟩ :: rest) a w :=
  wpList_store_mid rfl ty x y rfl b o cells hx hy ht hi h1 h
theorem wpList_load_pat {P : Program} {ops : Array Oper} {rest : List Oper} {Q : Exit → Act → World → Prop} {dst : Option Nat} {t : TypeId} {p : String} {af : Array Edge} {a : Act} {w : World} (ty : TypeId) (x : Operand) (b o : Nat) (cs : List Value) (d : TypeDesc)
    (hx : a.eval x = .pointer (some ⟨b, o, none⟩)) (hc : w.rangeAt b o cs) (hu : P.underlying ty = some d) (hd : d.isRow = true) (hi : (P.info? ty).map (·.size) = some cs.length)
    (h : wpList P ops Q rest (a.put dst (.agg cs.toArray)) w) : wpList P ops Q (⟨dst, .load ty x, t, p, af, none⟩ :: rest) a w :=
  wpList_load_mid rfl ty x rfl b o hx cs d hc hu hd hi h

def allB : Nat → (Nat → Bool) → Bool
  | 0, _ => true
  | n + 1, f => allB n f && f n
theorem allB_false {n : Nat} {f : Nat → Bool} {k : Nat} (hk : k < n) (h : f k = false) : allB n f = false := by
  induction n with
  | zero => omega
  | succ m ih =>
    by_cases e : k = m
    · subst e; simp [allB, h]
    · simp [allB, ih (by omega)]
theorem allB_succ {k : Nat} {f : Nat → Bool} (h : allB k f = true) (h' : f k = true) : allB (k + 1) f = true := by simp [allB, h, h']
theorem allB_congr {n : Nat} {f g : Nat → Bool} (h : ∀ i, i < n → f i = g i) : allB n f = allB n g := by
  induction n with
  | zero => rfl
  | succ m ih => simp [allB, ih (fun i hi => h i (by omega)), h m (by omega)]

structure Veh where
  (a b x y o c h : Int)
structure Req where
  (a b x y o c h x' y' o' c' h' : Int)
structure Rd where
  (a b t : Int)
def Veh.cells (v : Veh) : List Value := [.int .i64 v.a, .int .i64 v.b, .int .i64 v.x, .int .i64 v.y, .int .i64 v.o, .int .i64 v.c, .int .i64 v.h]
def Req.cells (q : Req) : List Value := [.int .i64 q.a, .int .i64 q.b, .int .i64 q.x, .int .i64 q.y, .int .i64 q.o, .int .i64 q.c, .int .i64 q.h, .int .i64 q.x', .int .i64 q.y', .int .i64 q.o', .int .i64 q.c', .int .i64 q.h']
def Rd.cells (r : Rd) : List Value := [.int .i64 r.a, .int .i64 r.b, .int .i64 r.t]
theorem Veh.at {w : World} {b o : Nat} {v : Veh} (h : w.rangeAt b o v.cells) : w.cell? ⟨b, o, none⟩ = some (.int .i64 v.a) ∧ w.cell? ⟨b, o + 1, none⟩ = some (.int .i64 v.b) ∧ w.cell? ⟨b, o + 2, none⟩ = some (.int .i64 v.x) ∧ w.cell? ⟨b, o + 3, none⟩ = some (.int .i64 v.y) ∧ w.cell? ⟨b, o + 4, none⟩ = some (.int .i64 v.o) ∧ w.cell? ⟨b, o + 5, none⟩ = some (.int .i64 v.c) ∧ w.cell? ⟨b, o + 6, none⟩ = some (.int .i64 v.h) :=
  ⟨h 0 _ rfl, h 1 _ rfl, h 2 _ rfl, h 3 _ rfl, h 4 _ rfl, h 5 _ rfl, h 6 _ rfl⟩
theorem Veh.len (v : Veh) : v.cells.length = 7 := rfl
theorem Veh.one (v : Veh) : v.cells.toArray.all (·.oneCell') = true := by simp [Veh.cells, Value.oneCell']
theorem Req.at {w : World} {b o : Nat} {v : Req} (h : w.rangeAt b o v.cells) : w.cell? ⟨b, o, none⟩ = some (.int .i64 v.a) ∧ w.cell? ⟨b, o + 1, none⟩ = some (.int .i64 v.b) ∧ w.cell? ⟨b, o + 2, none⟩ = some (.int .i64 v.x) ∧ w.cell? ⟨b, o + 3, none⟩ = some (.int .i64 v.y) ∧ w.cell? ⟨b, o + 4, none⟩ = some (.int .i64 v.o) ∧ w.cell? ⟨b, o + 5, none⟩ = some (.int .i64 v.c) ∧ w.cell? ⟨b, o + 6, none⟩ = some (.int .i64 v.h) ∧ w.cell? ⟨b, o + 7, none⟩ = some (.int .i64 v.x') ∧ w.cell? ⟨b, o + 8, none⟩ = some (.int .i64 v.y') ∧ w.cell? ⟨b, o + 9, none⟩ = some (.int .i64 v.o') ∧ w.cell? ⟨b, o + 10, none⟩ = some (.int .i64 v.c') ∧ w.cell? ⟨b, o + 11, none⟩ = some (.int .i64 v.h') :=
  ⟨h 0 _ rfl, h 1 _ rfl, h 2 _ rfl, h 3 _ rfl, h 4 _ rfl, h 5 _ rfl, h 6 _ rfl, h 7 _ rfl, h 8 _ rfl, h 9 _ rfl, h 10 _ rfl, h 11 _ rfl⟩
theorem Req.len (v : Req) : v.cells.length = 12 := rfl
theorem Req.one (v : Req) : v.cells.toArray.all (·.oneCell') = true := by simp [Req.cells, Value.oneCell']
theorem Rd.at {w : World} {b o : Nat} {v : Rd} (h : w.rangeAt b o v.cells) : w.cell? ⟨b, o, none⟩ = some (.int .i64 v.a) ∧ w.cell? ⟨b, o + 1, none⟩ = some (.int .i64 v.b) ∧ w.cell? ⟨b, o + 2, none⟩ = some (.int .i64 v.t) :=
  ⟨h 0 _ rfl, h 1 _ rfl, h 2 _ rfl⟩
theorem Rd.len (v : Rd) : v.cells.length = 3 := rfl
theorem Rd.one (v : Rd) : v.cells.toArray.all (·.oneCell') = true := by simp [Rd.cells, Value.oneCell']
theorem there7 {w : World} {b o : Nat} (h : w.there b o 7) : ∃ v0 v1 v2 v3 v4 v5 v6 : Value, w.cell? ⟨b, o, none⟩ = some v0 ∧ w.cell? ⟨b, o + 1, none⟩ = some v1 ∧ w.cell? ⟨b, o + 2, none⟩ = some v2 ∧ w.cell? ⟨b, o + 3, none⟩ = some v3 ∧ w.cell? ⟨b, o + 4, none⟩ = some v4 ∧ w.cell? ⟨b, o + 5, none⟩ = some v5 ∧ w.cell? ⟨b, o + 6, none⟩ = some v6 ∧ w.frozen? ⟨b, o, none⟩ = false ∧ w.frozen? ⟨b, o + 1, none⟩ = false ∧ w.frozen? ⟨b, o + 2, none⟩ = false ∧ w.frozen? ⟨b, o + 3, none⟩ = false ∧ w.frozen? ⟨b, o + 4, none⟩ = false ∧ w.frozen? ⟨b, o + 5, none⟩ = false ∧ w.frozen? ⟨b, o + 6, none⟩ = false := by
  obtain ⟨v0, e0⟩ := Option.isSome_iff_exists.1 (h 0 (by omega)).1
  obtain ⟨v1, e1⟩ := Option.isSome_iff_exists.1 (h 1 (by omega)).1
  obtain ⟨v2, e2⟩ := Option.isSome_iff_exists.1 (h 2 (by omega)).1
  obtain ⟨v3, e3⟩ := Option.isSome_iff_exists.1 (h 3 (by omega)).1
  obtain ⟨v4, e4⟩ := Option.isSome_iff_exists.1 (h 4 (by omega)).1
  obtain ⟨v5, e5⟩ := Option.isSome_iff_exists.1 (h 5 (by omega)).1
  obtain ⟨v6, e6⟩ := Option.isSome_iff_exists.1 (h 6 (by omega)).1
  exact ⟨v0, v1, v2, v3, v4, v5, v6, e0, e1, e2, e3, e4, e5, e6, (h 0 (by omega)).2, (h 1 (by omega)).2, (h 2 (by omega)).2, (h 3 (by omega)).2, (h 4 (by omega)).2, (h 5 (by omega)).2, (h 6 (by omega)).2⟩
theorem there12 {w : World} {b o : Nat} (h : w.there b o 12) : ∃ v0 v1 v2 v3 v4 v5 v6 v7 v8 v9 v10 v11 : Value, w.cell? ⟨b, o, none⟩ = some v0 ∧ w.cell? ⟨b, o + 1, none⟩ = some v1 ∧ w.cell? ⟨b, o + 2, none⟩ = some v2 ∧ w.cell? ⟨b, o + 3, none⟩ = some v3 ∧ w.cell? ⟨b, o + 4, none⟩ = some v4 ∧ w.cell? ⟨b, o + 5, none⟩ = some v5 ∧ w.cell? ⟨b, o + 6, none⟩ = some v6 ∧ w.cell? ⟨b, o + 7, none⟩ = some v7 ∧ w.cell? ⟨b, o + 8, none⟩ = some v8 ∧ w.cell? ⟨b, o + 9, none⟩ = some v9 ∧ w.cell? ⟨b, o + 10, none⟩ = some v10 ∧ w.cell? ⟨b, o + 11, none⟩ = some v11 ∧ w.frozen? ⟨b, o, none⟩ = false ∧ w.frozen? ⟨b, o + 1, none⟩ = false ∧ w.frozen? ⟨b, o + 2, none⟩ = false ∧ w.frozen? ⟨b, o + 3, none⟩ = false ∧ w.frozen? ⟨b, o + 4, none⟩ = false ∧ w.frozen? ⟨b, o + 5, none⟩ = false ∧ w.frozen? ⟨b, o + 6, none⟩ = false ∧ w.frozen? ⟨b, o + 7, none⟩ = false ∧ w.frozen? ⟨b, o + 8, none⟩ = false ∧ w.frozen? ⟨b, o + 9, none⟩ = false ∧ w.frozen? ⟨b, o + 10, none⟩ = false ∧ w.frozen? ⟨b, o + 11, none⟩ = false := by
  obtain ⟨v0, e0⟩ := Option.isSome_iff_exists.1 (h 0 (by omega)).1
  obtain ⟨v1, e1⟩ := Option.isSome_iff_exists.1 (h 1 (by omega)).1
  obtain ⟨v2, e2⟩ := Option.isSome_iff_exists.1 (h 2 (by omega)).1
  obtain ⟨v3, e3⟩ := Option.isSome_iff_exists.1 (h 3 (by omega)).1
  obtain ⟨v4, e4⟩ := Option.isSome_iff_exists.1 (h 4 (by omega)).1
  obtain ⟨v5, e5⟩ := Option.isSome_iff_exists.1 (h 5 (by omega)).1
  obtain ⟨v6, e6⟩ := Option.isSome_iff_exists.1 (h 6 (by omega)).1
  obtain ⟨v7, e7⟩ := Option.isSome_iff_exists.1 (h 7 (by omega)).1
  obtain ⟨v8, e8⟩ := Option.isSome_iff_exists.1 (h 8 (by omega)).1
  obtain ⟨v9, e9⟩ := Option.isSome_iff_exists.1 (h 9 (by omega)).1
  obtain ⟨v10, e10⟩ := Option.isSome_iff_exists.1 (h 10 (by omega)).1
  obtain ⟨v11, e11⟩ := Option.isSome_iff_exists.1 (h 11 (by omega)).1
  exact ⟨v0, v1, v2, v3, v4, v5, v6, v7, v8, v9, v10, v11, e0, e1, e2, e3, e4, e5, e6, e7, e8, e9, e10, e11, (h 0 (by omega)).2, (h 1 (by omega)).2, (h 2 (by omega)).2, (h 3 (by omega)).2, (h 4 (by omega)).2, (h 5 (by omega)).2, (h 6 (by omega)).2, (h 7 (by omega)).2, (h 8 (by omega)).2, (h 9 (by omega)).2, (h 10 (by omega)).2, (h 11 (by omega)).2⟩
theorem there3 {w : World} {b o : Nat} (h : w.there b o 3) : ∃ v0 v1 v2 : Value, w.cell? ⟨b, o, none⟩ = some v0 ∧ w.cell? ⟨b, o + 1, none⟩ = some v1 ∧ w.cell? ⟨b, o + 2, none⟩ = some v2 ∧ w.frozen? ⟨b, o, none⟩ = false ∧ w.frozen? ⟨b, o + 1, none⟩ = false ∧ w.frozen? ⟨b, o + 2, none⟩ = false := by
  obtain ⟨v0, e0⟩ := Option.isSome_iff_exists.1 (h 0 (by omega)).1
  obtain ⟨v1, e1⟩ := Option.isSome_iff_exists.1 (h 1 (by omega)).1
  obtain ⟨v2, e2⟩ := Option.isSome_iff_exists.1 (h 2 (by omega)).1
  exact ⟨v0, v1, v2, e0, e1, e2, (h 0 (by omega)).2, (h 1 (by omega)).2, (h 2 (by omega)).2⟩
structure In where
  (nV nQ nR : Nat) (V : Nat → Veh) (Q : Nat → Req) (R : Nat → Rd)
/-- The three slices of an instance lie in the world. -/
structure InAt (w : World) (a1 a2 a3 : Option Addr) (I : In) : Prop where
  v : SliceAt w a1 I.nV 7 (fun i => (I.V i).cells)
  q : SliceAt w a2 I.nQ 12 (fun i => (I.Q i).cells)
  r : SliceAt w a3 I.nR 3 (fun i => (I.R i).cells)
theorem InAt.below {w w' : World} {a1 a2 a3 : Option Addr} {I : In} (h : InAt w a1 a2 a3 I) (hb : Below w.heap.size w w') : InAt w' a1 a2 a3 I := ⟨h.v.below hb, h.q.below hb, h.r.below hb⟩
end Go.Proofs.YtefkdpppcjlflaaGreatDoor.Mem
