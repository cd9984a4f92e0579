import Derived.Test.YtefkdpppcjlflaaGreatDoorIt01
import Derived.Test.YtefkdpppcjlflaaGreatDoorProg
import Derived.WalkKit
import Derived.WalkSpells
import Derived.WalkLawsBesides
import Derived.Handy
import Derived.Deep.QuietTactic
import Derived.BigQuiet
import Derived.Deep.RegionHeld3
import Derived.Lib.UnsafeStr
import Derived.OwnWalk
import Derived.Lib.Hide
import Derived.Lib.SmallJoins
import Derived.Lib.SlBytesConst
import Derived.Lib.OthersKept
import Derived.ArgAppend
import Derived.Deep.DrawnRows
import Derived.Lib.IndexLaws
import Derived.Lib.Bytealg
namespace Go.Proofs.YtefkdpppcjlflaaGreatDoor.Mem
open Go Go.RowKit
set_option linter.unusedVariables false

theorem below_alloc' {w W : World} (h : Below w.heap.size w W) (o : Obj) : Below w.heap.size w (W.alloc o) := h.alloc h.size o
theorem cell_alloc' {w : World} {p : Addr} {v : Value} (h : w.cell? p = some v) (o : Obj) : (w.alloc o).cell? p = some v := by
  rw [World.cell?_alloc_lt _ _ _ (World.block_lt_of_cell? w _ h)]; exact h
end Go.Proofs.YtefkdpppcjlflaaGreatDoor.Mem
namespace Go.Proofs.YtefkdpppcjlflaaGreatDoor.Parse
open Go Go.RowKit Go.Proofs.YtefkdpppcjlflaaGreatDoor.Mem
set_option linter.unusedVariables false

theorem infoB : (Tryz.prog.info? 5).map (fun i => (i.zero, i.size, i.bytes)) = some (some (.int .u8 0), 1, 1) := by kernel_rfl

/-- Bytes that can be read. -/
def Rd (w : World) (a : Option Addr) (bs : List UInt8) : Prop := ∀ j (h : j < bs.length), ∃ g o, a = some ⟨g, o, none⟩ ∧ w.cell? ⟨g, o + j, none⟩ = some (.int .u8 (bs[j].toNat : Int))
theorem Rd.below {w w' : World} {a : Option Addr} {bs : List UInt8} (h : Rd w a bs) (hb : Below w.heap.size w w') : Rd w' a bs := fun j hj => by
  obtain ⟨g, o, e, hc⟩ := h j hj
  exact ⟨g, o, e, cell_keep hb hc⟩
theorem Rd.at {w : World} {g o : Nat} {bs : List UInt8} (h : Rd w (some ⟨g, o, none⟩) bs) (j : Nat) (hj : j < bs.length) : w.cell? ⟨g, o + j, none⟩ = some (.int .u8 (bs[j].toNat : Int)) := by
  obtain ⟨g', o', e, hc⟩ := h j hj
  injection e with e
  injection e with e1 e2
  subst e1 e2
  exact hc
theorem Rd.some {w : World} {a : Option Addr} {bs : List UInt8} (h : Rd w a bs) (hp : 0 < bs.length) : ∃ g o, a = some ⟨g, o, none⟩ := by
  obtain ⟨g, o, e, _⟩ := h 0 hp
  exact ⟨g, o, e⟩
theorem Rd.drop {w : World} {g o : Nat} {bs : List UInt8} (h : Rd w (Option.some ⟨g, o, none⟩) bs) (k : Nat) : Rd w (Option.some ⟨g, o + k, none⟩) (bs.drop k) := fun j hj => by
  have := h.at (k + j) (by rw [List.length_drop] at hj; omega)
  refine ⟨g, o + k, rfl, ?_⟩
  rw [List.getElem_drop, Nat.add_assoc]
  exact this
theorem Rd.take {w : World} {a : Option Addr} {bs : List UInt8} (h : Rd w a bs) (k : Nat) : Rd w a (bs.take k) := fun j hj => by
  obtain ⟨g, o, e, hc⟩ := h j (by rw [List.length_take] at hj; omega)
  exact ⟨g, o, e, by rw [List.getElem_take]; exact hc⟩

/-- Is it a numeral's sign? -/
def digit (b : UInt8) : Bool := decide (48 ≤ b.toNat) && decide (b.toNat ≤ 57)
def isDigs (d : List UInt8) : Bool := decide (1 ≤ d.length) && decide (d.length ≤ 9) && !(d.head? == some 48) && d.all digit
def isNum (f : List UInt8) : Bool := f == [48] || (if f.head? = some 45 then isDigs f.tail else isDigs f)
def dec (ds : List UInt8) : Int := ds.foldl (fun n b => 10 * n + b.toNat - 48) 0
def num (f : List UInt8) : Int := if f.head? = some 45 then - dec f.tail else dec f
theorem dec_snoc (ds : List UInt8) (b : UInt8) : dec (ds ++ [b]) = 10 * dec ds + b.toNat - 48 := by
  unfold dec; rw [List.foldl_append]; rfl
theorem snoc_ind {p : List UInt8 → Prop} (h0 : p []) (hs : ∀ l b, p l → p (l ++ [b])) (l : List UInt8) : p l := by
  have : ∀ n (l : List UInt8), l.length = n → p l := by
    intro n
    induction n with
    | zero => intro l h; rw [List.eq_nil_of_length_eq_zero h]; exact h0
    | succ m ih =>
      intro l h
      have hne : l ≠ [] := by intro e; subst e; simp at h
      rw [← List.dropLast_concat_getLast hne]
      exact hs _ _ (ih _ (by simp [h]))
  exact this _ l rfl
theorem dec_bound : ∀ (ds : List UInt8), ds.all digit = true → 0 ≤ dec ds ∧ dec ds < 10 ^ ds.length := by
  refine snoc_ind ?_ ?_
  · intro _; simp [dec]
  · intro l b ih h
    rw [List.all_append] at h
    simp only [List.all_cons, List.all_nil, Bool.and_true, Bool.and_eq_true] at h
    obtain ⟨h1, h2⟩ := h
    have ih' := ih h1
    unfold digit at h2
    simp only [Bool.and_eq_true, decide_eq_true_eq] at h2
    rw [dec_snoc, List.length_append, List.length_singleton, Int.pow_succ]
    omega
end Go.Proofs.YtefkdpppcjlflaaGreatDoor.Parse
namespace Go.Proofs.YtefkdpppcjlflaaGreatDoor.Parse
open Go Go.RowKit Go.Proofs.YtefkdpppcjlflaaGreatDoor.Mem
set_option linter.unusedVariables false
set_option linter.unusedSimpArgs false
attribute [local go_sem ↓] Go.wp_at_zero Go.wp_at_succ

def stp (sep : UInt8) (s : List (List UInt8) × List UInt8) (b : UInt8) : List (List UInt8) × List UInt8 := if b = sep then (s.1 ++ [s.2], []) else (s.1, s.2 ++ [b])
def spl (sep : UInt8) (bs : List UInt8) : List (List UInt8) × List UInt8 := bs.foldl (stp sep) ([], [])
def split (sep : UInt8) (bs : List UInt8) : List (List UInt8) := (spl sep bs).1 ++ [(spl sep bs).2]
theorem spl_snoc (sep : UInt8) (bs : List UInt8) (b : UInt8) : spl sep (bs ++ [b]) = stp sep (spl sep bs) b := by unfold spl; rw [List.foldl_append]; rfl
theorem spl_take {sep : UInt8} {bs : List UInt8} {k : Nat} (h : k < bs.length) : spl sep (bs.take (k + 1)) = stp sep (spl sep (bs.take k)) bs[k] := by
  rw [List.take_succ_eq_append_getElem h, spl_snoc]
theorem spl_len (sep : UInt8) : ∀ (bs : List UInt8), (spl sep bs).1.length + (spl sep bs).2.length ≤ bs.length := by
  refine snoc_ind ?_ ?_
  · simp [spl]
  · intro l b ih
    rw [spl_snoc, List.length_append, List.length_singleton]
    unfold stp
    split
    · simp; omega
    · simp; omega

theorem infoBS : (Tryz.prog.info? 22).map (fun i => (i.zero, i.size, i.bytes)) = some (some (.slice none 0 0), 1, 24) := by kernel_rfl

/-- A row of bytes of the call's own. -/
def Own (B : Nat) (w' : World) (v : Value) (bs : List UInt8) : Prop := w'.ownsRow B 5 1 v bs.length (Lib.byteCells bs)
/-- A value that leads to bytes below block B; they lie in a block of bytes. -/
def Piece (B : Nat) (w : World) (v : Value) (bs : List UInt8) : Prop := ∃ a c, v = .slice a bs.length c ∧ bs.length ≤ c ∧ ∀ j (h : j < bs.length), ∃ g C fr, a = some ⟨g, 0, none⟩ ∧ g < B ∧ w.heap[g]? = some (.cells C 5 fr) ∧ C[j]? = some (.int .u8 (bs[j].toNat : Int))
theorem Piece.keep {B B' : Nat} {w w' : World} {v : Value} {bs : List UInt8} (h : Piece B w v bs) (hB : B ≤ B') (hk : ∀ g C fr, g < B → w.heap[g]? = some (.cells C 5 fr) → w'.heap[g]? = some (.cells C 5 fr)) : Piece B' w' v bs := by
  obtain ⟨a, c, e, hc, h⟩ := h
  refine ⟨a, c, e, hc, fun j hj => ?_⟩
  obtain ⟨g, C, fr, e1, h1, h2, h3⟩ := h j hj
  exact ⟨g, C, fr, e1, by omega, hk g C fr h1 h2, h3⟩
theorem Piece.rd {B : Nat} {w : World} {v : Value} {bs : List UInt8} (h : Piece B w v bs) : ∃ a c, v = .slice a bs.length c ∧ bs.length ≤ c ∧ Rd w a bs := by
  obtain ⟨a, c, e, hc, h⟩ := h
  refine ⟨a, c, e, hc, fun j hj => ?_⟩
  obtain ⟨g, C, fr, e1, h1, h2, h3⟩ := h j hj
  exact ⟨g, 0, e1, by rw [Nat.zero_add, blk_cell h2 j]; exact h3⟩
theorem Own.piece {B : Nat} {w : World} {v : Value} {bs : List UInt8} (h : Own B w v bs) : Piece w.heap.size w v bs := by
  rcases h.2 with ⟨rfl, h0⟩ | ⟨g, cap, cur, rfl, hg, hblk, hcap, -, -, ht⟩
  · exact ⟨none, 0, by rw [h0], by omega, fun j hj => by omega⟩
  · refine ⟨_, _, rfl, hcap, fun j hj => ⟨g, cur, _, rfl, blk_lt hblk, hblk, ?_⟩⟩
    have hu : (Lib.byteCells bs)[j]? = some (.int .u8 (bs[j].toNat : Int)) := by simp [Lib.byteCells, hj]
    rw [← ht, List.getElem?_take] at hu
    split at hu
    · simpa using hu
    · cases hu
def Pieces (B : Nat) (w : World) : List Value → List (List UInt8) → Prop
  | [], [] => True
  | v :: vs, b :: bs => Piece B w v b ∧ Pieces B w vs bs
  | _, _ => False
theorem Pieces.keep {B B' : Nat} {w w' : World} (hB : B ≤ B') (hk : ∀ g C fr, g < B → w.heap[g]? = some (.cells C 5 fr) → w'.heap[g]? = some (.cells C 5 fr)) : ∀ {vs : List Value} {L : List (List UInt8)}, Pieces B w vs L → Pieces B' w' vs L
  | [], [], _ => trivial
  | _ :: _, _ :: _, h => ⟨h.1.keep hB hk, Pieces.keep hB hk h.2⟩
theorem Pieces.snoc {B : Nat} {w : World} {v : Value} {b : List UInt8} (hv : Piece B w v b) : ∀ {vs : List Value} {L : List (List UInt8)}, Pieces B w vs L → Pieces B w (vs ++ [v]) (L ++ [b])
  | [], [], _ => ⟨hv, trivial⟩
  | _ :: _, _ :: _, h => ⟨h.1, Pieces.snoc hv h.2⟩
theorem Pieces.len {B : Nat} {w : World} : ∀ {vs : List Value} {L : List (List UInt8)}, Pieces B w vs L → vs.length = L.length
  | [], [], _ => rfl
  | _ :: _, _ :: _, h => by simp [Pieces.len h.2]
theorem Pieces.get {B : Nat} {w : World} : ∀ {vs : List Value} {L : List (List UInt8)}, Pieces B w vs L → ∀ (k : Nat) (hk : k < L.length), ∃ v, vs[k]? = some v ∧ Piece B w v L[k]
  | [], [], _, k, hk => by simp at hk
  | _ :: _, _ :: _, h, 0, _ => ⟨_, rfl, h.1⟩
  | _ :: _, _ :: _, h, k + 1, hk => by
    obtain ⟨v, h1, h2⟩ := Pieces.get h.2 k (by simpa using hk)
    exact ⟨v, by simpa using h1, by simpa using h2⟩
/-- The fields of a line, or the lines of a text: a row of rows of bytes. -/
def Flds (w : World) (a : Option Addr) (L : List (List UInt8)) : Prop := ∀ k (h : k < L.length), ∃ g p c, a = some ⟨g, 0, none⟩ ∧ w.cell? ⟨g, k, none⟩ = some (.slice p L[k].length c) ∧ L[k].length ≤ c ∧ Rd w p L[k]
theorem Flds.below {w w' : World} {a : Option Addr} {L : List (List UInt8)} (h : Flds w a L) (hb : Below w.heap.size w w') : Flds w' a L := fun k hk => by
  obtain ⟨g, p, c, e, h1, h2, h3⟩ := h k hk
  exact ⟨g, p, c, e, cell_keep hb h1, h2, h3.below hb⟩
theorem own_new0 (w : World) (t : TypeId) : (w.alloc (.cells #[] t)).ownsRow w.heap.size t 1 (.slice (some ⟨w.heap.size, 0, none⟩) 0 0) 0 [] :=
  ⟨by simp, Or.inr ⟨w.heap.size, 0, #[], rfl, Nat.le_refl _, blk_new _ _, Nat.le_refl _, by unfold maxLen; omega, by simp, by simp⟩⟩
theorem own_snoc {B n : Nat} {w : World} {v : Value} {bs : List UInt8} {b : UInt8} {z : Int} (hn : n = bs.length) (hz : (b.toNat : Int) = z) (h : w.ownsRow B 5 1 v (n + 1) (Lib.byteCells bs ++ [Value.int .u8 z])) : Own B w v (bs ++ [b]) := by
  subst hn
  unfold Own
  rw [List.length_append, List.length_singleton, Lib.byteCells_append]
  simp only [Lib.byteCells, List.map_cons, List.map_nil, hz] at *
  exact h
theorem row_kind {B n : Nat} {w : World} {v : Value} {e : TypeId} {s : Nat} {xs : List Value} (h : w.ownsRow B e s v n xs) : ∀ g, v.ownBlock = some g → ∃ c fz, w.heap[g]? = some (.cells c e fz) := by
  intro g hg
  rcases h.2 with ⟨rfl, _⟩ | ⟨g', cap, cur, rfl, _, hgg, _⟩
  · simp [Value.ownBlock] at hg
  · simp [Value.ownBlock] at hg
    subst hg
    exact ⟨cur, _, hgg⟩
theorem row_shape {B n : Nat} {w : World} {v : Value} {e : TypeId} {s : Nat} {xs : List Value} (h : w.ownsRow B e s v n xs) : ∃ a c, v = .slice a n c ∧ n ≤ c := by
  rcases h.2 with ⟨rfl, h0⟩ | ⟨g, cap, cur, rfl, _, _, hc, _⟩
  · exact ⟨none, 0, by rw [h0], by omega⟩
  · exact ⟨_, _, rfl, hc⟩
/-- A block of another type than the one that was grown. -/
theorem grown_other {w w' : World} {g : Nat} {C : Array Value} {t e : TypeId} {fr : Nat × Nat} {v : Value} {B n s : Nat} {xs : List Value} (hg : w.grownBy w' v.ownBlock) (hrow : w.ownsRow B e s v n xs) (hb : w.heap[g]? = some (.cells C t fr)) (hne : t ≠ e) : w'.heap[g]? = some (.cells C t fr) := by
  rw [hg.block g (blk_lt hb) ?_]
  · exact hb
  · intro e1
    obtain ⟨c, fz, h⟩ := row_kind hrow g e1.symm
    rw [hb] at h
    injection h with h
    injection h with _ h2
    exact hne h2
theorem row_grown {w w' : World} {B B' n n' s s' : Nat} {v u : Value} {t e : TypeId} {xs ys : List Value} (h : w.ownsRow B t s v n xs) (hg : w.grownBy w' u.ownBlock) (hrow : w.ownsRow B' e s' u n' ys) (hne : t ≠ e) : w'.ownsRow B t s v n xs := by
  refine ⟨h.1, ?_⟩
  rcases h.2 with h0 | ⟨g, cap, cur, h1, h2, h3, h4⟩
  · exact Or.inl h0
  · exact Or.inr ⟨g, cap, cur, h1, h2, grown_other hg hrow h3 hne, h4⟩
theorem row_below {w w' : World} {B n s : Nat} {v : Value} {t : TypeId} {xs : List Value} (h : w.ownsRow B t s v n xs) (hb : Below w.heap.size w w') : w'.ownsRow B t s v n xs := by
  refine ⟨h.1, ?_⟩
  rcases h.2 with h0 | ⟨g, cap, cur, h1, h2, h3, h4⟩
  · exact Or.inl h0
  · exact Or.inr ⟨g, cap, cur, h1, h2, blk_below h3 hb, h4⟩
end Go.Proofs.YtefkdpppcjlflaaGreatDoor.Parse
namespace Go.Proofs.YtefkdpppcjlflaaGreatDoor.Parse
open Go Go.RowKit Go.Proofs.YtefkdpppcjlflaaGreatDoor.Mem
set_option linter.unusedVariables false
set_option linter.unusedSimpArgs false

theorem stp_add (sep : UInt8) : ∀ (bs : List UInt8) (L : List (List UInt8)) (c : List UInt8), bs.foldl (stp sep) (L, c) = (L ++ (bs.foldl (stp sep) ([], c)).1, (bs.foldl (stp sep) ([], c)).2)
  | [], L, c => by simp
  | b :: bs, L, c => by
    simp only [List.foldl_cons]
    by_cases h : b = sep
    · simp only [stp, h, if_true]
      rw [stp_add sep bs (L ++ [c]) [], stp_add sep bs ([] ++ [c]) []]
      simp
    · simp only [stp, h, if_false]
      rw [stp_add sep bs L (c ++ [b])]
theorem spl_no (sep : UInt8) : ∀ (bs : List UInt8) (c : List UInt8), sep ∉ bs → bs.foldl (stp sep) ([], c) = ([], c ++ bs)
  | [], c, _ => by simp
  | b :: bs, c, h => by
    have hb : b ≠ sep := fun e => h (by simp [e])
    rw [List.foldl_cons]
    simp only [stp, hb, if_false]
    rw [spl_no sep bs (c ++ [b]) (fun hm => h (by simp [hm]))]
    simp
theorem split_no {sep : UInt8} {bs : List UInt8} (h : sep ∉ bs) : split sep bs = [bs] := by
  unfold split spl
  rw [spl_no sep bs [] h]; simp
theorem split_cut {sep : UInt8} {f r : List UInt8} (h : sep ∉ f) : split sep (f ++ sep :: r) = f :: split sep r := by
  unfold split spl
  rw [List.foldl_append, spl_no sep f [] h, List.foldl_cons]
  simp only [stp, if_true]
  rw [stp_add]
  simp
theorem stp_count (sep : UInt8) : ∀ (bs : List UInt8) (L : List (List UInt8)) (c : List UInt8), (bs.foldl (stp sep) (L, c)).1.length = L.length + bs.count sep
  | [], L, c => by simp
  | b :: bs, L, c => by
    rw [List.foldl_cons, List.count_cons]
    by_cases h : b = sep
    · simp only [stp, h, if_true]
      rw [stp_count sep bs]; simp; omega
    · simp only [stp, h, if_false]
      rw [stp_count sep bs]; simp [h]
theorem split_count (sep : UInt8) (bs : List UInt8) : (split sep bs).length = bs.count sep + 1 := by
  unfold split spl
  rw [List.length_append, stp_count]; simp
/-- Where a byte stands first, and the parts around it. -/
theorem at_index {bs : List UInt8} {sep : UInt8} {k : Nat} (h : Lib.indexByte bs sep = k) : ∃ hk : k < bs.length, bs = bs.take k ++ sep :: bs.drop (k + 1) ∧ sep ∉ bs.take k := by
  obtain ⟨h1, h2⟩ := Lib.indexByte_some h
  obtain ⟨hk, e⟩ := List.getElem?_eq_some_iff.1 h1
  refine ⟨hk, ?_, ?_⟩
  · have := List.drop_eq_getElem_cons hk
    rw [e] at this
    rw [← this, List.take_append_drop]
  · intro hm
    obtain ⟨j, hj, e'⟩ := List.mem_iff_getElem.1 hm
    rw [List.length_take] at hj
    rw [List.getElem_take] at e'
    exact h2 j (by omega) (List.getElem?_eq_some_iff.2 ⟨by omega, e'⟩)
theorem index_none {bs : List UInt8} {sep : UInt8} (h : Lib.indexByte bs sep = -1) : sep ∉ bs := by
  intro hm
  obtain ⟨j, hj, e'⟩ := List.mem_iff_getElem.1 hm
  exact Lib.indexByte_none h j (List.getElem?_eq_some_iff.2 ⟨hj, e'⟩)

/-- Digits without a sign, in the program's words. -/
def plain (d : List UInt8) : Bool := decide (1 ≤ d.length) && decide (d.length ≤ 9) && !(decide (1 < d.length) && (d.head? == some 48)) && d.all digit
theorem dec_ge : ∀ (r : List UInt8), r.all digit = true → ∀ (b : UInt8), 49 ≤ b.toNat → 1 ≤ dec (b :: r) := by
  refine snoc_ind ?_ ?_
  · intro _ b hb
    simp [dec]; omega
  · intro l x ih h b hb
    rw [List.all_append] at h
    simp only [List.all_cons, List.all_nil, Bool.and_true, Bool.and_eq_true] at h
    have := ih h.1 b hb
    have h2 := h.2
    unfold digit at h2
    simp only [Bool.and_eq_true, decide_eq_true_eq] at h2
    rw [← List.cons_append, dec_snoc]
    omega
theorem plain_one {d : List UInt8} (h : plain d = true) : d = [48] ∨ (isDigs d = true ∧ 1 ≤ dec d) := by
  match d, h with
  | [], h => simp [plain] at h
  | [x], h =>
    by_cases e : x = 48
    · exact Or.inl (by rw [e])
    · refine Or.inr ⟨by simpa [plain, isDigs, e] using h, ?_⟩
      have hx : digit x = true := by simpa [plain] using h
      unfold digit at hx
      simp only [Bool.and_eq_true, decide_eq_true_eq] at hx
      have : x.toNat ≠ 48 := fun e' => e (UInt8.toNat_inj.1 e')
      simp [dec]; omega
  | x :: y :: r, h =>
    simp only [plain, Bool.and_eq_true] at h
    obtain ⟨⟨⟨h1, h2⟩, h3⟩, h4⟩ := h
    have e : x ≠ 48 := by intro e; subst e; simp at h3
    refine Or.inr ⟨by simp only [isDigs, Bool.and_eq_true]; exact ⟨⟨⟨h1, h2⟩, by simpa using e⟩, h4⟩, ?_⟩
    rw [List.all_cons, Bool.and_eq_true] at h4
    have hx := h4.1
    unfold digit at hx
    simp only [Bool.and_eq_true, decide_eq_true_eq] at hx
    have : x.toNat ≠ 48 := fun e' => e (UInt8.toNat_inj.1 e')
    exact dec_ge _ h4.2 x (by omega)
theorem digs_plain {d : List UInt8} (h : isDigs d = true) : plain d = true := by
  simp only [isDigs, Bool.and_eq_true] at h
  obtain ⟨⟨⟨h1, h2⟩, h3⟩, h4⟩ := h
  simp only [plain, Bool.and_eq_true]
  refine ⟨⟨⟨h1, h2⟩, ?_⟩, h4⟩
  have e : (d.head? == some 48) = false := by simpa using h3
  simp [e]
theorem isNum_pos {f : List UInt8} (h : f.head? ≠ some 45) : isNum f = plain f ∧ num f = dec f := by
  refine ⟨?_, by simp [num, h]⟩
  unfold isNum
  rw [if_neg h]
  cases hp : plain f with
  | true =>
    rcases plain_one hp with rfl | ⟨h1, -⟩
    · rfl
    · rw [h1]; simp
  | false =>
    have h1 : isDigs f = false := by
      cases hd : isDigs f with
      | false => rfl
      | true => rw [digs_plain hd] at hp; cases hp
    rw [h1]
    have : f ≠ [48] := by intro e; rw [e] at hp; revert hp; decide
    simpa using this
theorem isNum_neg {f : List UInt8} (h : f.head? = some 45) : isNum f = (plain f.tail && !(dec f.tail == 0)) ∧ num f = - dec f.tail := by
  refine ⟨?_, by simp [num, h]⟩
  have hne : (f == [48]) = false := by
    cases f with
    | nil => rfl
    | cons x r => simp at h; subst h; simp
  unfold isNum
  rw [if_pos h, hne, Bool.false_or]
  cases hp : plain f.tail with
  | true =>
    rcases plain_one hp with e | ⟨h1, h2⟩
    · rw [e]; rfl
    · rw [h1]; simp; omega
  | false =>
    cases hd : isDigs f.tail with
    | false => rfl
    | true => rw [digs_plain hd] at hp; cases hp
end Go.Proofs.YtefkdpppcjlflaaGreatDoor.Parse
