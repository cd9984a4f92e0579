import Derived.Test.YtdhnjkcebaahcaaGreatDoorPBase
import Derived.Deep.DrawnRows
namespace Go.Proofs.YtdhnjkcebaahcaaGreatDoor.Parse
open Go Go.RowKit Go.Proofs.YtdhnjkcebaahcaaGreatDoor.Mem
set_option linter.unusedVariables false
set_option linter.unusedSimpArgs false
attribute [local go_sem ↓] Go.wp_at_zero Go.wp_at_succ

def stp (sep : UInt8) (s : List (List UInt8) × List UInt8) (b : UInt8) : List (List UInt8) × List UInt8 := if b = sep then (s.1 ++ [s.2], []) else (s.1, s.2 ++ [b])
def spl (sep : UInt8) (bs : List UInt8) : List (List UInt8) × List UInt8 := bs.foldl (stp sep) ([], [])
def split (sep : UInt8) (bs : List UInt8) : List (List UInt8) := (spl sep bs).1 ++ [(spl sep bs).2]
theorem spl_snoc (sep : UInt8) (bs : List UInt8) (b : UInt8) : spl sep (bs ++ [b]) = stp sep (spl sep bs) b := by unfold spl; rw [List.foldl_append]; rfl
theorem spl_take {sep : UInt8} {bs : List UInt8} {k : Nat} (h : k < bs.length) : spl sep (bs.take (k + 1)) = stp sep (spl sep (bs.take k)) bs[k] := by
  rw [List.take_succ_eq_append_getElem h, spl_snoc]
theorem spl_len (sep : UInt8) : ∀ (bs : List UInt8), (spl sep bs).1.length + (spl sep bs).2.length ≤ bs.length := by
  refine snoc_ind ?_ ?_
  · simp [spl]
  · intro l b ih
    rw [spl_snoc, List.length_append, List.length_singleton]
    unfold stp
    split
    · simp; omega
    · simp; omega

theorem infoBS : (Tryz.prog.info? 22).map (fun i => (i.zero, i.size, i.bytes)) = some (some (.slice none 0 0), 1, 24) := by kernel_rfl

/-- A row of bytes of the call's own. -/
def Own (B : Nat) (w' : World) (v : Value) (bs : List UInt8) : Prop := w'.ownsRow B 5 1 v bs.length (Lib.byteCells bs)
/-- A value that leads to bytes below block B; they lie in a block of bytes. -/
def Piece (B : Nat) (w : World) (v : Value) (bs : List UInt8) : Prop := ∃ a c, v = .slice a bs.length c ∧ bs.length ≤ c ∧ ∀ j (h : j < bs.length), ∃ g C fr, a = some ⟨g, 0, none⟩ ∧ g < B ∧ w.heap[g]? = some (.cells C 5 fr) ∧ C[j]? = some (.int .u8 (bs[j].toNat : Int))
theorem Piece.keep {B B' : Nat} {w w' : World} {v : Value} {bs : List UInt8} (h : Piece B w v bs) (hB : B ≤ B') (hk : ∀ g C fr, g < B → w.heap[g]? = some (.cells C 5 fr) → w'.heap[g]? = some (.cells C 5 fr)) : Piece B' w' v bs := by
  obtain ⟨a, c, e, hc, h⟩ := h
  refine ⟨a, c, e, hc, fun j hj => ?_⟩
  obtain ⟨g, C, fr, e1, h1, h2, h3⟩ := h j hj
  exact ⟨g, C, fr, e1, by omega, hk g C fr h1 h2, h3⟩
theorem Piece.rd {B : Nat} {w : World} {v : Value} {bs : List UInt8} (h : Piece B w v bs) : ∃ a c, v = .slice a bs.length c ∧ bs.length ≤ c ∧ Rd w a bs := by
  obtain ⟨a, c, e, hc, h⟩ := h
  refine ⟨a, c, e, hc, fun j hj => ?_⟩
  obtain ⟨g, C, fr, e1, h1, h2, h3⟩ := h j hj
  exact ⟨g, 0, e1, by rw [Nat.zero_add, blk_cell h2 j]; exact h3⟩
theorem Own.piece {B : Nat} {w : World} {v : Value} {bs : List UInt8} (h : Own B w v bs) : Piece w.heap.size w v bs := by
  rcases h.2 with ⟨rfl, h0⟩ | ⟨g, cap, cur, rfl, hg, hblk, hcap, -, -, ht⟩
  · exact ⟨none, 0, by rw [h0], by omega, fun j hj => by omega⟩
  · refine ⟨_, _, rfl, hcap, fun j hj => ⟨g, cur, _, rfl, blk_lt hblk, hblk, ?_⟩⟩
    have hu : (Lib.byteCells bs)[j]? = some (.int .u8 (bs[j].toNat : Int)) := by simp [Lib.byteCells, hj]
    rw [← ht, List.getElem?_take] at hu
    split at hu
    · simpa using hu
    · cases hu
def Pieces (B : Nat) (w : World) : List Value → List (List UInt8) → Prop
  | [], [] => True
  | v :: vs, b :: bs => Piece B w v b ∧ Pieces B w vs bs
  | _, _ => False
theorem Pieces.keep {B B' : Nat} {w w' : World} (hB : B ≤ B') (hk : ∀ g C fr, g < B → w.heap[g]? = some (.cells C 5 fr) → w'.heap[g]? = some (.cells C 5 fr)) : ∀ {vs : List Value} {L : List (List UInt8)}, Pieces B w vs L → Pieces B' w' vs L
  | [], [], _ => trivial
  | _ :: _, _ :: _, h => ⟨h.1.keep hB hk, Pieces.keep hB hk h.2⟩
theorem Pieces.snoc {B : Nat} {w : World} {v : Value} {b : List UInt8} (hv : Piece B w v b) : ∀ {vs : List Value} {L : List (List UInt8)}, Pieces B w vs L → Pieces B w (vs ++ [v]) (L ++ [b])
  | [], [], _ => ⟨hv, trivial⟩
  | _ :: _, _ :: _, h => ⟨h.1, Pieces.snoc hv h.2⟩
theorem Pieces.len {B : Nat} {w : World} : ∀ {vs : List Value} {L : List (List UInt8)}, Pieces B w vs L → vs.length = L.length
  | [], [], _ => rfl
  | _ :: _, _ :: _, h => by simp [Pieces.len h.2]
theorem Pieces.get {B : Nat} {w : World} : ∀ {vs : List Value} {L : List (List UInt8)}, Pieces B w vs L → ∀ (k : Nat) (hk : k < L.length), ∃ v, vs[k]? = some v ∧ Piece B w v L[k]
  | [], [], _, k, hk => by simp at hk
  | _ :: _, _ :: _, h, 0, _ => ⟨_, rfl, h.1⟩
  | _ :: _, _ :: _, h, k + 1, hk => by
    obtain ⟨v, h1, h2⟩ := Pieces.get h.2 k (by simpa using hk)
    exact ⟨v, by simpa using h1, by simpa using h2⟩
/-- The fields of a line, or the lines of a text: a row of rows of bytes. -/
def Flds (w : World) (a : Option Addr) (L : List (List UInt8)) : Prop := ∀ k (h : k < L.length), ∃ g p c, a = some ⟨g, 0, none⟩ ∧ w.cell? ⟨g, k, none⟩ = some (.slice p L[k].length c) ∧ L[k].length ≤ c ∧ Rd w p L[k]
theorem Flds.below {w w' : World} {a : Option Addr} {L : List (List UInt8)} (h : Flds w a L) (hb : Below w.heap.size w w') : Flds w' a L := fun k hk => by
  obtain ⟨g, p, c, e, h1, h2, h3⟩ := h k hk
  exact ⟨g, p, c, e, cell_keep hb h1, h2, h3.below hb⟩
theorem own_new0 (w : World) (t : TypeId) : (w.alloc (.cells #[] t)).ownsRow w.heap.size t 1 (.slice (some ⟨w.heap.size, 0, none⟩) 0 0) 0 [] :=
  ⟨by simp, Or.inr ⟨w.heap.size, 0, #[], rfl, Nat.le_refl _, blk_new _ _, Nat.le_refl _, by unfold maxLen; omega, by simp, by simp⟩⟩
theorem own_snoc {B n : Nat} {w : World} {v : Value} {bs : List UInt8} {b : UInt8} {z : Int} (hn : n = bs.length) (hz : (b.toNat : Int) = z) (h : w.ownsRow B 5 1 v (n + 1) (Lib.byteCells bs ++ [Value.int .u8 z])) : Own B w v (bs ++ [b]) := by
  subst hn
  unfold Own
  rw [List.length_append, List.length_singleton, Lib.byteCells_append]
  simp only [Lib.byteCells, List.map_cons, List.map_nil, hz] at *
  exact h
theorem row_kind {B n : Nat} {w : World} {v : Value} {e : TypeId} {s : Nat} {xs : List Value} (h : w.ownsRow B e s v n xs) : ∀ g, v.ownBlock = some g → ∃ c fz, w.heap[g]? = some (.cells c e fz) := by
  intro g hg
  rcases h.2 with ⟨rfl, _⟩ | ⟨g', cap, cur, rfl, _, hgg, _⟩
  · simp [Value.ownBlock] at hg
  · simp [Value.ownBlock] at hg
    subst hg
    exact ⟨cur, _, hgg⟩
theorem row_shape {B n : Nat} {w : World} {v : Value} {e : TypeId} {s : Nat} {xs : List Value} (h : w.ownsRow B e s v n xs) : ∃ a c, v = .slice a n c ∧ n ≤ c := by
  rcases h.2 with ⟨rfl, h0⟩ | ⟨g, cap, cur, rfl, _, _, hc, _⟩
  · exact ⟨none, 0, by rw [h0], by omega⟩
  · exact ⟨_, _, rfl, hc⟩
/-- A block of another type than the one that was grown. -/
theorem grown_other {w w' : World} {g : Nat} {C : Array Value} {t e : TypeId} {fr : Nat × Nat} {v : Value} {B n s : Nat} {xs : List Value} (hg : w.grownBy w' v.ownBlock) (hrow : w.ownsRow B e s v n xs) (hb : w.heap[g]? = some (.cells C t fr)) (hne : t ≠ e) : w'.heap[g]? = some (.cells C t fr) := by
  rw [hg.block g (blk_lt hb) ?_]
  · exact hb
  · intro e1
    obtain ⟨c, fz, h⟩ := row_kind hrow g e1.symm
    rw [hb] at h
    injection h with h
    injection h with _ h2
    exact hne h2
theorem row_grown {w w' : World} {B B' n n' s s' : Nat} {v u : Value} {t e : TypeId} {xs ys : List Value} (h : w.ownsRow B t s v n xs) (hg : w.grownBy w' u.ownBlock) (hrow : w.ownsRow B' e s' u n' ys) (hne : t ≠ e) : w'.ownsRow B t s v n xs := by
  refine ⟨h.1, ?_⟩
  rcases h.2 with h0 | ⟨g, cap, cur, h1, h2, h3, h4⟩
  · exact Or.inl h0
  · exact Or.inr ⟨g, cap, cur, h1, h2, grown_other hg hrow h3 hne, h4⟩
theorem row_below {w w' : World} {B n s : Nat} {v : Value} {t : TypeId} {xs : List Value} (h : w.ownsRow B t s v n xs) (hb : Below w.heap.size w w') : w'.ownsRow B t s v n xs := by
  refine ⟨h.1, ?_⟩
  rcases h.2 with h0 | ⟨g, cap, cur, h1, h2, h3, h4⟩
  · exact Or.inl h0
  · exact Or.inr ⟨g, cap, cur, h1, h2, blk_below h3 hb, h4⟩
end Go.Proofs.YtdhnjkcebaahcaaGreatDoor.Parse
