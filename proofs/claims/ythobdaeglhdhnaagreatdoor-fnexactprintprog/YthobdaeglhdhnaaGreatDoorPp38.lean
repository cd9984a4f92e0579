import Derived.Test.YthobdaeglhdhnaaGreatDoorPp36
import Derived.Test.YthobdaeglhdhnaaGreatDoorPp31
namespace Go.Proofs.YthobdaeglhdhnaaGreatDoor.Syn
open Go Go.RowKit Go.Proofs.YthobdaeglhdhnaaGreatDoor Go.Proofs.YthobdaeglhdhnaaGreatDoor.Mem
open Go.Proofs.YthobdaeglhdhnaaGreatDoor.Print (Own infoB byteCells_one)
set_option linter.unusedVariables false
set_option linter.unusedSimpArgs false
attribute [local go_sem ↓] Go.wp_at_zero Go.wp_at_succ

/-- A tree and the specification's text of it. -/
abbrev Tv := Tr × Value
instance : Inhabited Tv := ⟨(default, .nilIface)⟩
def pcells (t : Tv) : List Value := [.int .i64 t.1.str, .int .i64 t.1.nst, t.2]
def prow (s : List Tv) : List Value := s.flatMap pcells
theorem prow_len (s : List Tv) : (prow s).length = s.length * 3 := by
  induction s with
  | nil => rfl
  | cons t r ih => unfold prow at *; rw [List.flatMap_cons, List.length_append, ih]; simp [pcells]; omega
theorem prow_app (a b : List Tv) : prow (a ++ b) = prow a ++ prow b := by simp [prow]
theorem prow_take (s : List Tv) (m : Nat) : (prow s).take (m * 3) = prow (s.take m) := by
  induction s generalizing m with
  | nil => simp [prow]
  | cons t r ih =>
    cases m with
    | zero => simp [prow]
    | succ m =>
      have : prow (t :: r) = pcells t ++ prow r := by simp [prow]
      rw [this, List.take_succ_cons]
      have h2 : prow (t :: r.take m) = pcells t ++ prow (r.take m) := by simp [prow]
      rw [h2, ← ih m, show (m + 1) * 3 = (pcells t).length + m * 3 by simp [pcells]; omega, List.take_length_add_append]
theorem prow_drop (s : List Tv) (m : Nat) : (prow s).drop (m * 3) = prow (s.drop m) := by
  induction s generalizing m with
  | nil => simp [prow]
  | cons t r ih =>
    cases m with
    | zero => simp
    | succ m =>
      have : prow (t :: r) = pcells t ++ prow r := by simp [prow]
      rw [this, List.drop_succ_cons, ← ih m, show (m + 1) * 3 = (pcells t).length + m * 3 by simp [pcells]; omega, List.drop_length_add_append]
theorem prow_at (s : List Tv) (i : Nat) (hi : i < s.length) (q : Nat) (hq : q < 3) : (prow s)[i * 3 + q]? = (pcells (s.getD i default))[q]? := by
  induction s generalizing i with
  | nil => simp at hi
  | cons t r ih =>
    have : prow (t :: r) = pcells t ++ prow r := by simp [prow]
    rw [this]
    have hl : (pcells t).length = 3 := rfl
    cases i with
    | zero => rw [List.getElem?_append_left (by omega)]; simp
    | succ i =>
      rw [List.getElem?_append_right (by omega), hl, show (i + 1) * 3 + q - 3 = i * 3 + q by omega, ih i (by simpa using hi)]
      simp
theorem prow_one (s : List Tv) (h : ∀ p ∈ s, p.2.oneCell' = true) : ∀ u ∈ prow s, u.oneCell' = true := by
  intro u hu
  unfold prow at hu
  obtain ⟨t, ht', ht⟩ := List.mem_flatMap.1 hu
  simp only [pcells, List.mem_cons, List.not_mem_nil, or_false] at ht
  rcases ht with rfl | rfl | rfl
  · rfl
  · rfl
  · exact h t ht'
/-- The operands of the last row lie in a row of values. -/
theorem prow_slice {w : World} {g off : Nat} {s : List Tv} (h : ∀ j u, (prow s)[j]? = some u → w.cell? ⟨g, off + j, none⟩ = some u) : SliceAt w (some ⟨g, off, none⟩) s.length 3 (fun i => pcells (s.getD i default)) := by
  refine Or.inr ⟨g, off, rfl, fun i hi => ?_⟩
  intro q u hu
  have hq : q < 3 := by have := (List.getElem?_eq_some_iff.1 hu).1; exact this
  have := h (i * 3 + q) u (by rw [prow_at s i hi q hq]; exact hu)
  rw [← Nat.add_assoc] at this
  exact this
theorem own_sliceP {w : World} {B n c : Nat} {e : TypeId} {a : Option Addr} {l : List Tv} (h : w.ownsRow B e 3 (.slice a n c) n (prow l)) (hn : n = l.length) : SliceAt w a n 3 (fun i => pcells (l.getD i default)) := by
  rcases h.2 with ⟨h1, h2⟩ | ⟨g, cap, cur, h1, h2, h3, h4, h5, h6, h7⟩
  · exact Or.inl h2
  · injection h1 with g1 g2 g3
    rw [g1, hn]
    refine prow_slice (fun j u hu => ?_)
    rw [Nat.zero_add, blk_cell h3 j]
    rw [← h7, List.getElem?_take] at hu
    split at hu
    · rw [← Array.getElem?_toList]; exact hu
    · cases hu
theorem own_takeP {w : World} {B n m c : Nat} {e : TypeId} {a : Option Addr} {l : List Tv} (h : w.ownsRow B e 3 (.slice a n c) n (prow l)) (hm : m ≤ n) (hn : n = l.length) : w.ownsRow B e 3 (.slice a m c) m (prow (l.take m)) := by
  refine ⟨by rw [prow_len, List.length_take]; omega, ?_⟩
  rcases h.2 with ⟨h1, h2⟩ | ⟨g, cap, cur, h1, h2, h3, h4, h5, h6, h7⟩
  · injection h1 with e1 e2 e3
    left
    obtain rfl : m = 0 := by omega
    exact ⟨by rw [e1, e3], rfl⟩
  · injection h1 with e1 e2 e3
    right
    refine ⟨g, cap, cur, by rw [e1, e3], h2, h3, by omega, h5, h6, ?_⟩
    have : List.take (m * 3) cur.toList = (List.take (n * 3) cur.toList).take (m * 3) := by rw [List.take_take, Nat.min_eq_left (by omega)]
    rw [this, h7, prow_take]
/-- All texts can be read. -/
def Txs (w : World) (s : List Tv) : Prop := ∀ p ∈ s, Rt w p.2 p.1.txt
theorem Rt.one {w : World} {v : Value} {bs : List UInt8} (h : Rt w v bs) : v.oneCell' = true := by
  obtain ⟨g, off, c, rfl, -, -⟩ := h
  rfl
theorem Txs.below {w w' : World} {s : List Tv} (h : Txs w s) (hb : Below w.heap.size w w') : Txs w' s := fun p hp => (h p hp).below hb
theorem Txs.one {w : World} {s : List Tv} (h : Txs w s) : ∀ p ∈ s, p.2.oneCell' = true := fun p hp => (h p hp).one
theorem Txs.take {w : World} {s : List Tv} (h : Txs w s) (m : Nat) : Txs w (s.take m) := fun p hp => h p (List.mem_of_mem_take hp)
theorem Txs.drop {w : World} {s : List Tv} (h : Txs w s) (m : Nat) : Txs w (s.drop m) := fun p hp => h p (List.mem_of_mem_drop hp)
/-- A text stays where a row of another kind grows. -/
theorem Rt.grw {w w' : World} {v y : Value} {bs : List UInt8} {B n s : Nat} {e : TypeId} {xs : List Value} (h : Rt w v bs) (ho : w.ownsRow B e s y n xs) (he : e ≠ 5) (hg : w.grownBy w' y.ownBlock) : Rt w' v bs := by
  rcases ho.2 with ⟨q, -⟩ | ⟨g2, cap, cur, q, -, hb, -⟩
  · subst q
    obtain ⟨g', off, c, rfl, ⟨C', fr', hg'⟩, hc⟩ := h
    have e := hg.block g' (blk_lt hg') (by simp [Value.ownBlock])
    exact ⟨g', off, c, rfl, ⟨C', fr', by rw [e]; exact hg'⟩, fun j x hx => by rw [World.cell?_of_block (a := ⟨g', off + j, none⟩) e]; exact hc j x hx⟩
  · subst q
    exact h.other hb he fun k hk hne => hg.block k hk (by intro e; exact hne (Option.some.inj e))
theorem Txs.grw {w w' : World} {y : Value} {B n s : Nat} {e : TypeId} {xs : List Value} {l : List Tv} (h : Txs w l) (ho : w.ownsRow B e s y n xs) (he : e ≠ 5) (hg : w.grownBy w' y.ownBlock) : Txs w' l := fun p hp => (h p hp).grw ho he hg
theorem Txs.snoc {w : World} {s : List Tv} {p : Tv} (h : Txs w s) (hp : Rt w p.2 p.1.txt) : Txs w (s ++ [p]) := fun q hq => by
  rcases List.mem_append.1 hq with h1 | h1
  · exact h q h1
  · rw [List.mem_singleton.1 h1]; exact hp
end Go.Proofs.YthobdaeglhdhnaaGreatDoor.Syn
