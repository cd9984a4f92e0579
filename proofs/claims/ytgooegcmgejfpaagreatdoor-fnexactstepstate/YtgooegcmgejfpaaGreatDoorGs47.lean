import Derived.Test.YtgooegcmgejfpaaGreatDoorGs45
import Derived.Test.YtgooegcmgejfpaaGreatDoorGs46
import Derived.Test.YtgooegcmgejfpaaGreatDoorGs41
namespace Go.Proofs.YtgooegcmgejfpaaGreatDoor.Mac
open Go Go.RowKit Go.Proofs.YtgooegcmgejfpaaGreatDoor.Mem
set_option linter.unusedVariables false
set_option linter.unusedSimpArgs false

/-- A state whose lists may be written, each in a block of its own from B on. -/
structure OwS (B : Nat) (w : World) (a1 a2 a3 : Option Addr) (g1 g2 g3 : Nat) (S : St) : Prop where
  h1 : S.n1 = 0 ∨ a1 = some ⟨g1, 0, none⟩
  h2 : S.n2 = 0 ∨ a2 = some ⟨g2, 0, none⟩
  h3 : S.n3 = 0 ∨ a3 = some ⟨g3, 0, none⟩
  l1 : B ≤ g1
  l2 : B ≤ g2
  l3 : B ≤ g3
  p1 : g1 ≠ g2
  p2 : g1 ≠ g3
  p3 : g2 ≠ g3
  r1 : Rw w g1 (lst S.n1 S.L1)
  r2 : Rw w g2 (lst S.n2 S.L2)
  r3 : Rw w g3 (lst S.n3 S.L3)
theorem OwS.of {w w' : World} {S : St} {e : Ending} (h : StOwn w S e w') : ∃ (a1 a2 a3 : Option Addr) (c1 c2 c3 g1 g2 g3 : Nat), e = .returned (.agg #[.int .i64 S.p, .int .i64 S.r, .int .i64 S.d, .int .i64 S.t, .int .i64 S.s, .int .i64 S.l, .slice a1 S.n1 c1, .slice a2 S.n2 c2, .slice a3 S.n3 c3]) ∧ Below w.heap.size w w' ∧ OwS w.heap.size w' a1 a2 a3 g1 g2 g3 S := by
  obtain ⟨a1, a2, a3, c1, c2, c3, g1, g2, g3, he, hb, ⟨q1, q2, q3, q4, q5, q6⟩, ⟨x1, x2, x3⟩, r1, r2, r3⟩ := h
  exact ⟨a1, a2, a3, c1, c2, c3, g1, g2, g3, he, hb, ⟨x1, x2, x3, q1, q2, q3, q4, q5, q6, r1, r2, r3⟩⟩
theorem rw_keep {B g : Nat} {w w' : World} {l : List Int} (h : Rw w g l) (hB : B ≤ g) (hk : ∀ g, B ≤ g → g < w.heap.size → w'.heap[g]? = w.heap[g]?) : Rw w' g l := fun i hi => by
  obtain ⟨h1, h2⟩ := h i hi
  have hb := hk g hB (lt_of_cell h1)
  exact ⟨by rw [World.cell?_of_block (a := ⟨g, i, none⟩) hb]; exact h1, by rw [World.frozen?_of_block (a := ⟨g, i, none⟩) hb]; exact h2⟩
theorem rw_nums {w : World} {a : Option Addr} {g n : Nat} {L : Nat → Int} (ha : n = 0 ∨ a = some ⟨g, 0, none⟩) (h : Rw w g (lst n L)) : NumsAt w a n L := by
  rcases ha with ha | rfl
  · exact Or.inl ha
  · refine Or.inr ⟨g, 0, rfl, fun i hi j u hj => ?_⟩
    obtain ⟨rfl, rfl⟩ : j = 0 ∧ u = .int .i64 (L i) := by
      cases j with
      | zero => simp [ci] at hj; exact ⟨rfl, hj.symm⟩
      | succ j => simp [ci] at hj
    have := (h i (by rw [lst_len]; exact hi)).1
    rw [lst_get hi] at this
    simpa using this
theorem rw_there {w : World} {g n : Nat} {L : Nat → Int} (h : Rw w g (lst n L)) : w.there g 0 n := fun j hj => by
  have := h j (by rw [lst_len]; exact hj)
  rw [Nat.zero_add]
  exact ⟨by rw [this.1]; rfl, this.2⟩
theorem OwS.keep {B : Nat} {w w' : World} {a1 a2 a3 : Option Addr} {g1 g2 g3 : Nat} {S : St} (h : OwS B w a1 a2 a3 g1 g2 g3 S) (hk : ∀ g, B ≤ g → g < w.heap.size → w'.heap[g]? = w.heap[g]?) : OwS B w' a1 a2 a3 g1 g2 g3 S :=
  ⟨h.h1, h.h2, h.h3, h.l1, h.l2, h.l3, h.p1, h.p2, h.p3, rw_keep h.r1 h.l1 hk, rw_keep h.r2 h.l2 hk, rw_keep h.r3 h.l3 hk⟩
theorem OwS.below {B : Nat} {w w' : World} {a1 a2 a3 : Option Addr} {g1 g2 g3 : Nat} {S : St} (h : OwS B w a1 a2 a3 g1 g2 g3 S) (hb : Below w.heap.size w w') : OwS B w' a1 a2 a3 g1 g2 g3 S := h.keep fun g _ hg => hb.block g hg
theorem OwS.st {B : Nat} {w : World} {a1 a2 a3 : Option Addr} {g1 g2 g3 : Nat} {S : St} (h : OwS B w a1 a2 a3 g1 g2 g3 S) : StAt w a1 a2 a3 S := ⟨rw_nums h.h1 h.r1, rw_nums h.h2 h.r2, rw_nums h.h3 h.r3⟩
theorem fre1 {B g n : Nat} {a : Option Addr} (h : n = 0 ∨ a = some ⟨g, 0, none⟩) (hl : B ≤ g) : n = 0 ∨ ∀ x, a = some x → B ≤ x.block := by
  rcases h with h | rfl
  · exact Or.inl h
  · exact Or.inr fun x hx => by cases hx; exact hl
theorem OwS.fre {B : Nat} {w : World} {a1 a2 a3 : Option Addr} {g1 g2 g3 : Nat} {S : St} (h : OwS B w a1 a2 a3 g1 g2 g3 S) : Fre B a1 a2 a3 S := ⟨fre1 h.h1 h.l1, fre1 h.h2 h.l2, fre1 h.h3 h.l3⟩
/-- The lists of a state lie outside block g. -/
def FarS (g : Nat) (a1 a2 a3 : Option Addr) (S : St) : Prop :=
  (S.n1 = 0 ∨ ∀ x, a1 = some x → x.block ≠ g) ∧ (S.n2 = 0 ∨ ∀ x, a2 = some x → x.block ≠ g) ∧ (S.n3 = 0 ∨ ∀ x, a3 = some x → x.block ≠ g)
theorem far_new {B g : Nat} {a1 a2 a3 : Option Addr} {S : St} (h : Fre B a1 a2 a3 S) (hg : g < B) : FarS g a1 a2 a3 S :=
  ⟨h.1.imp id fun h x hx => by have := h x hx; omega, h.2.1.imp id fun h x hx => by have := h x hx; omega, h.2.2.imp id fun h x hx => by have := h x hx; omega⟩
theorem far1 {w : World} {a : Option Addr} {n : Nat} {L : Nat → Int} (h : NumsAt w a n L) : n = 0 ∨ ∀ x, a = some x → x.block ≠ w.heap.size := by
  by_cases hn : n = 0
  · exact Or.inl hn
  · obtain ⟨b, off, rfl, hc⟩ := h.at (i := 0) (by omega)
    exact Or.inr fun x hx => by cases hx; exact Nat.ne_of_lt (lt_of_cell hc)
theorem far_lt {w : World} {a1 a2 a3 : Option Addr} {S : St} (h : StAt w a1 a2 a3 S) : FarS w.heap.size a1 a2 a3 S := ⟨far1 h.s1, far1 h.s2, far1 h.s3⟩
theorem nums_row {w : World} {a : Option Addr} {n g : Nat} {L : Nat → Int} (h : NumsAt w a n L) (hne : n = 0 ∨ ∀ x, a = some x → x.block ≠ g) (cs : Array Value) : NumsAt (w.setRow g cs) a n L := by
  rcases h with h | ⟨b, off, rfl, h⟩
  · exact Or.inl h
  · rcases hne with h0 | hne
    · exact Or.inl h0
    · refine Or.inr ⟨b, off, rfl, fun i hi => fun j v hv => ?_⟩
      exact (cell_setRow_other w g cs _ (show b ≠ g from hne _ rfl)).trans (h i hi j v hv)
theorem st_row {w : World} {a1 a2 a3 : Option Addr} {S : St} {g : Nat} (h : StAt w a1 a2 a3 S) (hf : FarS g a1 a2 a3 S) (cs : Array Value) : StAt (w.setRow g cs) a1 a2 a3 S := ⟨nums_row h.s1 hf.1 cs, nums_row h.s2 hf.2.1 cs, nums_row h.s3 hf.2.2 cs⟩
theorem mk_blk {b1 b3 g : Nat} {w w' : World} {o : Obj} (hb : Below b1 w w') (hk : ∀ g, b3 < g → g < w.heap.size → w'.heap[g]? = w.heap[g]?) (h : w.heap[g]? = some o) (hg : g < b1 ∨ b3 < g) : w'.heap[g]? = some o := by
  rcases hg with hg | hg
  · rw [hb.block g hg]; exact h
  · rw [hk g hg (blk_lt h)]; exact h
theorem mk_there {b3 b n : Nat} {w w' : World} (hk : ∀ g, b3 < g → g < w.heap.size → w'.heap[g]? = w.heap[g]?) (h : w.there b 0 n) (hlt : b < w.heap.size) (hg : b3 < b) : w'.there b 0 n := fun j hj => by
  have hb := hk b hg hlt
  rw [World.cell?_of_block (a := ⟨b, 0 + j, none⟩) hb, World.frozen?_of_block (a := ⟨b, 0 + j, none⟩) hb]; exact h j hj
theorem step_len (C : Co) (I : In) (v : Int) (S : St) (n : Int) : (stepB C I v S n).n1 ≤ S.n1 ∧ (stepB C I v S n).n2 ≤ S.n2 ∧ (stepB C I v S n).n3 ≤ S.n3 := by
  unfold stepB
  repeat' split
  all_goals first | exact ⟨Nat.zero_le _, Nat.zero_le _, Nat.zero_le _⟩ | exact ⟨Nat.le_refl _, Nat.le_refl _, Nat.le_refl _⟩
end Go.Proofs.YtgooegcmgejfpaaGreatDoor.Mac
