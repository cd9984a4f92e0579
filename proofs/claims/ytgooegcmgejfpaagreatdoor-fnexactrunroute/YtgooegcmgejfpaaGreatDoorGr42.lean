import Derived.Test.YtgooegcmgejfpaaGreatDoorGr28
import Derived.Test.YtgooegcmgejfpaaGreatDoorGr35
import Derived.Deep.DrawnRows
import Derived.Deep.CutRange
import Derived.Deep.Cut
import Derived.Deep.DeepCutAuto
namespace Go.Proofs.YtgooegcmgejfpaaGreatDoor.Mac
open Go Go.RowKit Go.Proofs.YtgooegcmgejfpaaGreatDoor.Mem Go.Proofs.YtgooegcmgejfpaaGreatDoor.Travel
open Go.Proofs.YtgooegcmgejfpaaGreatDoor.Valid (inB nodes nodes_bd validB)
open Go.Proofs.YtgooegcmgejfpaaGreatDoor.StV (stopB allIn listB okSt validStS)
open Go.Proofs.YtgooegcmgejfpaaGreatDoor.Arith (cl cl_bd sadd smul addS)
set_option linter.unusedVariables false
set_option linter.unusedSimpArgs false
attribute [local go_sem ↓] Go.wp_at_zero Go.wp_at_succ

theorem blk_new3 (w : World) (a b c d : Obj) : ((((w.alloc a).alloc b).alloc c).alloc d).heap[w.heap.size + 1 + 1 + 1]? = some d := by
  have := blk_new (((w.alloc a).alloc b).alloc c) d; simpa using this
theorem blk_drew {w : World} {V : Nat} {o : Obj} (h : w.heap[V]? = some o) : w.drew.heap[V]? = some o := h
theorem blk_of {B : Nat} {w0 w : World} (h : Below B w0 w) (o : Obj) : (w.alloc o).heap[w.heap.size]? = some o := blk_new w o
theorem infoVd : (Tryz.prog.info? 59).map (·.size) = some 3 := by kernel_rfl
theorem vset {w : World} {V : Nat} {t : TypeId} {fr : Nat × Nat} {x y z : Value} (h : w.heap[V]? = some (.cells #[x, y, z] t fr)) (a b c : Value) : (((w.setCell ⟨V, 0, none⟩ a).setCell ⟨V, 1, none⟩ b).setCell ⟨V, 2, none⟩ c).heap[V]? = some (.cells #[a, b, c] t fr) := by
  have := blk_set (blk_set (blk_set h 0 a) 1 b) 2 c
  simp only [List.setIfInBounds_toArray, List.set_cons_zero, List.set_cons_succ] at this
  exact this
theorem vbel {B : Nat} {w0 w : World} {V : Nat} (h : Below B w0 w) (hV : B ≤ V) (a b c : Value) : Below B w0 (((w.setCell ⟨V, 0, none⟩ a).setCell ⟨V, 1, none⟩ b).setCell ⟨V, 2, none⟩ c) :=
  ((h.setCell (p := ⟨V, 0, none⟩) hV _).setCell (p := ⟨V, 1, none⟩) hV _).setCell (p := ⟨V, 2, none⟩) hV _
theorem lt_drew {w : World} {b : Nat} (h : b < w.drew.heap.size) : b < w.heap.size := h
theorem srow_self {w : World} {g : Nat} {old : Array Value} {t : TypeId} {fr : Nat × Nat} (h : w.heap[g]? = some (.cells old t fr)) (cs : Array Value) : (w.setRow g cs).heap[g]? = some (.cells cs t fr) := by
  simp [World.setRow, Array.getElem?_modify, h]
theorem srow_other {w : World} {g k : Nat} {o : Obj} (h : w.heap[k]? = some o) (hne : g ≠ k) (cs : Array Value) : (w.setRow g cs).heap[k]? = some o := by
  simp [World.setRow, Array.getElem?_modify, h, hne]
theorem srow_below {B g : Nat} {a w : World} (h : Below B a w) (hg : B ≤ g) (cs : Array Value) : Below B a (w.setRow g cs) := by
  obtain ⟨h1, h2, h3, h4, h5⟩ := h
  exact ⟨h1, h2, h3, by simp [World.setRow]; exact h4, fun k hk => by simp [World.setRow, Array.getElem?_modify, show g ≠ k by omega]; exact h5 k hk⟩
theorem srow_range {w : World} {g b o : Nat} {cs : List Value} (h : w.rangeAt b o cs) (hne : b ≠ g) (new : Array Value) : (w.setRow g new).rangeAt b o cs := fun j v hv => by
  have := h j v hv
  simp only [World.cell?, World.setRow, Array.getElem?_modify, if_neg (Ne.symm hne)] at this ⊢
  exact this
theorem srow_li {w : World} {g b : Nat} {l : List Int} (h : Li w (some ⟨b, 0, none⟩) l) (hne : b ≠ g) (new : Array Value) : Li (w.setRow g new) (some ⟨b, 0, none⟩) l := by
  rcases h with h | ⟨b', off, hb, h⟩
  · exact Or.inl h
  · cases hb
    exact Or.inr ⟨b, 0, rfl, fun i hi => srow_range (h i hi) hne new⟩
theorem cell_srow {w : World} {g b o : Nat} {v : Value} {cs : Array Value} (h : w.cell? ⟨b, o, none⟩ = some v) (hne : b ≠ g) : (w.setRow g cs).cell? ⟨b, o, none⟩ = some v := (cell_setRow_other w g cs ⟨b, o, none⟩ hne).trans h
theorem li_ne {w : World} {g M : Nat} {l : List Int} {x : Value} {xs : List Value} {t : TypeId} {fr : Nat × Nat} (h : Li w (some ⟨g, 0, none⟩) l) (hl : 0 < l.length) (hM : w.heap[M]? = some (.cells (x :: xs).toArray t fr)) (hx : ∀ z, x ≠ .int .i64 z) : g ≠ M := by
  rintro rfl
  obtain ⟨b, off, hb, hc⟩ := h.at hl
  cases hb
  have := blk_cell hM 0
  rw [hc] at this
  simp at this
  exact hx _ this.symm
theorem infoMm : (Tryz.prog.info? 83).map (·.size) = some 7 := by kernel_rfl
end Go.Proofs.YtgooegcmgejfpaaGreatDoor.Mac
