import Derived.Test.YtdhnjkcebaahcaaDoorRawMath
namespace Go.Proofs.YtdhnjkcebaahcaaDoor.Print
open Go Go.RowKit Go.Proofs.YtdhnjkcebaahcaaDoor.Mem
set_option linter.unusedVariables false

/-- A constant's row, marked in whatever world in which it lies. -/
theorem run_conv {P : Program} (w : World) (t e : TypeId) (g : Nat) (C : Array Value) (fr : Nat × Nat) (n c : Nat) (ht : P.underlying t = some (.slice e)) (he : P.underlying e = some (.int .u8)) (hb : w.heap[g]? = some (.cells C e fr)) :
    (convert t t (.slice (some ⟨g, 0, none⟩) n c)).run P w = .ok (.slice (some ⟨g, 0, none⟩) n c) (w.freeze ⟨g, C.size, none⟩ 1) := by
  have hsh : w.shape? g = some (e, C.size) := by
    unfold World.shape?
    rw [hb]
  simp [convert, run_underlying ht, run_underlying he, markStringish, hsh]
theorem blk_freeze {w : World} {g : Nat} {C : Array Value} {e : TypeId} {fr : Nat × Nat} (hb : w.heap[g]? = some (.cells C e fr)) (p : Addr) (n : Nat) : ∃ fr', (w.freeze p n).heap[g]? = some (.cells C e fr') := by
  unfold World.freeze
  split
  · exact ⟨fr, hb⟩
  · simp only [Array.getElem?_modify]
    split
    · rw [hb]; exact ⟨_, rfl⟩
    · exact ⟨fr, hb⟩
theorem blk_freeze_other {w : World} {g : Nat} {o : Obj} (hb : w.heap[g]? = some o) (p : Addr) (n : Nat) (hp : p.block ≠ g) : (w.freeze p n).heap[g]? = some o := by
  unfold World.freeze
  split
  · exact hb
  · simp only [Array.getElem?_modify]
    rw [if_neg hp]; exact hb
theorem cell_freeze {w : World} {a : Addr} {v : Value} (h : w.cell? a = some v) (p : Addr) (n : Nat) : (w.freeze p n).cell? a = some v := by
  have hs := h
  unfold World.cell? at h ⊢
  cases hb : w.heap[a.block]? with
  | none => rw [hb] at h; simp at h
  | some o =>
    cases o with
    | cells C e fr =>
      obtain ⟨fr', h'⟩ := blk_freeze hb p n
      rw [hb] at h
      rw [h']
      exact h
    | _ => rw [hb] at h; simp at h
theorem size_freeze (w : World) (p : Addr) (n : Nat) : (w.freeze p n).heap.size = w.heap.size := by
  unfold World.freeze
  split <;> simp
theorem Rb.freeze {w : World} {g o n : Nat} {bs : List UInt8} (h : Rb w g o n bs) (p : Addr) (m : Nat) : Rb (w.freeze p m) g o n bs :=
  ⟨h.1, by rw [size_freeze]; exact h.2.1, fun j u hu => cell_freeze (h.2.2 j u hu) p m⟩
theorem Rb.drew {w : World} {g o n : Nat} {bs : List UInt8} (h : Rb w g o n bs) : Rb w.drew g o n bs := h
theorem Rb.blk {w : World} {g : Nat} {bs : List UInt8} {cs : Array Value} {t : TypeId} {fr : Nat × Nat} (h : w.heap[g]? = some (.cells cs t fr)) (hc : cs = (Lib.byteCells bs).toArray) : Rb w g 0 bs.length bs := by
  subst hc
  refine ⟨rfl, blk_lt h, fun j u hu => ?_⟩
  rw [Addr.add_mid, Nat.zero_add, blk_cell h j]
  simpa using hu
theorem Rb.new1 (w : World) (o : Obj) (bs : List UInt8) (cs : Array Value) (t : TypeId) (fr : Nat × Nat) (hc : cs = (Lib.byteCells bs).toArray) : Rb ((w.alloc o).alloc (.cells cs t fr)) (w.heap.size + 1) 0 bs.length bs := Rb.blk (blk_new1 _ _ _) hc
theorem blk_drew {w : World} {g : Nat} {o : Obj} (h : w.heap[g]? = some o) : w.drew.heap[g]? = some o := h
theorem Rb.newn {w : World} {bs : List UInt8} {cs : Array Value} {t : TypeId} {fr : Nat × Nat} {n : Nat} (hn : n = bs.length) (hc : cs = (Lib.byteCells bs).toArray) : Rb (w.alloc (.cells cs t fr)) w.heap.size 0 n bs := by
  rw [hn]; exact Rb.new w bs cs t fr hc
theorem Rb.newn1 {w : World} {o : Obj} {bs : List UInt8} {cs : Array Value} {t : TypeId} {fr : Nat × Nat} {n : Nat} (hn : n = bs.length) (hc : cs = (Lib.byteCells bs).toArray) : Rb ((w.alloc o).alloc (.cells cs t fr)) (w.heap.size + 1) 0 n bs := by
  rw [hn]; exact Rb.new1 w o bs cs t fr hc
theorem Rb.blkn {w : World} {g : Nat} {bs : List UInt8} {cs : Array Value} {t : TypeId} {fr : Nat × Nat} {n : Nat} (h : w.heap[g]? = some (.cells cs t fr)) (hn : n = bs.length) (hc : cs = (Lib.byteCells bs).toArray) : Rb w g 0 n bs := by
  rw [hn]; exact Rb.blk h hc
theorem cells_of_blk {w : World} {g : Nat} {vs : List Value} {t : TypeId} {fr : Nat × Nat} (h : w.heap[g]? = some (.cells vs.toArray t fr)) : ∀ j u, vs[j]? = some u → w.cell? ((⟨g, 0, none⟩ : Addr).add j) = some u := by
  intro j u hu
  rw [Addr.add_mid, Nat.zero_add, blk_cell h j]
  simpa using hu
theorem blk_grown {w w' : World} {g : Nat} {o : Obj} {row : Option Nat} (h : w.heap[g]? = some o) (hg : w.grownBy w' row) (hne : row ≠ some g) : w'.heap[g]? = some o := by
  obtain ⟨_, _, _, _, h5⟩ := hg
  rw [h5 g (blk_lt h) (Ne.symm hne)]; exact h
theorem below_grows {w w' : World} (hg : w.grownBy w' none) : Below w.heap.size w w' := (Below.refl _ _).grown hg (Nat.le_refl _) (fun k hk => by cases hk)
theorem own_empty1 (w : World) (o : Obj) : Own (w.heap.size + 1) ((w.alloc o).alloc (.cells #[] 5)) (.slice (some ⟨w.heap.size + 1, 0, none⟩) 0 0) [] := by
  have := own_empty (w.alloc o) _ rfl
  rw [World.size_alloc] at this
  exact this
theorem ownsRow_below {B size n : Nat} {e : TypeId} {w w' : World} {v : Value} {xs : List Value} (h : w.ownsRow B e size v n xs) (hb : Below w.heap.size w w') : w'.ownsRow B e size v n xs := by
  refine ⟨h.1, ?_⟩
  rcases h.2 with h0 | ⟨g, cap, cur, h1, h2, h3, h4⟩
  · exact Or.inl h0
  · exact Or.inr ⟨g, cap, cur, h1, h2, blk_below h3 hb, h4⟩
theorem lit_at {X w1 : World} (C : Array Value) (t : TypeId) (hb : Below (X.alloc (.cells C t)).heap.size (X.alloc (.cells C t)) w1) : w1.heap[X.heap.size]? = some (.cells C t) := blk_below (blk_new _ _) hb
theorem lit_atd {X w1 : World} (C : Array Value) (t : TypeId) (hb : Below (X.alloc (.cells C t)).drew.heap.size (X.alloc (.cells C t)).drew w1) : w1.heap[X.heap.size]? = some (.cells C t) := blk_below (w := (X.alloc (.cells C t)).drew) (blk_new _ _) hb
end Go.Proofs.YtdhnjkcebaahcaaDoor.Print
