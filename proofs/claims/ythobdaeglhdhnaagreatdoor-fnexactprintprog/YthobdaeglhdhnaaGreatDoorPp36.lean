import Derived.Test.YthobdaeglhdhnaaGreatDoorPp17
import Derived.Test.YthobdaeglhdhnaaGreatDoorPp35
namespace Go.Proofs.YthobdaeglhdhnaaGreatDoor.Syn
open Go Go.RowKit Go.Proofs.YthobdaeglhdhnaaGreatDoor Go.Proofs.YthobdaeglhdhnaaGreatDoor.Mem
open Go.Proofs.YthobdaeglhdhnaaGreatDoor.Print (Own infoB byteCells_one)
set_option linter.unusedVariables false
set_option linter.unusedSimpArgs false
attribute [local go_sem ↓] Go.wp_at_zero Go.wp_at_succ

/-- The bytes of a text onto a row of the call's own. -/
theorem wp_bytes {w : World} {o : Oper} {a : Act} {K : Act → World → Prop} {Q : Exit → Act → World → Prop} (sl x : Operand)
    (ho : o.op = .call { callee := .builtin .append, args := #[sl, x], argTypes := #[26, 26] })
    (B : Nat) (v : Value) (bs : List UInt8) (hs : a.eval sl = v) (hown : Own B w v bs) (xv : Value) (hx : a.eval x = xv) (b : List UInt8) (hR : Rt w xv b) (hB : B ≤ w.heap.size) (hl : bs.length + b.length ≤ 1000000000)
    (h : ∀ v' w', Own B w' v' (bs ++ b) → Kb B v v' w w' → K (a.put o.dst v') w') : o.wp Tryz.prog a w K Q := by
  obtain ⟨g, off, c, rfl, -, hc⟩ := hR
  obtain ⟨i0, hi, hz0, hz1, hz2⟩ := info_parts infoB
  obtain ⟨v', w', hr, h2, h3, -, h5⟩ := run_append_own_at (P := Tryz.prog) w B 26 o.type 5 i0 (.int .u8 0) 1 1 Tryz.underlying26 hi hz0 hz1 hz2 rfl (by decide) v bs.length (Lib.byteCells bs) hown ⟨g, off, none⟩ b.length c (Lib.byteCells b) (by rw [Lib.byteCells_length, Nat.mul_one]) (fun j u hj => by rw [Addr.add_mid]; exact hc j u hj) (byteCells_one _) (by unfold maxLen; omega) (by omega) hB
  unfold Oper.wp execOp
  simp only [ho, resolve, invoke, builtin, Sem.run_bind, Sem.run_pure, Result.andThen_ok, List.map_toArray, List.map_cons, List.map_nil, hs, hx, hr]
  exact h v' w' (own_of rfl rfl h2) (Kb.grown hown h3 h5 hB)
theorem wpList_bytesR {w : World} {ops : Array Oper} {rest : List Oper} {o : Oper} {a : Act} {Q : Exit → Act → World → Prop} (hgd : o.guard = none) (sl x : Operand)
    (ho : o.op = .call { callee := .builtin .append, args := #[sl, x], argTypes := #[26, 26] })
    (B : Nat) (v : Value) (bs : List UInt8) (hs : a.eval sl = v) (hown : Own B w v bs) (xv : Value) (hx : a.eval x = xv) (b : List UInt8) (hR : Rt w xv b) (hB : B ≤ w.heap.size) (hl : bs.length + b.length ≤ 1000000000)
    (h : ∀ v' w', Own B w' v' (bs ++ b) → Kb B v v' w w' → wpList Tryz.prog ops Q rest (a.put o.dst v') w') : wpList Tryz.prog ops Q (o :: rest) a w :=
  wpList_plain hgd fun K hK => wp_bytes sl x ho B v bs hs hown xv hx b hR hB hl fun v' w' h1 h2 => hK _ _ (h v' w' h1 h2)
/-- l2Cat of two texts. -/
theorem catR (x y : List UInt8) (va vb : Value) (w : World) (hx : Rt w va x) (hy : Rt w vb y) (b1 : x.length ≤ 1000000000) (b2 : y.length ≤ 1000000000) :
    Calls Tryz.prog 77 #[va, vb] w fun e w' => ∃ v, e = .returned v ∧ Own w.heap.size w' v (x ++ y) ∧ Below w.heap.size w w' := by
  obtain ⟨g, off, c, rfl, -, hc⟩ := hx
  obtain ⟨g', off', c', rfl, -, hc'⟩ := hy
  refine (catS (some ⟨g, off, none⟩) (some ⟨g', off', none⟩) x.length y.length c c' (Lib.byteCells x) (Lib.byteCells y) w (by rw [Lib.byteCells_length]) (by rw [Lib.byteCells_length]) (Or.inr ⟨g, off, rfl, hc⟩) (Or.inr ⟨g', off', rfl, hc'⟩) (byteCells_one _) (byteCells_one _) (by omega) (by omega) (by intro h; cases h) (by intro h; cases h)).mono ?_
  rintro e w' ⟨v, rfl, h1, h2⟩
  exact ⟨v, rfl, own_of rfl rfl h1, h2⟩
theorem own_up {B B' : Nat} {w : World} {v : Value} {bs : List UInt8} (h : Own B w v bs) (hB : B' ≤ B) : Own B' w v bs := by
  refine ⟨h.1, ?_⟩
  rcases h.2 with h | ⟨g, cap, cur, q1, q2, q3⟩
  · exact Or.inl h
  · exact Or.inr ⟨g, cap, cur, q1, by omega, q3⟩
theorem own_cells1 {w : World} {B n g c : Nat} {e : TypeId} {xs : List Value} (h : w.ownsRow B e 1 (.slice (some ⟨g, 0, none⟩) n c) n xs) : ∀ j u, xs[j]? = some u → w.cell? ⟨g, j, none⟩ = some u := fun j u hu => by
  rcases h.2 with ⟨h1, h2⟩ | ⟨g', cap, cur, h1, h2, h3, h4, h5, h6, h7⟩
  · cases h1
  · injection h1 with g1
    injection g1 with g1
    injection g1 with g1
    rw [g1, blk_cell h3 j]
    rw [← h7, List.getElem?_take] at hu
    split at hu
    · rw [← Array.getElem?_toList]; exact hu
    · cases hu
theorem own_some1 {w : World} {B n c : Nat} {e : TypeId} {a : Option Addr} {xs : List Value} (h : w.ownsRow B e 1 (.slice a n c) n xs) (hn : 0 < n) : ∃ g, a = some ⟨g, 0, none⟩ := by
  rcases h.2 with ⟨h1, h2⟩ | ⟨g', cap, cur, h1, h2⟩
  · omega
  · injection h1 with g1
    exact ⟨g', g1⟩
/-- The text is laid into the value. -/
theorem putT {w W : World} {z : Nat} {a b v : Value} {t : List UInt8} (hz : w.heap.size + 1 < z) (hU : W.heap[z]? = some (.cells #[a, b, .slice none 0 0] 73)) (hR : W.heap[w.heap.size + 1]? = some (.cells #[.int .i64 0, .int .i64 0, .slice none 0 0] 73)) (hT : Rt W v t) (hB : Below w.heap.size w W) :
    (W.setCell ⟨z, 2, none⟩ v).heap[z]? = some (.cells #[a, b, v] 73) ∧ (W.setCell ⟨z, 2, none⟩ v).heap[w.heap.size + 1]? = some (.cells #[.int .i64 0, .int .i64 0, .slice none 0 0] 73) ∧ Rt (W.setCell ⟨z, 2, none⟩ v) v t ∧ Below w.heap.size w (W.setCell ⟨z, 2, none⟩ v) := by
  refine ⟨?_, blk_set_other hR (by show w.heap.size + 1 ≠ z; omega) _, hT.set hU (by decide), below_set hB _ (by show w.heap.size ≤ z; omega) _⟩
  have := blk_set hU 2 v
  simpa using this
theorem Rt.frz {w : World} {v : Value} {bs : List UInt8} (h : Rt w v bs) (p : Addr) (n : Nat) : Rt (w.freeze p n) v bs := by
  obtain ⟨g, off, c, rfl, ⟨C, fr, hg⟩, hc⟩ := h
  obtain ⟨fr', hg'⟩ := blk_freeze hg p n
  exact ⟨g, off, c, rfl, ⟨C, fr', hg'⟩, fun j u hu => by rw [blk_cell hg' (off + j), ← blk_cell hg (off + j)]; exact hc j u hu⟩
/-- Two values that lie in different blocks. -/
def Apart (v u : Value) : Prop := ∀ k, v.ownBlock = some k → u.ownBlock ≠ some k
theorem rt_block {w : World} {u : Value} {cs : List UInt8} (h : Rt w u cs) : ∃ g, u.ownBlock = some g ∧ g < w.heap.size := by
  obtain ⟨g, off, c, rfl, ⟨C, fr, hg⟩, hc⟩ := h
  exact ⟨g, rfl, blk_lt hg⟩
theorem apart_v {n : Nat} {w w' : World} {v u : Value} {bs cs : List UInt8} (h : Own n w' v bs) (hu : Rt w u cs) (hn : w.heap.size ≤ n) : Apart v u := fun k hk e => by
  obtain ⟨g, hg, hl⟩ := rt_block hu
  have h1 := (World.ownsRow.lt h k hk).1
  rw [hg] at e
  have := Option.some.inj e
  omega
theorem apart_u {B : Nat} {w : World} {v : Value} {bs : List UInt8} (h : Own B w v bs) (n c : Nat) : Apart v (.slice (some ⟨w.heap.size, 0, none⟩) n c) := fun k hk e => by
  have h1 := Own.lt h hk
  have : w.heap.size = k := Option.some.inj e
  omega
theorem Apart.kb {B : Nat} {x v u : Value} {w w' : World} {cs : List UInt8} (h : Apart x u) (k : Kb B x v w w') (hu : Rt w u cs) : Apart v u := fun i hi e => by
  rcases k.2.2.2 with q | ⟨g, q, hg⟩
  · exact h i (by rw [← q]; exact hi) e
  · obtain ⟨g', hg', hl⟩ := rt_block hu
    rw [q] at hi
    rw [hg'] at e
    have h1 := Option.some.inj hi
    have h2 := Option.some.inj e
    omega
theorem Rt.kb {B : Nat} {x v u : Value} {w w' : World} {cs : List UInt8} (hu : Rt w u cs) (k : Kb B x v w w') (h : Apart x u) : Rt w' u cs := by
  obtain ⟨g, off, c, rfl, ⟨C, fr, hg⟩, hc⟩ := hu
  have e := k.far hg (fun e => h g e rfl)
  exact ⟨g, off, c, rfl, ⟨C, fr, e⟩, fun j u hu => by rw [blk_cell e (off + j), ← blk_cell hg (off + j)]; exact hc j u hu⟩
theorem bel_new {n : Nat} {a W : World} (h : Below n a W) (o : Obj) : (W.alloc o).heap[W.heap.size]? = some o := blk_new W o
theorem bel_lit {n : Nat} {a W : World} (h : Below n a W) : Rt (W.alloc (.cells #[.int .u8 32] 5)) (.slice (some ⟨W.heap.size, 0, none⟩) 1 1) [32] := lit_rt [32] 1 _ _ rfl (blk_new W _)
/-- The row that a conversion of a string makes. -/
abbrev strO (W : World) (s : List UInt8) : Obj := .cells (bytesRow ⟨s.toArray⟩ (grownCap W (ByteArray.size ⟨s.toArray⟩) 0 5)) 5 ((bytesRow ⟨s.toArray⟩ (grownCap W (ByteArray.size ⟨s.toArray⟩) 0 5)).size, (bytesRow ⟨s.toArray⟩ (grownCap W (ByteArray.size ⟨s.toArray⟩) 0 5)).size + 1)
theorem bel_str {n : Nat} {a W : World} (h : Below n a W) (s : List UInt8) : Rt (W.drew.alloc (strO W s)) (.slice (some ⟨W.heap.size, 0, none⟩) s.length (grownCap W (ByteArray.size ⟨s.toArray⟩) 0 5)) s := row_rt s _ _ (blk_new W.drew _)
theorem below_str {a W : World} (h : Below a.heap.size a W) (s : List UInt8) : Below a.heap.size a (W.drew.alloc (strO W s)) := below_alloc' h.drew _
theorem Rt.als {w : World} {v : Value} {bs : List UInt8} (h : Rt w v bs) (s : List UInt8) : Rt (w.drew.alloc (strO w s)) v bs := h.below (below_str (Below.refl _ _) s)
theorem Own.als {B : Nat} {w : World} {v : Value} {bs : List UInt8} (h : Own B w v bs) (s : List UInt8) : Own B (w.drew.alloc (strO w s)) v bs := own_bel' h (below_str (Below.refl _ _) s)
theorem new_lit (W : World) : ∃ (X : World) (G : Nat), X = W.alloc (.cells #[.int .u8 32] 5) ∧ G = W.heap.size ∧ X.heap[G]? = some (.cells #[.int .u8 32] 5) ∧ Below W.heap.size W X := ⟨_, _, rfl, rfl, blk_new _ _, below_alloc' (Below.refl _ _) _⟩
theorem new_lit2 (W : World) : ∃ (X : World) (G : Nat), X = W.alloc (.cells #[.int .u8 44, .int .u8 32] 5) ∧ G = W.heap.size ∧ X.heap[G]? = some (.cells #[.int .u8 44, .int .u8 32] 5) ∧ Below W.heap.size W X := ⟨_, _, rfl, rfl, blk_new _ _, below_alloc' (Below.refl _ _) _⟩
theorem conv_lit {a W : World} {G : Nat} (hB : Below a.heap.size a W) (hG : a.heap.size ≤ G) (hb : W.heap[G]? = some (.cells #[.int .u8 32] 5)) : ∃ X : World, (convert 26 26 (.slice (some ⟨G, 0, none⟩) 1 1)).run Tryz.prog W = .ok (.slice (some ⟨G, 0, none⟩) 1 1) X ∧ Rt X (.slice (some ⟨G, 0, none⟩) 1 1) [32] ∧ Below a.heap.size a X ∧ ∀ v bs, Rt W v bs → Rt X v bs := by
  obtain ⟨fr, hfr⟩ := blk_freeze hb ⟨G, 1, none⟩ 1
  exact ⟨_, run_conv (P := Tryz.prog) W 26 5 G #[.int .u8 32] (0, 0) 1 1 Tryz.underlying26 Tryz.underlying5 hb, lit_rt [32] 1 _ fr rfl hfr, below_freeze hB _ _ _ hG, fun v bs h => h.frz _ _⟩
theorem conv_str (W : World) (s : List UInt8) : ∃ (X : World) (G c : Nat), (convert 9 26 (.string ⟨s.toArray⟩)).run Tryz.prog W = .ok (.slice (some ⟨G, 0, none⟩) s.length c) X ∧ Rt X (.slice (some ⟨G, 0, none⟩) s.length c) s ∧ Below W.heap.size W X :=
  ⟨_, _, _, run_bytes_of_string (P := Tryz.prog) W 9 26 5 ⟨s.toArray⟩ Tryz.underlying9 Tryz.underlying26 Tryz.underlying5, bel_str (Below.refl 0 W) s, below_str (Below.refl _ _) s⟩
theorem Rt.al {w : World} {v : Value} {bs : List UInt8} (h : Rt w v bs) (o : Obj) : Rt (w.alloc o) v bs := h.below (below_alloc' (Below.refl _ _) o)
theorem Own.al {B : Nat} {w : World} {v : Value} {bs : List UInt8} (h : Own B w v bs) (o : Obj) : Own B (w.alloc o) v bs := own_bel' h (below_alloc' (Below.refl _ _) o)
set_option maxHeartbeats 3200000 in
set_option maxRecDepth 100000 in
theorem binTS (v : Int) (w : World) (h0 : 0 ≤ v) (h1 : v ≤ 7) : Calls Tryz.prog 78 #[.int .i64 v] w fun e w' => e = .returned (.string ⟨(twAt (8 + v.toNat)).toArray⟩) ∧ w' = w := by
  have hc : v = 0 ∨ v = 1 ∨ v = 2 ∨ v = 3 ∨ v = 4 ∨ v = 5 ∨ v = 6 ∨ v = 7 := by omega
  rcases hc with rfl | rfl | rfl | rfl | rfl | rfl | rfl | rfl <;>
  · go_enter Tryz.func78, Tryz.ntmps78
    go_wp2
    go_ret
    exact ⟨rfl, rfl⟩
end Go.Proofs.YthobdaeglhdhnaaGreatDoor.Syn
