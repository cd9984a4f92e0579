import Derived.Test.YtefkdpppcjlflaaGreatDoorIt10
import Derived.Test.YtefkdpppcjlflaaGreatDoorIt12
import Derived.Test.YtefkdpppcjlflaaGreatDoorIt13
import Derived.Deep.CutRange
import Derived.Deep.Cut
import Derived.Deep.DeepCutAuto
namespace Go.Proofs.YtefkdpppcjlflaaGreatDoor.Draw
open Go Go.RowKit Go.Proofs.YtefkdpppcjlflaaGreatDoor.Mem Go.Proofs.YtefkdpppcjlflaaGreatDoor.Parse
set_option linter.unusedVariables false
set_option linter.unusedSimpArgs false
attribute [local go_sem ↓] Go.wp_at_zero Go.wp_at_succ

/-! What a drawn instance is, step by step. -/
def mkVeh (a b t : Nat) (p : Pl) : Veh := ⟨6 + (a : Int), ((b ||| t : Nat) : Int), p.x, p.y, p.o, p.c, p.h⟩
def mkReq (a t : Nat) (p q : Pl) : Req := ⟨(a : Int), (t : Int), p.x, p.y, p.o, p.c, p.h, q.x, q.y, q.o, q.c, q.h⟩
def dVeh (bs : List UInt8) (s : DS) : Veh × DS :=
  (mkVeh (dBelow bs s 16).1 (dBelow bs (dBelow bs s 16).2 16).1 (dTags bs (dBelow bs (dBelow bs s 16).2 16).2).1 (dPlace bs (dTags bs (dBelow bs (dBelow bs s 16).2 16).2).2).1, (dPlace bs (dTags bs (dBelow bs (dBelow bs s 16).2 16).2).2).2)
def dReq (bs : List UInt8) (s : DS) : Req × DS :=
  (mkReq (dBelow bs s 9).1 (dTags bs (dBelow bs s 9).2).1 (dPlace bs (dTags bs (dBelow bs s 9).2).2).1 (dPlace bs (dPlace bs (dTags bs (dBelow bs s 9).2).2).2).1, (dPlace bs (dPlace bs (dTags bs (dBelow bs s 9).2).2).2).2)
def dVehs (bs : List UInt8) : Nat → DS → List Veh × DS
  | 0, s => ([], s)
  | k + 1, s => ((dVehs bs k s).1 ++ [(dVeh bs (dVehs bs k s).2).1], (dVeh bs (dVehs bs k s).2).2)
def dReqs (bs : List UInt8) : Nat → DS → List Req × DS
  | 0, s => ([], s)
  | k + 1, s => ((dReqs bs k s).1 ++ [(dReq bs (dReqs bs k s).2).1], (dReq bs (dReqs bs k s).2).2)
theorem vehs_len (bs : List UInt8) (s : DS) : ∀ k, (dVehs bs k s).1.length = k
  | 0 => rfl
  | k + 1 => by rw [dVehs, List.length_append, vehs_len bs s k]; rfl
theorem reqs_len (bs : List UInt8) (s : DS) : ∀ k, (dReqs bs k s).1.length = k
  | 0 => rfl
  | k + 1 => by rw [dReqs, List.length_append, reqs_len bs s k]; rfl
theorem tags_lt (bs : List UInt8) (s : DS) : (dTags bs s).1 < 65536 := by
  unfold dTags
  split
  · exact below_lt _ _ (by omega)
  · have h1 := below_lt bs (dOnce bs s 12).2 (show 0 < 16 by omega)
    have h2 := Nat.and_le_left (n := (dBelow bs (dOnce bs s 12).2 16).1) (m := (dBelow bs (dBelow bs (dOnce bs s 12).2 16).2 16).1)
    simp only
    split <;> omega

/-- The state of a drawn instance that is being built. -/
structure IS (B g rI r0 : Nat) (w0 w : World) (bs : List UInt8) (s : DS) (v1 v2 v3 : Value) (a : Acc) : Prop where
  d : DC B g w bs s
  x : w.heap[rI]? = some (.cells #[v1, v2, v3] 27)
  z : w.heap[r0]? = some (.cells #[.slice none 0 0, .slice none 0 0, .slice none 0 0] 27)
  acc : AccAt w0.heap.size w v1 v2 v3 a
  gb : w0.grownBy w (some g)
theorem row_idx {W : World} {B n sz r i : Nat} {T : TypeId} {u v : Value} {xs : List Value} (h : W.ownsRow B T sz u n xs) (hk : ∀ k, u.ownBlock = some k → k ≠ r) : (W.setCell ⟨r, i, none⟩ v).ownsRow B T sz u n xs := by
  refine ⟨h.1, ?_⟩
  rcases h.2 with h0 | ⟨b, cap, cur, h1, h2, h3, h4⟩
  · exact Or.inl h0
  · exact Or.inr ⟨b, cap, cur, h1, h2, blk_set_other h3 (hk b (by rw [h1]; rfl)) v, h4⟩
variable {B g rI r0 : Nat} {w0 w w' : World} {bs : List UInt8} {s s' : DS} {v1 v2 v3 : Value} {a : Acc}
theorem IS.call (h : IS B g rI r0 w0 w bs s v1 v2 v3 a) (d : DC B g w' bs s') (hg : w.grownBy w' (some g)) (h1 : rI ≠ g) (h2 : r0 ≠ g) : IS B g rI r0 w0 w' bs s' v1 v2 v3 a := by
  obtain ⟨-, -, u, hx, -⟩ := h.d
  exact ⟨d, blk_grown h.x hg h1, blk_grown h.z hg h2, ⟨row_but h.acc.v hg hx (by decide), row_but h.acc.q hg hx (by decide), row_but h.acc.r hg hx (by decide)⟩, gb_then h.gb hg⟩
theorem IS.below (h : IS B g rI r0 w0 w bs s v1 v2 v3 a) (hB : B ≤ w.heap.size) (hb : Below w.heap.size w w') : IS B g rI r0 w0 w' bs s v1 v2 v3 a := ⟨h.d.keep hB hb, blk_below h.x hb, blk_below h.z hb, h.acc.below hb, gb_then h.gb (gb_below hb)⟩
theorem IS.lt (h : IS B g rI r0 w0 w bs s v1 v2 v3 a) : (∀ k, v1.ownBlock = some k → k < w.heap.size) ∧ (∀ k, v2.ownBlock = some k → k < w.heap.size) ∧ (∀ k, v3.ownBlock = some k → k < w.heap.size) :=
  ⟨fun k hk => (h.acc.v.lt k hk).2, fun k hk => (h.acc.q.lt k hk).2, fun k hk => (h.acc.r.lt k hk).2⟩
/-- A store into a record of the loop's own. -/
theorem IS.own {r i : Nat} {v : Value} (h : IS B g rI r0 w0 w bs s v1 v2 v3 a) (hB : B ≤ r) (hg : g ≠ r) (h1 : rI ≠ r) (h2 : r0 ≠ r) (hr : w0.heap.size ≤ r) (hk : (∀ k, v1.ownBlock = some k → k < r) ∧ (∀ k, v2.ownBlock = some k → k < r) ∧ (∀ k, v3.ownBlock = some k → k < r)) : IS B g rI r0 w0 (w.setCell ⟨r, i, none⟩ v) bs s v1 v2 v3 a :=
  ⟨h.d.other hB hg, blk_set_other h.x h1 v, blk_set_other h.z h2 v, ⟨row_idx h.acc.v (fun k h => Nat.ne_of_lt (hk.1 k h)), row_idx h.acc.q (fun k h => Nat.ne_of_lt (hk.2.1 k h)), row_idx h.acc.r (fun k h => Nat.ne_of_lt (hk.2.2 k h))⟩, gb_new h.gb hr⟩
theorem below_app {o : Obj} {w7 : World} {e : TypeId} {sz n : Nat} {u : Value} {xs : List Value} {C : Nat} (hrow : w.ownsRow C e sz u n xs) (hgrow : (w.alloc o).grownBy w7 u.ownBlock) (hC : C ≤ w.heap.size) : Below C w w7 :=
  ((Below.refl C w).alloc hC o).grown hgrow (by simp; omega) (fun k hk => (hrow.lt k hk).1)
theorem gb_app {o : Obj} {w7 : World} {e : TypeId} {sz n : Nat} {u : Value} {xs : List Value} (h : w0.grownBy w (some g)) (hrow : w.ownsRow w0.heap.size e sz u n xs) (hgrow : (w.alloc o).grownBy w7 u.ownBlock) : w0.grownBy w7 (some g) := by
  have hb := below_app hrow hgrow h.size
  exact ⟨hb.os.trans h.os, hb.tape.trans h.tape, hb.output.trans h.output, Nat.le_trans h.size hb.size, fun k hk hne => (hb.block k hk).trans (h.block k hk hne)⟩
theorem dc_app {o : Obj} {w7 : World} {e : TypeId} {sz n : Nat} {u : Value} {xs : List Value} (hd : DC B g w bs s) (hrow : w.ownsRow w0.heap.size e sz u n xs) (hgrow : (w.alloc o).grownBy w7 u.ownBlock) (hne : 68 ≠ e) (hw : w0.heap.size ≤ w.heap.size) (hB : B ≤ w0.heap.size) : DC B g w7 bs s := by
  obtain ⟨d1, d2, v, d3, d4⟩ := hd
  exact ⟨d1, d2, v, grown_other hgrow (hrow.alloc o) (blk_alloc d3 o) hne, d4.below ((below_app hrow hgrow hw).mono hB)⟩
theorem IS.appV {o : Obj} {w7 : World} {vn : Value} {n : Nat} {v : Veh} (h : IS B g rI r0 w0 w bs s v1 v2 v3 a) (hn : n = a.V.length) (hown : w7.ownsRow w0.heap.size 45 7 vn (n + 1) (a.V.flatMap Veh.cells ++ v.cells)) (hgrow : (w.alloc o).grownBy w7 v1.ownBlock) (hB : B ≤ w0.heap.size) (hBr : w0.heap.size ≤ rI) (h1 : rI ≠ g) (h2 : r0 ≠ rI) : IS B g rI r0 w0 (w7.setCell ⟨rI, 0, none⟩ vn) bs s vn v2 v3 { a with V := a.V ++ [v] } := by
  have hx := grown_other hgrow (h.acc.v.alloc o) (blk_alloc h.x o) (by decide)
  have hz := grown_other hgrow (h.acc.v.alloc o) (blk_alloc h.z o) (by decide)
  have hq := row_grown (h.acc.q.alloc o) hgrow (h.acc.v.alloc o) (by decide)
  have hr := row_grown (h.acc.r.alloc o) hgrow (h.acc.v.alloc o) (by decide)
  have hv : w7.ownsRow w0.heap.size 45 7 vn (a.V ++ [v]).length ((a.V ++ [v]).flatMap Veh.cells) := by
    rw [List.length_append, List.length_singleton, List.flatMap_append, ← hn]; simpa using hown
  exact ⟨(dc_app h.d h.acc.v hgrow (by decide) h.gb.size hB).other (Nat.le_trans hB hBr) h1.symm, blk_set hx 0 vn, blk_set_other hz h2 vn, ⟨row_set hv hx (by decide), row_set hq hx (by decide), row_set hr hx (by decide)⟩, gb_new (gb_app h.gb h.acc.v hgrow) hBr⟩
theorem IS.appQ {o : Obj} {w7 : World} {vn : Value} {n : Nat} {v : Req} (h : IS B g rI r0 w0 w bs s v1 v2 v3 a) (hn : n = a.Q.length) (hown : w7.ownsRow w0.heap.size 48 12 vn (n + 1) (a.Q.flatMap Req.cells ++ v.cells)) (hgrow : (w.alloc o).grownBy w7 v2.ownBlock) (hB : B ≤ w0.heap.size) (hBr : w0.heap.size ≤ rI) (h1 : rI ≠ g) (h2 : r0 ≠ rI) : IS B g rI r0 w0 (w7.setCell ⟨rI, 1, none⟩ vn) bs s v1 vn v3 { a with Q := a.Q ++ [v] } := by
  have hx := grown_other hgrow (h.acc.q.alloc o) (blk_alloc h.x o) (by decide)
  have hz := grown_other hgrow (h.acc.q.alloc o) (blk_alloc h.z o) (by decide)
  have hq := row_grown (h.acc.v.alloc o) hgrow (h.acc.q.alloc o) (by decide)
  have hr := row_grown (h.acc.r.alloc o) hgrow (h.acc.q.alloc o) (by decide)
  have hv : w7.ownsRow w0.heap.size 48 12 vn (a.Q ++ [v]).length ((a.Q ++ [v]).flatMap Req.cells) := by
    rw [List.length_append, List.length_singleton, List.flatMap_append, ← hn]; simpa using hown
  exact ⟨(dc_app h.d h.acc.q hgrow (by decide) h.gb.size hB).other (Nat.le_trans hB hBr) h1.symm, blk_set hx 1 vn, blk_set_other hz h2 vn, ⟨row_set hq hx (by decide), row_set hv hx (by decide), row_set hr hx (by decide)⟩, gb_new (gb_app h.gb h.acc.q hgrow) hBr⟩
end Go.Proofs.YtefkdpppcjlflaaGreatDoor.Draw
namespace Go.Proofs.YtefkdpppcjlflaaGreatDoor.Draw
open Go Go.RowKit Go.Proofs.YtefkdpppcjlflaaGreatDoor.Mem Go.Proofs.YtefkdpppcjlflaaGreatDoor.Parse
set_option linter.unusedVariables false
set_option linter.unusedSimpArgs false

/-! What a drawn instance is: roads, limits, the whole. -/
/-- One more road, or none. -/
def stepRd (bs : List UInt8) (n x : Nat) (y : Int) (R : List Rd) (q : DS) : Nat × Int × List Rd × DS :=
  let y1 := y + 1 + ((dBelow bs q n).1 : Int)
  let q1 := (dBelow bs q n).2
  let x' := if (n : Int) ≤ y1 then x + 1 else x
  let y' := if (n : Int) ≤ y1 then y1 - n else y1
  if (x' : Int) ≠ y' ∧ x' < n then (x', y', R ++ [⟨(x' : Int), y', ((dBelow bs q1 40).1 : Int)⟩], (dBelow bs q1 40).2) else (x', y', R, q1)
def dRoads (bs : List UInt8) (n : Nat) : Nat → DS → Nat × Int × List Rd × DS
  | 0, s => (0, -1, [], s)
  | k + 1, s => stepRd bs n (dRoads bs n k s).1 (dRoads bs n k s).2.1 (dRoads bs n k s).2.2.1 (dRoads bs n k s).2.2.2
theorem step_bd (bs : List UInt8) {n x : Nat} {y : Int} (R : List Rd) (q : DS) (hn : 0 < n) (h0 : -1 ≤ y) (h1 : y < n) : (stepRd bs n x y R q).1 ≤ x + 1 ∧ 0 ≤ (stepRd bs n x y R q).2.1 ∧ (stepRd bs n x y R q).2.1 < n ∧ (stepRd bs n x y R q).2.2.1.length ≤ R.length + 1 := by
  have hb := below_lt bs q hn
  unfold stepRd
  generalize dBelow bs q n = D at hb ⊢
  by_cases h : (n : Int) ≤ y + 1 + (D.1 : Int)
  · simp only [h, if_true]
    split
    · exact ⟨Nat.le_refl _, by dsimp only; omega, by dsimp only; omega, by simp⟩
    · exact ⟨Nat.le_refl _, by dsimp only; omega, by dsimp only; omega, by dsimp only; omega⟩
  · simp only [h, if_false]
    split
    · exact ⟨by dsimp only; omega, by dsimp only; omega, by dsimp only; omega, by simp⟩
    · exact ⟨by dsimp only; omega, by dsimp only; omega, by dsimp only; omega, by dsimp only; omega⟩
theorem roads_bd (bs : List UInt8) (n : Nat) (s : DS) (hn : 0 < n) : ∀ k, (dRoads bs n k s).1 ≤ k ∧ -1 ≤ (dRoads bs n k s).2.1 ∧ (dRoads bs n k s).2.1 < n ∧ (dRoads bs n k s).2.2.1.length ≤ k
  | 0 => ⟨Nat.le_refl _, by simp [dRoads], by simp [dRoads]; omega, Nat.le_refl _⟩
  | k + 1 => by
    obtain ⟨h1, h2, h3, h4⟩ := roads_bd bs n s hn k
    obtain ⟨g1, g2, g3, g4⟩ := step_bd bs (x := (dRoads bs n k s).1) (dRoads bs n k s).2.2.1 (dRoads bs n k s).2.2.2 hn h2 h3
    unfold dRoads
    omega
def Veh.home (v : Veh) : Pl := ⟨v.x, v.y, v.o, v.c, v.h⟩
def Veh.put (v : Veh) (p : Pl) : Veh := ⟨v.a, v.b, p.x, p.y, p.o, p.c, p.h⟩
def Req.from' (q : Req) : Pl := ⟨q.x, q.y, q.o, q.c, q.h⟩
def Req.put (q : Req) (p : Pl) : Req := ⟨q.a, q.b, p.x, p.y, p.o, p.c, p.h, q.x', q.y', q.o', q.c', q.h'⟩
def zV : Veh := ⟨0, 0, 0, 0, 0, 0, 0⟩
def zQ : Req := ⟨0, 0, 0, 0, 0, 0, 0, 0, 0, 0, 0, 0⟩
def zR : Rd := ⟨0, 0, 0⟩
/-- A vehicle's home at its limits, or nothing. -/
def limV (bs : List UInt8) (s : DS) (L : List Veh) : List Veh × DS :=
  let s1 := (dOnce bs s 10).2
  if (dOnce bs s 10).1 = true ∧ 0 < L.length then
    let j := (dBelow bs s1 L.length).1
    let r := dLimits bs (dBelow bs s1 L.length).2 (Veh.home (L.getD j zV))
    (L.set j (Veh.put (L.getD j zV) r.1), r.2)
  else (L, s1)
def limQ (bs : List UInt8) (s : DS) (L : List Req) : List Req × DS :=
  let s1 := (dOnce bs s 10).2
  if (dOnce bs s 10).1 = true ∧ 0 < L.length then
    let j := (dBelow bs s1 L.length).1
    let r := dLimits bs (dBelow bs s1 L.length).2 (Req.from' (L.getD j zQ))
    (L.set j (Req.put (L.getD j zQ) r.1), r.2)
  else (L, s1)
/-- The roads that are drawn over n places. -/
def rdsOf (bs : List UInt8) (n : Nat) (s : DS) : List Rd × DS :=
  if 2 ≤ n then
    let s8 := (dOnce bs s 2).2
    if (dOnce bs s 2).1 = true then
      let t := dRoads bs n (1 + (dBelow bs s8 4).1) (dBelow bs s8 4).2
      (t.2.2.1, t.2.2.2)
    else ([], s8)
  else ([], s)
/-- Behind the numbers of vehicles and requests. -/
def instTail (bs : List UInt8) (nv nr : Nat) (s5 : DS) : Acc × DS :=
  let V := dVehs bs nv s5
  let Q := dReqs bs nr V.2
  let R := rdsOf bs (nv + 2 * nr) Q.2
  let V' := limV bs R.2 V.1
  let Q' := limQ bs V'.2 Q.1
  (⟨V'.1, Q'.1, R.1⟩, Q'.2)

/-! Writing into a row of records. -/
def mods (f : List Value → List Value) : Nat → List (List Value) → List (List Value)
  | _, [] => []
  | 0, x :: r => f x :: r
  | j + 1, x :: r => x :: mods f j r
theorem mods_len {f : List Value → List Value} {k : Nat} (hf : ∀ x, x.length = k → (f x).length = k) : ∀ (j : Nat) (M : List (List Value)), (∀ x ∈ M, x.length = k) → (∀ x ∈ mods f j M, x.length = k)
  | _, [], h => by simp [mods]
  | 0, y :: r, h => fun x hx => by
    rcases List.mem_cons.1 hx with rfl | hx
    · exact hf _ (h y (by simp))
    · exact h x (by simp [hx])
  | j + 1, y :: r, h => fun x hx => by
    rcases List.mem_cons.1 hx with rfl | hx
    · exact h _ (by simp)
    · exact mods_len hf j r (fun z hz => h z (by simp [hz])) x hx
theorem mods_num (f : List Value → List Value) : ∀ (j : Nat) (M : List (List Value)), (mods f j M).length = M.length
  | _, [] => by simp [mods]
  | 0, y :: r => by simp [mods]
  | j + 1, y :: r => by simp [mods, mods_num f j r]
theorem mods_flat {k q : Nat} {u : Value} (hq : q < k) : ∀ (j : Nat) (M : List (List Value)), (∀ x ∈ M, x.length = k) → j < M.length → M.flatten.set (j * k + q) u = (mods (fun x => x.set q u) j M).flatten
  | _, [], _, hj => by simp at hj
  | 0, y :: r, h, _ => by
    have hy := h y (by simp)
    rw [mods, List.flatten_cons, List.flatten_cons, Nat.zero_mul, Nat.zero_add, List.set_append, if_pos (by omega)]
  | j + 1, y :: r, h, hj => by
    have hy := h y (by simp)
    have h1 : (j + 1) * k = k + j * k := by rw [Nat.succ_mul]; omega
    rw [mods, List.flatten_cons, List.flatten_cons, List.set_append, if_neg (by omega), hy, show (j + 1) * k + q - k = j * k + q by omega]
    rw [mods_flat hq j r (fun z hz => h z (by simp [hz])) (by simpa using hj)]
theorem mods_mods (f g : List Value → List Value) : ∀ (j : Nat) (M : List (List Value)), mods f j (mods g j M) = mods (fun x => f (g x)) j M
  | _, [] => by simp [mods]
  | 0, y :: r => by simp [mods]
  | j + 1, y :: r => by simp [mods, mods_mods f g j r]
theorem mods_map {α : Type} {c : α → List Value} {f : List Value → List Value} {v v' : α} (hf : f (c v) = c v') : ∀ (j : Nat) (L : List α), L[j]? = some v → mods f j (L.map c) = (L.set j v').map c
  | _, [], h => by simp at h
  | 0, y :: r, h => by
    simp only [List.getElem?_cons_zero, Option.some.injEq] at h
    subst h
    simp [mods, hf]
  | j + 1, y :: r, h => by
    have := mods_map hf j r (by simpa using h)
    simp [mods, this]
theorem row_put {w : World} {B s n g c i : Nat} {e : TypeId} {u : Value} {xs : List Value} (h : w.ownsRow B e s (.slice (some ⟨g, 0, none⟩) n c) n xs) (hi : i < n * s) : (w.setCell ⟨g, i, none⟩ u).ownsRow B e s (.slice (some ⟨g, 0, none⟩) n c) n (xs.set i u) := by
  refine ⟨by rw [List.length_set]; exact h.1, ?_⟩
  rcases h.2 with ⟨h1, h2⟩ | ⟨g', cap, cur, h1, h2, h3, h4, h5, h6, h7⟩
  · cases h1
  · right
    refine ⟨g', cap, cur.setIfInBounds i u, h1, h2, ?_, h4, h5, by rw [Array.size_setIfInBounds]; exact h6, ?_⟩
    · injection h1 with e1
      injection e1 with e1
      injection e1 with e1
      subst e1
      exact blk_set h3 i u
    · rw [Array.toList_setIfInBounds, ← h7, List.take_set]
end Go.Proofs.YtefkdpppcjlflaaGreatDoor.Draw
