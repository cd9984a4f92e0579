import Derived.Test.YtdhnjkcebaahcaaGreatDoorParseI
import Derived.Test.YtdhnjkcebaahcaaGreatDoorMarkP
namespace Go.Proofs.YtdhnjkcebaahcaaGreatDoor.Parse
open Go Go.RowKit Go.Proofs.YtdhnjkcebaahcaaGreatDoor.Mem Go.Proofs.YtdhnjkcebaahcaaGreatDoor.Valid
set_option linter.unusedVariables false
set_option linter.unusedSimpArgs false
attribute [local go_sem ↓] Go.wp_at_zero Go.wp_at_succ

theorem flat_at {α : Type} {f : α → List Value} {sz : Nat} (hf : ∀ x, (f x).length = sz) : ∀ (L : List α) (i : Nat) (hi : i < L.length) (j : Nat), j < sz → (L.flatMap f)[i * sz + j]? = (f L[i])[j]?
  | x :: r, 0, _, j, hj => by
    rw [List.flatMap_cons, Nat.zero_mul, Nat.zero_add, List.getElem?_append_left (by rw [hf]; exact hj)]
    rfl
  | x :: r, i + 1, hi, j, hj => by
    rw [List.flatMap_cons, List.getElem?_append_right (by rw [hf, Nat.succ_mul]; omega), hf]
    have := flat_at hf r i (by simpa using hi) j hj
    rw [show (i + 1) * sz + j - sz = i * sz + j by rw [Nat.succ_mul]; omega]
    simpa using this
theorem row_at {α : Type} {f : α → List Value} {sz B : Nat} {w : World} {T : TypeId} {a : Option Addr} {c : Nat} {L : List α} {n : Nat} (hf : ∀ x, (f x).length = sz) (D : Nat → α) (hD : ∀ i (h : i < L.length), D i = L[i]) (h : w.ownsRow B T sz (.slice a n c) L.length (L.flatMap f)) : SliceAt w a L.length sz (fun i => f (D i)) := by
  rcases h.2 with ⟨hv, h0⟩ | ⟨g, cap, cur, hv, -, hblk, -, -, -, ht⟩
  · exact Or.inl h0
  · injection hv with ha _ _
    refine Or.inr ⟨g, 0, ha, fun i hi j v hv => ?_⟩
    have hj : j < sz := by
      have := (List.getElem?_eq_some_iff.1 hv).1
      rwa [hf] at this
    rw [Nat.zero_add, blk_cell hblk (i * sz + j)]
    have hu : (L.flatMap f)[i * sz + j]? = some v := by rw [flat_at hf L i hi j hj, ← hD i hi]; exact hv
    rw [← ht, List.getElem?_take] at hu
    split at hu
    · simpa using hu
    · cases hu
def zV : Veh := ⟨0, 0, 0, 0, 0, 0, 0⟩
def zQ : Req := ⟨0, 0, 0, 0, 0, 0, 0, 0, 0, 0, 0, 0⟩
def zR : Mem.Rd := ⟨0, 0, 0⟩
def inOf (s : Acc) : In := ⟨s.V.length, s.Q.length, s.R.length, fun i => s.V.getD i zV, fun i => s.Q.getD i zQ, fun i => s.R.getD i zR⟩
theorem AccAt.shape {B : Nat} {w : World} {v1 v2 v3 : Value} {s : Acc} (h : AccAt B w v1 v2 v3 s) : ∃ a1 a2 a3 c1 c2 c3, v1 = .slice a1 s.V.length c1 ∧ v2 = .slice a2 s.Q.length c2 ∧ v3 = .slice a3 s.R.length c3 ∧ InAt w a1 a2 a3 (inOf s) := by
  obtain ⟨a1, c1, rfl, -⟩ := row_shape h.v
  obtain ⟨a2, c2, rfl, -⟩ := row_shape h.q
  obtain ⟨a3, c3, rfl, -⟩ := row_shape h.r
  refine ⟨a1, a2, a3, c1, c2, c3, rfl, rfl, rfl, ?_, ?_, ?_⟩
  · exact row_at (f := Veh.cells) (fun _ => rfl) (fun i => s.V.getD i zV) (fun i h => by simp [List.getD, h]) h.v
  · exact row_at (f := Req.cells) (fun _ => rfl) (fun i => s.Q.getD i zQ) (fun i h => by simp [List.getD, h]) h.q
  · exact row_at (f := Rd.cells) (fun _ => rfl) (fun i => s.R.getD i zR) (fun i h => by simp [List.getD, h]) h.r
theorem lineF_small {s : Acc} {ln : List UInt8} (hs : Small s) (h : (lineF s ln).1 = 0) : Small (lineF s ln).2 := by
  obtain ⟨e1, e2⟩ := line_eq s ln hs
  have := e2 (by rw [e1]; exact h)
  rw [← this.1]; exact this.2.1
theorem parseL_small : ∀ (L : List (List UInt8)) (i : Nat) (s : Acc), Small s → Small (parseL L i s).acc
  | [], _, s, hs => hs
  | [l], i, s, hs => by
    rw [parseL]
    split
    · exact small_no
    · exact hs
  | l :: m :: r, i, s, hs => by
    rw [parseL]
    split
    · rename_i h
      exact parseL_small (m :: r) (i + 1) _ (lineF_small hs h)
    · exact small_no
theorem parseT_small (t : List UInt8) : Small (parseT t).acc := by
  unfold parseT
  split
  · exact small_no
  · exact parseL_small _ _ _ small_no

/-- What marks on the three rows leave as it was. -/
structure Fr3 (B : Nat) (w w' : World) : Prop where
  below : Below B w w'
  kept : ∀ (g : Nat) (C : Array Value) (t : TypeId) (fr : Nat × Nat), w.heap[g]? = some (Obj.cells C t fr) → t ≠ 58 → t ≠ 61 → t ≠ 64 → w'.heap[g]? = some (Obj.cells C t fr)
structure Mk3 (w : World) (v1 v2 v3 : Value) (n1 n2 n3 : Nat) (k : Int) : Prop where
  v : Mk w 58 7 v1 n1 k
  q : Mk w 61 12 v2 n2 (k + 7 * n1)
  r : Mk w 64 3 v3 n3 (k + 7 * n1 + 12 * n2)
theorem Mk3.below {w w' : World} {v1 v2 v3 : Value} {n1 n2 n3 : Nat} {k : Int} (h : Mk3 w v1 v2 v3 n1 n2 n3 k) (hb : Below w.heap.size w w') : Mk3 w' v1 v2 v3 n1 n2 n3 k := ⟨h.v.below hb, h.q.below hb, h.r.below hb⟩

set_option maxHeartbeats 3200000 in
set_option maxRecDepth 100000 in
theorem markInstP (B : Nat) (v1 v2 v3 : Value) (n1 n2 n3 : Nat) (k : Int) (w : World) (h1 : Rw B w 58 7 v1 n1) (h2 : Rw B w 61 12 v2 n2) (h3 : Rw B w 64 3 v3 n3) (hB : B ≤ w.heap.size) (l1 : n1 ≤ 64) (l2 : n2 ≤ 1000) (l3 : n3 ≤ 4000) (k0 : 0 ≤ k) (k1 : k ≤ 1000) :
    Calls Tryz.prog 17 #[.agg #[v1, v2, v3], .int .i64 k] w fun e w' => e = .returned (.int .i64 (k + 7 * n1 + 12 * n2 + 3 * n3)) ∧ Mk3 w' v1 v2 v3 n1 n2 n3 k ∧ Fr3 B w w' := by
  obtain ⟨a1, c1, rfl, -⟩ := id h1
  obtain ⟨a2, c2, rfl, -⟩ := id h2
  obtain ⟨a3, c3, rfl, -⟩ := id h3
  obtain ⟨W, hW⟩ : ∃ W, W = w.alloc (.cells #[.slice a1 n1 c1, .slice a2 n2 c2, .slice a3 n3 c3] 27) := ⟨_, rfl⟩
  have HA : Hid (Below w.heap.size w W) := by rw [hW]; exact below_alloc' (Below.refl _ _) _
  have BX : Hid (W.heap[w.heap.size]? = some (.cells #[.slice a1 n1 c1, .slice a2 n2 c2, .slice a3 n3 c3] 27)) := by rw [hW]; exact blk_new _ _
  have R1 := Hid.mk (h1.below HA.out)
  have R2 := Hid.mk (h2.below HA.out)
  have R3 := Hid.mk (h3.below HA.out)
  clear h1 h2 h3
  go_enter Tryz.func17, Tryz.ntmps17
  go_wp2_with fail
  rw [← hW]
  clear hW
  refine (markVehicleSP B _ n1 k _ R1.out (by omega) k0 (by omega)).mono ?_
  rintro e w1 ⟨rfl, m1, f1⟩
  have M1 := Hid.mk m1
  have F1 := Hid.mk f1
  have X1 := Hid.mk (f1.kept _ _ _ _ BX.out (by decide))
  have S2 := Hid.mk (R2.out.fr f1 (by decide))
  have S3 := Hid.mk (R3.out.fr f1 (by decide))
  clear m1 f1 R1 R2 R3
  have x1 := blk_cell X1.out 1
  simp only [List.getElem?_toArray, List.getElem?_cons_zero, List.getElem?_cons_succ] at x1
  go_wp2_with fail
  clear x1
  refine (markRequestSP B _ n2 _ _ S2.out (by omega) (by omega) (by omega)).mono ?_
  rintro e w2 ⟨rfl, m2, f2⟩
  have M2 := Hid.mk m2
  have F2 := Hid.mk f2
  have N1 := Hid.mk (M1.out.fr f2 (by decide))
  have X2 := Hid.mk (f2.kept _ _ _ _ X1.out (by decide))
  have T3 := Hid.mk (S3.out.fr f2 (by decide))
  clear m2 f2 S2 S3 M1
  have x1 := blk_cell X2.out 2
  simp only [List.getElem?_toArray, List.getElem?_cons_zero, List.getElem?_cons_succ] at x1
  go_wp2_with fail
  clear x1
  refine (markRoadSP B _ n3 _ _ T3.out (by omega) (by omega) (by omega)).mono ?_
  rintro e w3 ⟨rfl, m3, f3⟩
  have M3 := Hid.mk m3
  have F3 := Hid.mk f3
  have P1 := Hid.mk (N1.out.fr f3 (by decide))
  have P2 := Hid.mk (M2.out.fr f3 (by decide))
  clear m3 f3 T3 N1 M2
  go_wp2
  go_ret
  refine ⟨rfl, ⟨P1.out, P2.out, M3.out⟩, (((HA.out.mono hB).trans F1.out.below).trans F2.out.below).trans F3.out.below, fun g C t fr hg e1 e2 e3 => ?_⟩
  exact F3.out.kept _ _ _ _ (F2.out.kept _ _ _ _ (F1.out.kept _ _ _ _ (blk_below hg HA.out) e1) e2) e3

set_option maxHeartbeats 3200000 in
set_option maxRecDepth 100000 in
theorem heldInstP (v1 v2 v3 : Value) (n1 n2 n3 : Nat) (k : Int) (w : World) (h : Mk3 w v1 v2 v3 n1 n2 n3 k) (l1 : n1 ≤ 64) (l2 : n2 ≤ 1000) (l3 : n3 ≤ 4000) (k0 : 0 ≤ k) (k1 : k ≤ 1000) :
    Calls Tryz.prog 18 #[.agg #[v1, v2, v3], .int .i64 k] w fun e w' => e = .returned (.int .i64 (k + 7 * n1 + 12 * n2 + 3 * n3)) ∧ Below w.heap.size w w' := by
  obtain ⟨a1, c1, rfl, -⟩ := id h.v
  obtain ⟨a2, c2, rfl, -⟩ := id h.q
  obtain ⟨a3, c3, rfl, -⟩ := id h.r
  obtain ⟨W, hW⟩ : ∃ W, W = w.alloc (.cells #[.slice a1 n1 c1, .slice a2 n2 c2, .slice a3 n3 c3] 27) := ⟨_, rfl⟩
  have HA : Hid (Below w.heap.size w W) := by rw [hW]; exact below_alloc' (Below.refl _ _) _
  have BX : Hid (W.heap[w.heap.size]? = some (.cells #[.slice a1 n1 c1, .slice a2 n2 c2, .slice a3 n3 c3] 27)) := by rw [hW]; exact blk_new _ _
  have R := Hid.mk (h.below HA.out)
  clear h
  have t1 : decide (k + 7 * (n1 : Int) < 0) = false := by simp; omega
  have t2 : decide (k + 7 * (n1 : Int) + 12 * (n2 : Int) < 0) = false := by simp; omega
  have t3 : decide (k + 7 * (n1 : Int) + 12 * (n2 : Int) + 3 * (n3 : Int) < 0) = false := by simp; omega
  have x1 := blk_cell BX.out 1
  have x2 := blk_cell BX.out 2
  simp only [List.getElem?_toArray, List.getElem?_cons_zero, List.getElem?_cons_succ] at x1 x2
  go_enter Tryz.func18, Tryz.ntmps18
  go_wp2_with fail
  rw [← hW]
  clear hW
  go_wp2_with (first
    | (go_at_call 43; refine (heldVehicleSP _ n1 k _ R.out.v (by omega) k0 (by omega)).mono ?_; rintro e w1 ⟨rfl, rfl⟩)
    | (go_at_call 44; refine (heldRequestSP _ n2 _ _ R.out.q (by omega) (by omega) (by omega)).mono ?_; rintro e w1 ⟨rfl, rfl⟩)
    | (go_at_call 45; refine (heldRoadSP _ n3 _ _ R.out.r (by omega) (by omega) (by omega)).mono ?_; rintro e w1 ⟨rfl, rfl⟩))
  go_ret
  exact ⟨rfl, HA.out⟩

set_option maxHeartbeats 3200000 in
set_option maxRecDepth 100000 in
theorem markResP (B : Nat) (e l : Int) (v1 v2 v3 : Value) (n1 n2 n3 : Nat) (w : World) (h1 : Rw B w 58 7 v1 n1) (h2 : Rw B w 61 12 v2 n2) (h3 : Rw B w 64 3 v3 n3) (hB : B ≤ w.heap.size) (l1 : n1 ≤ 64) (l2 : n2 ≤ 1000) (l3 : n3 ≤ 4000) :
    Calls Tryz.prog 10 #[.agg #[.int .i64 e, .int .i64 l, v1, v2, v3], .int .i64 1] w fun e w' => e = .returned (.int .i64 (1 + 7 * n1 + 12 * n2 + 3 * n3)) ∧ Mk3 w' v1 v2 v3 n1 n2 n3 1 ∧ Fr3 B w w' := by
  obtain ⟨a1, c1, rfl, -⟩ := id h1
  obtain ⟨a2, c2, rfl, -⟩ := id h2
  obtain ⟨a3, c3, rfl, -⟩ := id h3
  obtain ⟨W, hW⟩ : ∃ W, W = w.alloc (.cells #[.int .i64 e, .int .i64 l, .slice a1 n1 c1, .slice a2 n2 c2, .slice a3 n3 c3] 29) := ⟨_, rfl⟩
  have HA : Hid (Below w.heap.size w W) := by rw [hW]; exact below_alloc' (Below.refl _ _) _
  have R1 := Hid.mk (h1.below HA.out)
  have R2 := Hid.mk (h2.below HA.out)
  have R3 := Hid.mk (h3.below HA.out)
  clear h1 h2 h3
  go_enter Tryz.func10, Tryz.ntmps10
  go_wp2_with fail
  rw [← hW]
  clear hW
  go_wp2_with (go_at_call 17; refine (markInstP B _ _ _ n1 n2 n3 1 _ R1.out R2.out R3.out (Nat.le_trans hB HA.out.size) l1 l2 l3 (by omega) (by omega)).mono ?_; rintro e w1 ⟨rfl, m1, f1⟩; have M1 := Hid.mk m1; have F1 := Hid.mk f1; clear m1 f1)
  go_ret
  exact ⟨rfl, M1.out, (HA.out.mono hB).trans F1.out.below, fun g C t fr hg e1 e2 e3 => F1.out.kept _ _ _ _ (blk_below hg HA.out) e1 e2 e3⟩

set_option maxHeartbeats 3200000 in
set_option maxRecDepth 100000 in
theorem heldResP (e l : Int) (v1 v2 v3 : Value) (n1 n2 n3 : Nat) (w : World) (h : Mk3 w v1 v2 v3 n1 n2 n3 1) (l1 : n1 ≤ 64) (l2 : n2 ≤ 1000) (l3 : n3 ≤ 4000) :
    Calls Tryz.prog 11 #[.agg #[.int .i64 e, .int .i64 l, v1, v2, v3], .int .i64 1] w fun e w' => e = .returned (.int .i64 (1 + 7 * n1 + 12 * n2 + 3 * n3)) ∧ Below w.heap.size w w' := by
  obtain ⟨a1, c1, rfl, -⟩ := id h.v
  obtain ⟨a2, c2, rfl, -⟩ := id h.q
  obtain ⟨a3, c3, rfl, -⟩ := id h.r
  obtain ⟨W, hW⟩ : ∃ W, W = w.alloc (.cells #[.int .i64 e, .int .i64 l, .slice a1 n1 c1, .slice a2 n2 c2, .slice a3 n3 c3] 29) := ⟨_, rfl⟩
  have HA : Hid (Below w.heap.size w W) := by rw [hW]; exact below_alloc' (Below.refl _ _) _
  have R := Hid.mk (h.below HA.out)
  have t3 : decide ((1 : Int) + 7 * (n1 : Int) + 12 * (n2 : Int) + 3 * (n3 : Int) < 0) = false := by simp; omega
  clear h
  go_enter Tryz.func11, Tryz.ntmps11
  go_wp2_with fail
  rw [← hW]
  clear hW
  go_wp2_with (go_at_call 18; refine (heldInstP _ _ _ n1 n2 n3 1 _ R.out l1 l2 l3 (by omega) (by omega)).mono ?_; rintro e w1 ⟨rfl, b1⟩; have B1 := Hid.mk b1; clear b1)
  go_ret
  exact ⟨rfl, below_then HA.out B1.out⟩
end Go.Proofs.YtdhnjkcebaahcaaGreatDoor.Parse
