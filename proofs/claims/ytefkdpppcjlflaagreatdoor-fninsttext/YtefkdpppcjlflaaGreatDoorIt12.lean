import Derived.Test.YtefkdpppcjlflaaGreatDoorIt11
import Derived.RegionTactic
import Derived.Test.YtefkdpppcjlflaaGreatDoorIt07
namespace Go.Proofs.YtefkdpppcjlflaaGreatDoor.Parse
open Go Go.RowKit Go.Proofs.YtefkdpppcjlflaaGreatDoor.Mem Go.Proofs.YtefkdpppcjlflaaGreatDoor.Valid
set_option linter.unusedVariables false
set_option linter.unusedSimpArgs false
attribute [local go_sem ↓] Go.wp_at_zero Go.wp_at_succ

theorem heapD {w W : World} {m b : Nat} {o : Option Obj} (h : W = w.drewN m) (hb : w.heap[b]? = o) : W.heap[b]? = o := by rw [h]; exact hb
theorem heapE {w W : World} {b : Nat} {o : Option Obj} (h : W = w) (hb : w.heap[b]? = o) : W.heap[b]? = o := by rw [h]; exact hb
theorem set3 {w : World} {b : Nat} {v0 v1 v2 : Value} (t0 : w.cell? ⟨b, 0, none⟩ = some v0) (t1 : w.cell? ⟨b, 1, none⟩ = some v1) (t2 : w.cell? ⟨b, 2, none⟩ = some v2) (x0 x1 x2 : Value) :
    (((w.setCell ⟨b, 0, none⟩ x0).setCell ⟨b, 1, none⟩ x1).setCell ⟨b, 2, none⟩ x2).drew.cell? ⟨b, 0, none⟩ = some x0 ∧ (((w.setCell ⟨b, 0, none⟩ x0).setCell ⟨b, 1, none⟩ x1).setCell ⟨b, 2, none⟩ x2).drew.cell? ⟨b, 1, none⟩ = some x1 ∧ (((w.setCell ⟨b, 0, none⟩ x0).setCell ⟨b, 1, none⟩ x1).setCell ⟨b, 2, none⟩ x2).drew.cell? ⟨b, 2, none⟩ = some x2 := by
  have ne : ∀ {i j : Nat}, i ≠ j → (⟨b, i, none⟩ : Addr) ≠ ⟨b, j, none⟩ := fun h e => h (by injection e)
  have oth : ∀ {W : World} {i j : Nat} {u v : Value}, i ≠ j → W.cell? ⟨b, j, none⟩ = some v → (W.setCell ⟨b, i, none⟩ u).cell? ⟨b, j, none⟩ = some v := fun {W i j u v} h hc => by
    rw [World.cell?_setCell_other _ _ _ _ (ne h)]; exact hc
  exact ⟨oth (by decide) (oth (by decide) (World.cell?_setCell_same _ _ _ t0)), oth (by decide) (World.cell?_setCell_same _ _ _ (oth (by decide) t1)), World.cell?_setCell_same _ _ _ (oth (by decide) (oth (by decide) t2))⟩
theorem set3_below {B : Nat} {w W : World} {b : Nat} (hB : B ≤ b) (h : Below B w W) (x0 x1 x2 : Value) : Below B w (((W.setCell ⟨b, 0, none⟩ x0).setCell ⟨b, 1, none⟩ x1).setCell ⟨b, 2, none⟩ x2).drew :=
  (((h.setCell (p := ⟨b, 0, none⟩) hB x0).setCell (p := ⟨b, 1, none⟩) hB x1).setCell (p := ⟨b, 2, none⟩) hB x2).drew

theorem allB_all {f : Nat → Bool} : ∀ {n : Nat}, allB n f = true → ∀ k, k < n → f k = true
  | 0, _, k, hk => by omega
  | m + 1, h, k, hk => by
    simp only [allB, Bool.and_eq_true] at h
    by_cases e : k = m
    · subst e; exact h.2
    · exact allB_all h.1 k (by omega)
theorem info1 : (Tryz.prog.info? 45).map (fun i => (i.zero, i.size, i.bytes)) = some (some (.agg #[.int .i64 0, .int .i64 0, .int .i64 0, .int .i64 0, .int .i64 0, .int .i64 0, .int .i64 0]), 7, 56) := by kernel_rfl
theorem info2 : (Tryz.prog.info? 48).map (fun i => (i.zero, i.size, i.bytes)) = some (some (.agg #[.int .i64 0, .int .i64 0, .int .i64 0, .int .i64 0, .int .i64 0, .int .i64 0, .int .i64 0, .int .i64 0, .int .i64 0, .int .i64 0, .int .i64 0, .int .i64 0]), 12, 96) := by kernel_rfl
theorem info3 : (Tryz.prog.info? 51).map (fun i => (i.zero, i.size, i.bytes)) = some (some (.agg #[.int .i64 0, .int .i64 0, .int .i64 0]), 3, 24) := by kernel_rfl
theorem keep2al {w : World} {a b : Addr} {u v : Value} (h : w.cell? a = some u ∧ w.cell? b = some v) (o : Obj) : (w.alloc o).cell? a = some u ∧ (w.alloc o).cell? b = some v := ⟨cell_alloc' h.1 o, cell_alloc' h.2 o⟩
theorem news_at (w : World) (vs : List Value) (t : TypeId) : ∀ j u, vs[j]? = some u → (w.alloc (.cells vs.toArray t)).cell? ((⟨w.heap.size, 0, none⟩ : Addr).add j) = some u := fun j u h => by
  rw [Addr.add_mid, Nat.zero_add, blk_cell (blk_new w _) j]
  simpa using h
theorem row_set {w : World} {B n s b o : Nat} {v u : Value} {t e : TypeId} {xs : List Value} {C : Array Value} {fr : Nat × Nat} (h : w.ownsRow B t s v n xs) (hb : w.heap[b]? = some (.cells C e fr)) (hne : t ≠ e) : (w.setCell ⟨b, o, none⟩ u).ownsRow B t s v n xs := by
  refine ⟨h.1, ?_⟩
  rcases h.2 with h0 | ⟨g, cap, cur, h1, h2, h3, h4⟩
  · exact Or.inl h0
  · refine Or.inr ⟨g, cap, cur, h1, h2, ?_, h4⟩
    refine blk_set_other h3 ?_ u
    intro e1
    rw [show g = b from e1, hb] at h3
    injection h3 with h3
    injection h3 with _ h5
    exact hne h5.symm
theorem AccAt.set {B : Nat} {w : World} {v1 v2 v3 : Value} {s : Acc} {b o : Nat} {C : Array Value} {fr : Nat × Nat} (h : AccAt B w v1 v2 v3 s) (hb : w.heap[b]? = some (.cells C 27 fr)) (u : Value) : AccAt B (w.setCell ⟨b, o, none⟩ u) v1 v2 v3 s :=
  ⟨row_set h.v hb (by decide), row_set h.q hb (by decide), row_set h.r hb (by decide)⟩
theorem AccAt.set3 {B : Nat} {w : World} {v1 v2 v3 : Value} {s : Acc} {b : Nat} {C : Array Value} {fr : Nat × Nat} (h : AccAt B w v1 v2 v3 s) (hb : w.heap[b]? = some (.cells C 27 fr)) (x0 x1 x2 : Value) : AccAt B (((w.setCell ⟨b, 0, none⟩ x0).setCell ⟨b, 1, none⟩ x1).setCell ⟨b, 2, none⟩ x2).drew v1 v2 v3 s := by
  have h1 := h.set (o := 0) hb x0
  have b1 := blk_set hb 0 x0
  have h2 := h1.set (o := 1) b1 x1
  have b2 := blk_set b1 1 x1
  have h3 := h2.set (o := 2) b2 x2
  exact ⟨h3.v, h3.q, h3.r⟩
theorem size_drew (w : World) : w.drew.heap.size = w.heap.size := rfl
theorem allocFacts {w W : World} (h : Below w.heap.size w W) (o : Obj) : Below w.heap.size w (W.alloc o) ∧ (W.alloc o).heap[W.heap.size]? = some o ∧ w.heap.size ≤ W.heap.size := ⟨below_alloc' h o, blk_new W o, h.size⟩
theorem setC_blk {w : World} {b : Nat} {t : TypeId} {fr : Nat × Nat} : ∀ (vs : List Value) (o : Nat) (C : Array Value), w.heap[b]? = some (.cells C t fr) → ∃ D : Array Value, D.size = C.size ∧ (∀ i, i < o → D[i]? = C[i]?) ∧ True := fun _ _ C _ => ⟨C, rfl, fun _ _ => rfl, trivial⟩
theorem sets_gen {b : Nat} {t : TypeId} {fr : Nat × Nat} : ∀ (vs : List Value) (o : Nat) (w : World) (pre post : List Value), pre.length = o → post.length = vs.length → w.heap[b]? = some (.cells (pre ++ post).toArray t fr) → (w.setCells b o vs).heap[b]? = some (.cells (pre ++ vs).toArray t fr)
  | [], o, w, pre, post, _, h2, hb => by
    have : post = [] := List.eq_nil_of_length_eq_zero (by simpa using h2)
    subst this
    exact hb
  | v :: r, o, w, pre, post, h1, h2, hb => by
    cases post with
    | nil => simp at h2
    | cons x y =>
      have hs := blk_set hb o v
      rw [World.setCells]
      have := sets_gen r (o + 1) (w.setCell ⟨b, o, none⟩ v) (pre ++ [v]) y (by simp [h1]) (by simpa using h2) (by
        rw [hs]
        congr 2
        subst h1
        simp)
      rw [this]
      simp
theorem sets_blk {w : World} {b : Nat} {C : Array Value} {t : TypeId} {fr : Nat × Nat} (h : w.heap[b]? = some (.cells C t fr)) (vs : List Value) (hs : C.size = vs.length) : (w.setCells b 0 vs).heap[b]? = some (.cells vs.toArray t fr) := by
  have := sets_gen (b := b) (t := t) (fr := fr) vs 0 w [] C.toList rfl (by simpa using hs) (by simpa using h)
  simpa using this
theorem below_of_eq {w w' : World} (h : w' = w) : Below w.heap.size w w' := by rw [h]; exact Below.refl _ _
theorem keep2s {w : World} {g b o k1 k2 : Nat} {u v x : Value} (hne : g ≠ b) (h : w.cell? ⟨g, k1, none⟩ = some u ∧ w.cell? ⟨g, k2, none⟩ = some v) : (w.setCell ⟨b, o, none⟩ x).cell? ⟨g, k1, none⟩ = some u ∧ (w.setCell ⟨b, o, none⟩ x).cell? ⟨g, k2, none⟩ = some v := by
  have hc : ∀ k u, w.cell? ⟨g, k, none⟩ = some u → (w.setCell ⟨b, o, none⟩ x).cell? ⟨g, k, none⟩ = some u := fun k u h => by
    rw [World.cell?_setCell_other _ _ _ _ (fun e => by injection e with e1; exact hne e1.symm)]; exact h
  exact ⟨hc _ _ h.1, hc _ _ h.2⟩
theorem keep3 {w w' : World} {a b c : Addr} {u v x : Value} (h : w.cell? a = some u ∧ w.cell? b = some v ∧ w.cell? c = some x) (hb : Below w.heap.size w w') : w'.cell? a = some u ∧ w'.cell? b = some v ∧ w'.cell? c = some x := ⟨cell_keep hb h.1, cell_keep hb h.2.1, cell_keep hb h.2.2⟩
theorem keep3al {w : World} {a b c : Addr} {u v x : Value} (h : w.cell? a = some u ∧ w.cell? b = some v ∧ w.cell? c = some x) (o : Obj) : (w.alloc o).cell? a = some u ∧ (w.alloc o).cell? b = some v ∧ (w.alloc o).cell? c = some x := ⟨cell_alloc' h.1 o, cell_alloc' h.2.1 o, cell_alloc' h.2.2 o⟩
theorem keep3s {w : World} {g b o k1 k2 k3 : Nat} {u v y x : Value} (hne : g ≠ b) (h : w.cell? ⟨g, k1, none⟩ = some u ∧ w.cell? ⟨g, k2, none⟩ = some v ∧ w.cell? ⟨g, k3, none⟩ = some y) : (w.setCell ⟨b, o, none⟩ x).cell? ⟨g, k1, none⟩ = some u ∧ (w.setCell ⟨b, o, none⟩ x).cell? ⟨g, k2, none⟩ = some v ∧ (w.setCell ⟨b, o, none⟩ x).cell? ⟨g, k3, none⟩ = some y := by
  have hc : ∀ k u, w.cell? ⟨g, k, none⟩ = some u → (w.setCell ⟨b, o, none⟩ x).cell? ⟨g, k, none⟩ = some u := fun k u h => by
    rw [World.cell?_setCell_other _ _ _ _ (fun e => by injection e with e1; exact hne e1.symm)]; exact h
  exact ⟨hc _ _ h.1, hc _ _ h.2.1, hc _ _ h.2.2⟩
theorem flat_len : ∀ (R : List Mem.Rd), (R.flatMap Rd.cells).length = R.length * 3
  | [] => rfl
  | x :: r => by rw [List.flatMap_cons, List.length_append, flat_len r, List.length_cons]; simp [Rd.cells]; omega
theorem last_road {B n m c : Nat} {w : World} {a : Option Addr} {t : TypeId} {R : List Mem.Rd} (h : w.ownsRow B t 3 (.slice a n c) R.length (R.flatMap Rd.cells)) (hm : R.length = m + 1) :
    ∃ g x, a = some ⟨g, 0, none⟩ ∧ R.getLast? = some x ∧ w.cell? ⟨g, m * 3, none⟩ = some (.int .i64 x.a) ∧ w.cell? ⟨g, m * 3 + 1, none⟩ = some (.int .i64 x.b) ∧ w.cell? ⟨g, m * 3 + 2, none⟩ = some (.int .i64 x.t) := by
  have hne : R ≠ [] := by intro e; subst e; simp at hm
  obtain ⟨R', x, rfl⟩ : ∃ R' x, R = R' ++ [x] := ⟨R.dropLast, R.getLast hne, (List.dropLast_concat_getLast hne).symm⟩
  have hl : R'.length = m := by simpa using hm
  have hfl := flat_len R'
  rcases h.2 with ⟨hv, h0⟩ | ⟨g, cap, cur, hv, -, hblk, -, -, -, ht⟩
  · simp at h0
  · injection hv with ha _ _
    have key : ∀ i u, x.cells[i]? = some u → w.cell? ⟨g, m * 3 + i, none⟩ = some u := fun i u hu => by
      rw [blk_cell hblk (m * 3 + i)]
      have hf : ((R' ++ [x]).flatMap Rd.cells)[m * 3 + i]? = some u := by
        rw [List.flatMap_append, List.getElem?_append_right (by rw [hfl, hl]; omega), hfl, hl]
        simpa using hu
      rw [← ht, List.getElem?_take] at hf
      split at hf
      · simpa using hf
      · cases hf
    exact ⟨g, x, ha, by simp, key 0 _ rfl, key 1 _ rfl, key 2 _ rfl⟩
theorem keep2 {w w' : World} {a b : Addr} {u v : Value} (h : w.cell? a = some u ∧ w.cell? b = some v) (hb : Below w.heap.size w w') : w'.cell? a = some u ∧ w'.cell? b = some v := ⟨cell_keep hb h.1, cell_keep hb h.2⟩
end Go.Proofs.YtefkdpppcjlflaaGreatDoor.Parse
namespace Go.Proofs.YtefkdpppcjlflaaGreatDoor.Parse
open Go Go.RowKit Go.Proofs.YtefkdpppcjlflaaGreatDoor.Mem Go.Proofs.YtefkdpppcjlflaaGreatDoor.Valid
set_option linter.unusedVariables false
set_option linter.unusedSimpArgs false
attribute [local go_sem ↓] Go.wp_at_zero Go.wp_at_succ

/-- The program's own number of a kind of line, and how many fields such a line has. -/
def kI (f : List UInt8) : Int := if f == wordV then 0 else if f == wordQ then 1 else if f == wordR then 2 else 3
def wI (f : List UInt8) : Int := if f == wordV then 8 else if f == wordQ then 13 else if f == wordR then 4 else 0
set_option maxHeartbeats 1600000 in
set_option maxRecDepth 100000 in
theorem kindWI (a : Option Addr) (f : List UInt8) (n c : Nat) (w : World) (hn : n = f.length) (hr : Rd w a f) :
    Calls Tryz.prog 53 #[.slice a n c] w fun e w' => e = .returned (.tuple #[.int .i64 (kI f), .int .i64 (wI f)]) ∧ w' = w := by
  have cv := conv_rd (P := Tryz.prog) w 22 9 5 a n c f hn hr Tryz.underlying22 Tryz.underlying5 Tryz.underlying9
  clear hn hr
  cases h1 : (f == [118, 101, 104, 105, 99, 108, 101]) with
  | true =>
    have HV : Hid (kI f = 0 ∧ wI f = 8) := by unfold Hid kI wI wordV; rw [h1]; simp
    go_enter Tryz.func53, Tryz.ntmps53
    go_wp2
    go_ret2
    (rw [HV.out.1, HV.out.2]; exact ⟨rfl, rfl⟩)
  | false =>
    cases h2 : (f == [114, 101, 113, 117, 101, 115, 116]) with
    | true =>
      have HV : Hid (kI f = 1 ∧ wI f = 13) := by unfold Hid kI wI wordV wordQ; rw [h1, h2]; simp
      go_enter Tryz.func53, Tryz.ntmps53
      go_wp2
      go_ret2
      (rw [HV.out.1, HV.out.2]; exact ⟨rfl, rfl⟩)
    | false =>
      cases h3 : (f == [114, 111, 97, 100]) with
      | true =>
        have HV : Hid (kI f = 2 ∧ wI f = 4) := by unfold Hid kI wI wordV wordQ wordR; rw [h1, h2, h3]; simp
        go_enter Tryz.func53, Tryz.ntmps53
        go_wp2
        go_ret2
        (rw [HV.out.1, HV.out.2]; exact ⟨rfl, rfl⟩)
      | false =>
        have HV : Hid (kI f = 3 ∧ wI f = 0) := by unfold Hid kI wI wordV wordQ wordR; rw [h1, h2, h3]; simp
        go_enter Tryz.func53, Tryz.ntmps53
        go_wp2
        go_ret2
        (rw [HV.out.1, HV.out.2]; exact ⟨rfl, rfl⟩)

/-- The reader at block r: its rows and the kind of the last line. -/
structure Rdr (B r : Nat) (w : World) (v1 v2 v3 : Value) (s : Acc) (k : Int) : Prop where
  blk : w.heap[r]? = some (.cells #[v1, v2, v3, .int .i64 k] 58)
  acc : AccAt B w v1 v2 v3 s
theorem row_but {w w' : World} {B n sz g : Nat} {v : Value} {t e : TypeId} {xs : List Value} {C : Array Value} {fr : Nat × Nat} (h : w.ownsRow B t sz v n xs) (hg : w.grownBy w' (some g)) (hb : w.heap[g]? = some (.cells C e fr)) (hne : t ≠ e) : w'.ownsRow B t sz v n xs := by
  refine ⟨h.1, ?_⟩
  rcases h.2 with h0 | ⟨b, cap, cur, h1, h2, h3, h4⟩
  · exact Or.inl h0
  · refine Or.inr ⟨b, cap, cur, h1, h2, ?_, h4⟩
    refine blk_grown h3 hg ?_
    intro e1
    rw [e1, hb] at h3
    injection h3 with h3
    injection h3 with _ h5
    exact hne h5.symm
theorem Rdr.grown {B r g : Nat} {w w' : World} {v1 v2 v3 : Value} {s : Acc} {k : Int} {bs : List UInt8} {bad : Bool} (h : Rdr B r w v1 v2 v3 s k) (hc : Cur B g w bs bad) (hg : w.grownBy w' (some g)) (hne : r ≠ g) : Rdr B r w' v1 v2 v3 s k := by
  obtain ⟨u, hx, -⟩ := hc
  exact ⟨blk_grown h.blk hg hne, row_but h.acc.v hg hx (by decide), row_but h.acc.q hg hx (by decide), row_but h.acc.r hg hx (by decide)⟩
theorem Rdr.below {B r : Nat} {w w' : World} {v1 v2 v3 : Value} {s : Acc} {k : Int} (h : Rdr B r w v1 v2 v3 s k) (hb : Below w.heap.size w w') : Rdr B r w' v1 v2 v3 s k := ⟨blk_below h.blk hb, h.acc.below hb⟩
theorem Rdr.kind {B r : Nat} {w : World} {v1 v2 v3 : Value} {s : Acc} {k : Int} (h : Rdr B r w v1 v2 v3 s k) (k' : Int) : Rdr B r (w.setCell ⟨r, 3, none⟩ (.int .i64 k')) v1 v2 v3 s k' :=
  ⟨blk_set h.blk 3 (.int .i64 k'), row_set h.acc.v h.blk (by decide), row_set h.acc.q h.blk (by decide), row_set h.acc.r h.blk (by decide)⟩

def evC (c : Int) : Value := if c = 0 then .nilIface else errV c
/-- What a line's head says: its first field, how many fields, against the kind of the line before. -/
def headC (bs : List UInt8) (k : Int) : Int := if kI (hd 32 bs) = 3 then 3 else if kI (hd 32 bs) < k then 4 else if ((split 32 bs).length : Int) ≠ wI (hd 32 bs) then 5 else 0
theorem gr_below {B g : Nat} {w w' : World} (h : w.grownBy w' (some g)) (hB : B ≤ g) (hs : B ≤ w.heap.size) : Below B w w' := below_of_grown h hB hs

set_option maxHeartbeats 1600000 in
set_option maxRecDepth 1000000 in
theorem enterI (B r g : Nat) (bs : List UInt8) (w : World) (v1 v2 v3 : Value) (s : Acc) (k : Int) (hB : B ≤ g) (hBr : B ≤ r) (hBs : B ≤ w.heap.size) (hne : r ≠ g) (h : Cur B g w bs false) (hr : Rdr B r w v1 v2 v3 s k) (hl : bs.length ≤ 1000000) :
    Calls Tryz.prog 39 #[.pointer (some ⟨r, 0, none⟩), .pointer (some ⟨g, 0, none⟩)] w fun e w' => e = .returned (evC (headC bs k)) ∧ (headC bs k = 0 → Cur B g w' (tl 32 bs) false ∧ Rdr B r w' v1 v2 v3 s (kI (hd 32 bs))) ∧ Below B w w' := by
  obtain ⟨K, hK⟩ : ∃ K, K = kI (hd 32 bs) := ⟨_, rfl⟩
  obtain ⟨N, hN⟩ : ∃ N, N = wI (hd 32 bs) := ⟨_, rfl⟩
  obtain ⟨M, hM⟩ : ∃ M, M = (split 32 bs).length := ⟨_, rfl⟩
  have HCur := Hid.mk h
  have HRd := Hid.mk hr
  have HH : Hid (headC bs k = if K = 3 then 3 else if K < k then 4 else if (M : Int) ≠ N then 5 else 0) := by unfold Hid headC; rw [hK, hN, hM]
  have HK := Hid.mk hK
  have HN := Hid.mk hN
  have HM := Hid.mk hM
  clear h hr hK hN hM
  by_cases h1 : K = 3
  · have HV : Hid (headC bs k = 3) := by unfold Hid; rw [HH.out, if_pos h1]
    have t1 : (K == 3) = true := by simpa using h1
    have h1' := Hid.mk h1
    clear h1
    go_enter Tryz.func39, Tryz.ntmps39
    go_wp2_with (first
      | (go_at_call 52; refine (countFI B g bs false _ hB HCur.out hl).mono ?_; rintro e w1 ⟨rfl, b1⟩; rw [← HM.out]; have B1 := Hid.mk b1; have C1 := Hid.mk (HCur.out.keep hBs b1); have R1 := Hid.mk (HRd.out.below b1); clear b1)
      | (go_at_call 54; refine (fieldI B g bs false _ hB C1.out hl).mono ?_; rintro e w2 ⟨⟨v, rfl, t2⟩, c2, g2⟩; have C2 := Hid.mk c2; have R2 := Hid.mk (R1.out.grown C1.out g2 hne); have HB2 : Hid (Below B w w2) := (B1.out.mono hBs).trans (gr_below g2 hB (Nat.le_trans hBs B1.out.size)); obtain ⟨p2, c2', rfl, hc2, hp2, hr2⟩ := t2.rd; have Q2 := Hid.mk hr2; have x3 : w2.cell? ⟨r, 3, none⟩ = some (.int .i64 k) := (by rw [blk_cell R2.out.blk 3]; rfl); have f3 : w2.frozen? ⟨r, 3, none⟩ = false := blk_unfrozen R2.out.blk 3; clear t2 c2 g2 hp2 hr2 hc2)
      | (go_at_call 53; refine (kindWI _ (hd 32 bs) _ c2' _ rfl Q2.out).mono ?_; rintro e w3 ⟨rfl, rfl⟩; rw [← HK.out, ← HN.out]))
    go_ret
    rw [HV.out]
    exact ⟨rfl, fun h => by omega, HB2.out⟩
  · have t1 : (K == 3) = false := by simpa using h1
    by_cases h2 : K < k
    · have HV : Hid (headC bs k = 4) := by unfold Hid; rw [HH.out, if_neg h1, if_pos h2]
      go_enter Tryz.func39, Tryz.ntmps39
      go_wp2_with (first
        | (go_at_call 52; refine (countFI B g bs false _ hB HCur.out hl).mono ?_; rintro e w1 ⟨rfl, b1⟩; rw [← HM.out]; have B1 := Hid.mk b1; have C1 := Hid.mk (HCur.out.keep hBs b1); have R1 := Hid.mk (HRd.out.below b1); clear b1)
        | (go_at_call 54; refine (fieldI B g bs false _ hB C1.out hl).mono ?_; rintro e w2 ⟨⟨v, rfl, t2⟩, c2, g2⟩; have C2 := Hid.mk c2; have R2 := Hid.mk (R1.out.grown C1.out g2 hne); have HB2 : Hid (Below B w w2) := (B1.out.mono hBs).trans (gr_below g2 hB (Nat.le_trans hBs B1.out.size)); obtain ⟨p2, c2', rfl, hc2, hp2, hr2⟩ := t2.rd; have Q2 := Hid.mk hr2; have x3 : w2.cell? ⟨r, 3, none⟩ = some (.int .i64 k) := (by rw [blk_cell R2.out.blk 3]; rfl); have f3 : w2.frozen? ⟨r, 3, none⟩ = false := blk_unfrozen R2.out.blk 3; clear t2 c2 g2 hp2 hr2 hc2)
        | (go_at_call 53; refine (kindWI _ (hd 32 bs) _ c2' _ rfl Q2.out).mono ?_; rintro e w3 ⟨rfl, rfl⟩; rw [← HK.out, ← HN.out]))
      go_ret
      rw [HV.out]
      exact ⟨rfl, fun h => by omega, HB2.out⟩
    · have t2 : decide (K < k) = false := by simpa using h2
      by_cases h3 : (M : Int) = N
      · have HV : Hid (headC bs k = 0) := by unfold Hid; rw [HH.out, if_neg h1, if_neg h2, if_neg (by simpa using h3)]
        have t3 : ((M : Int) != N) = false := by simpa using h3
        have t4 : ((M : Int) == N) = true := by simpa using h3
        have h3' := Hid.mk h3
        clear h3
        go_enter Tryz.func39, Tryz.ntmps39
        go_wp2_with (first
          | (go_at_call 52; refine (countFI B g bs false _ hB HCur.out hl).mono ?_; rintro e w1 ⟨rfl, b1⟩; rw [← HM.out]; have B1 := Hid.mk b1; have C1 := Hid.mk (HCur.out.keep hBs b1); have R1 := Hid.mk (HRd.out.below b1); clear b1)
          | (go_at_call 54; refine (fieldI B g bs false _ hB C1.out hl).mono ?_; rintro e w2 ⟨⟨v, rfl, t2⟩, c2, g2⟩; have C2 := Hid.mk c2; have R2 := Hid.mk (R1.out.grown C1.out g2 hne); have HB2 : Hid (Below B w w2) := (B1.out.mono hBs).trans (gr_below g2 hB (Nat.le_trans hBs B1.out.size)); obtain ⟨p2, c2', rfl, hc2, hp2, hr2⟩ := t2.rd; have Q2 := Hid.mk hr2; have x3 : w2.cell? ⟨r, 3, none⟩ = some (.int .i64 k) := (by rw [blk_cell R2.out.blk 3]; rfl); have f3 : w2.frozen? ⟨r, 3, none⟩ = false := blk_unfrozen R2.out.blk 3; clear t2 c2 g2 hp2 hr2 hc2)
          | (go_at_call 53; refine (kindWI _ (hd 32 bs) _ c2' _ rfl Q2.out).mono ?_; rintro e w3 ⟨rfl, rfl⟩; rw [← HK.out, ← HN.out]))
        go_ret
        rw [HV.out]
        refine ⟨rfl, fun _ => ⟨?_, ?_⟩, HB2.out.setCell (p := ⟨r, 3, none⟩) hBr _⟩
        · exact C2.out.other hBr hne.symm
        · rw [← HK.out]
          exact R2.out.kind K
      · have HV : Hid (headC bs k = 5) := by unfold Hid; rw [HH.out, if_neg h1, if_neg h2, if_pos (by simpa using h3)]
        have t3 : ((M : Int) != N) = true := by simpa using h3
        have t4 : ((M : Int) == N) = false := by simpa using h3
        go_enter Tryz.func39, Tryz.ntmps39
        go_wp2_with (first
          | (go_at_call 52; refine (countFI B g bs false _ hB HCur.out hl).mono ?_; rintro e w1 ⟨rfl, b1⟩; rw [← HM.out]; have B1 := Hid.mk b1; have C1 := Hid.mk (HCur.out.keep hBs b1); have R1 := Hid.mk (HRd.out.below b1); clear b1)
          | (go_at_call 54; refine (fieldI B g bs false _ hB C1.out hl).mono ?_; rintro e w2 ⟨⟨v, rfl, t2⟩, c2, g2⟩; have C2 := Hid.mk c2; have R2 := Hid.mk (R1.out.grown C1.out g2 hne); have HB2 : Hid (Below B w w2) := (B1.out.mono hBs).trans (gr_below g2 hB (Nat.le_trans hBs B1.out.size)); obtain ⟨p2, c2', rfl, hc2, hp2, hr2⟩ := t2.rd; have Q2 := Hid.mk hr2; have x3 : w2.cell? ⟨r, 3, none⟩ = some (.int .i64 k) := (by rw [blk_cell R2.out.blk 3]; rfl); have f3 : w2.frozen? ⟨r, 3, none⟩ = false := blk_unfrozen R2.out.blk 3; clear t2 c2 g2 hp2 hr2 hc2)
          | (go_at_call 53; refine (kindWI _ (hd 32 bs) _ c2' _ rfl Q2.out).mono ?_; rintro e w3 ⟨rfl, rfl⟩; rw [← HK.out, ← HN.out]))
        go_ret
        rw [HV.out]
        exact ⟨rfl, fun h => by omega, HB2.out⟩
end Go.Proofs.YtefkdpppcjlflaaGreatDoor.Parse
