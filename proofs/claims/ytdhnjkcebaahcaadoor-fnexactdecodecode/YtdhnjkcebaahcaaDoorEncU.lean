import Derived.Test.YtdhnjkcebaahcaaDoorEncT
import Derived.Deep.DrawnRows
import Derived.Deep.RegionHeld
import Derived.Deep.CutRange
import Derived.Deep.Cut
import Derived.Deep.DeepCutAuto
namespace Go.Proofs.YtdhnjkcebaahcaaDoor.Enc
open Go Go.RowKit Go.Proofs.YtdhnjkcebaahcaaDoor.Mem Go.Proofs.YtdhnjkcebaahcaaDoor.ValC
set_option linter.unusedVariables false
set_option linter.unusedSimpArgs false
attribute [local go_sem ↓] Go.wp_at_zero Go.wp_at_succ

theorem row_kind {B n : Nat} {w : World} {v : Value} {e : TypeId} {s : Nat} {xs : List Value} (h : w.ownsRow B e s v n xs) : ∀ g, v.ownBlock = some g → ∃ c fz, w.heap[g]? = some (.cells c e fz) := by
  intro g hg
  rcases h.2 with ⟨rfl, _⟩ | ⟨g', cap, cur, rfl, _, hgg, _⟩
  · simp [Value.ownBlock] at hg
  · simp [Value.ownBlock] at hg
    subst hg
    exact ⟨cur, _, hgg⟩
theorem row_shape {B n : Nat} {w : World} {v : Value} {e : TypeId} {s : Nat} {xs : List Value} (h : w.ownsRow B e s v n xs) : ∃ a c, v = .slice a n c ∧ n ≤ c := by
  rcases h.2 with ⟨rfl, h0⟩ | ⟨g, cap, cur, rfl, _, _, hc, _⟩
  · exact ⟨none, 0, by rw [h0], by omega⟩
  · exact ⟨_, _, rfl, hc⟩
/-- A block of another type than the one that was grown. -/
theorem grown_other {w w' : World} {g : Nat} {C : Array Value} {t e : TypeId} {fr : Nat × Nat} {v : Value} {B n s : Nat} {xs : List Value} (hg : w.grownBy w' v.ownBlock) (hrow : w.ownsRow B e s v n xs) (hb : w.heap[g]? = some (.cells C t fr)) (hne : t ≠ e) : w'.heap[g]? = some (.cells C t fr) := by
  rw [hg.block g (blk_lt hb) ?_]
  · exact hb
  · intro e1
    obtain ⟨c, fz, h⟩ := row_kind hrow g e1.symm
    rw [hb] at h
    injection h with h
    injection h with _ h2
    exact hne h2
theorem row_grown {w w' : World} {B B' n n' s s' : Nat} {v u : Value} {t e : TypeId} {xs ys : List Value} (h : w.ownsRow B t s v n xs) (hg : w.grownBy w' u.ownBlock) (hrow : w.ownsRow B' e s' u n' ys) (hne : t ≠ e) : w'.ownsRow B t s v n xs := by
  refine ⟨h.1, ?_⟩
  rcases h.2 with h0 | ⟨g, cap, cur, h1, h2, h3, h4⟩
  · exact Or.inl h0
  · exact Or.inr ⟨g, cap, cur, h1, h2, grown_other hg hrow h3 hne, h4⟩
theorem row_below {w w' : World} {B n s : Nat} {v : Value} {t : TypeId} {xs : List Value} (h : w.ownsRow B t s v n xs) (hb : Below w.heap.size w w') : w'.ownsRow B t s v n xs := by
  refine ⟨h.1, ?_⟩
  rcases h.2 with h0 | ⟨g, cap, cur, h1, h2, h3, h4⟩
  · exact Or.inl h0
  · exact Or.inr ⟨g, cap, cur, h1, h2, blk_below h3 hb, h4⟩

theorem info64 : (Tryd.prog.info? 2).map (fun i => (i.zero, i.size, i.bytes)) = some (some (.int .i64 0), 1, 8) := by kernel_rfl
/-- A block as a list. -/
def lis (X : Nat → Is) (n : Nat) : List Is := (List.range n).map X
theorem lis_len (X : Nat → Is) (n : Nat) : (lis X n).length = n := by simp [lis]
theorem lis_succ (X : Nat → Is) (n : Nat) : lis X (n + 1) = lis X n ++ [X n] := by simp [lis, List.range_succ]
theorem bc_lis (X : Nat → Is) (n : Nat) : bc X n = (lis X n).flatMap Is.cells := by
  induction n with
  | zero => rfl
  | succ k ih => rw [bc, ih, lis_succ, List.flatMap_append]; simp
theorem blkN_lis (X : Nat → Is) (n : Nat) : blkN X n = (lis X n).flatMap insN := by
  induction n with
  | zero => rfl
  | succ k ih => rw [blkN, ih, lis_succ, List.flatMap_append]; simp
def lisC (C : Co) : List Is := lis C.B1 C.n1 ++ (lis C.B2 C.n2 ++ lis C.B3 C.n3)
theorem nums_lis (C : Co) : numsC C = headN C ++ (lisC C).flatMap insN := by
  rw [numsC, lisC, List.flatMap_append, List.flatMap_append, blkN_lis, blkN_lis, blkN_lis]
theorem lisC_len (C : Co) : (lisC C).length = C.n1 + C.n2 + C.n3 := by rw [lisC, List.length_append, List.length_append, lis_len, lis_len, lis_len]; omega
theorem cells_at (L : List Is) : ∀ (k : Nat) (h : k < L.length) (j : Nat), j < 4 → (L.flatMap Is.cells)[k * 4 + j]? = L[k].cells[j]? := by
  induction L with
  | nil => intro k h; simp at h
  | cons x r ih =>
    intro k h j hj
    rw [List.flatMap_cons]
    cases k with
    | zero =>
      rw [List.getElem?_append_left (by rw [Is.len]; omega)]
      simp
    | succ m =>
      rw [List.getElem?_append_right (by rw [Is.len]; omega), Is.len]
      rw [show (m + 1) * 4 + j - 4 = m * 4 + j by omega]
      exact ih m (by simpa using h) j hj
theorem insN_at (L : List Is) (k : Nat) (h : k < L.length) : (L.take (k + 1)).flatMap insN = (L.take k).flatMap insN ++ insN L[k] := by
  rw [List.take_add_one, List.getElem?_eq_getElem h, List.flatMap_append]; simp
theorem insN_len (L : List Is) : (L.flatMap insN).length = 4 * L.length := by
  induction L with
  | nil => rfl
  | cons x r ih => rw [List.flatMap_cons, List.length_append, ih]; simp [insN]; omega
def ints (zs : List Int) : List Value := zs.map (Value.int .i64)
theorem ints_app (a b : List Int) : ints (a ++ b) = ints a ++ ints b := by simp [ints]
theorem row_cells {w : World} {B s n c g : Nat} {t : TypeId} {xs : List Value} (h : w.ownsRow B t s (.slice (some ⟨g, 0, none⟩) n c) n xs) (j : Nat) (u : Value) (hu : xs[j]? = some u) : w.cell? ⟨g, j, none⟩ = some u := by
  have hj : j < n * s := by rw [← h.1]; exact (List.getElem?_eq_some_iff.1 hu).1
  rw [h.cellAt j hj]; exact hu
theorem row_is {w : World} {B n c g : Nat} {L : List Is} (h : w.ownsRow B 90 4 (.slice (some ⟨g, 0, none⟩) n c) n (L.flatMap Is.cells)) {k : Nat} (hk : k < L.length) :
    w.cell? ⟨g, k * 4, none⟩ = some (.int .i64 L[k].p) ∧ w.cell? ⟨g, k * 4 + 1, none⟩ = some (.int .i64 L[k].a) ∧ w.cell? ⟨g, k * 4 + 2, none⟩ = some (.int .i64 L[k].b) ∧ w.cell? ⟨g, k * 4 + 3, none⟩ = some (.int .i64 L[k].c) :=
  ⟨row_cells h _ _ (cells_at L k hk 0 (by omega)), row_cells h _ _ (cells_at L k hk 1 (by omega)), row_cells h _ _ (cells_at L k hk 2 (by omega)), row_cells h _ _ (cells_at L k hk 3 (by omega))⟩
theorem cat3 (C : Co) : cat (fun i => if i = 0 then C.n1 else if i = 1 then C.n2 else C.n3) (fun i => if i = 0 then C.B1 else if i = 1 then C.B2 else C.B3) 3 = (lisC C).flatMap Is.cells := by
  simp only [cat, bc_lis, lisC, List.flatMap_append, List.nil_append]
  simp
theorem tot3 (C : Co) : tot (fun i => if i = 0 then C.n1 else if i = 1 then C.n2 else C.n3) 3 = C.n1 + C.n2 + C.n3 := by simp [tot]
theorem small_nums {C : Co} (h : GoodC C) : ∀ z ∈ numsC C, -1000000000 ≤ z ∧ z ≤ 1000000000 := fun z hz => by
  rw [numsC, List.mem_append, List.mem_append, List.mem_append] at hz
  rcases hz with hz | hz | hz | hz
  · exact head_small h z hz
  · exact blk_small h.b1 (Nat.le_refl _) z hz
  · exact blk_small h.b2 (Nat.le_refl _) z hz
  · exact blk_small h.b3 (Nat.le_refl _) z hz
theorem nums_len {C : Co} : (numsC C).length = 5 + 4 * (C.n1 + C.n2 + C.n3) := by
  rw [nums_lis, List.length_append, insN_len, lisC_len]; rfl
theorem take_len' {zs : List Int} (h : ∀ z ∈ zs, -1000000000 ≤ z ∧ z ≤ 1000000000) (k : Nat) (hk : k ≤ zs.length) : (vrs (zs.take k)).length ≤ 5 * k := by
  have := vrs_len (l := zs.take k) (fun z hz => h z (List.mem_of_mem_take hz))
  rw [List.length_take] at this; omega
theorem take_step' (zs : List Int) (k : Nat) (h : k < zs.length) : vrs (zs.take (k + 1)) = vrs (zs.take k) ++ vr zs[k] := by
  rw [List.take_add_one, vrs_app, List.getElem?_eq_getElem h]; simp [vrs]
theorem vr_pos (n : Int) : 0 < (vr n).length := grp_pos _

set_option maxHeartbeats 6400000 in
set_option maxRecDepth 100000 in
theorem encodeS (b1 b2 b3 : Nat) (c1 c2 c3 : Nat) (C : Co) (w : World) (h : CoAt w (some ⟨b1, 0, none⟩) (some ⟨b2, 0, none⟩) (some ⟨b3, 0, none⟩) C) (h1 : C.n1 ≤ 1048576) (h2 : C.n2 ≤ 1048576) (h3 : C.n3 ≤ 1048576) :
    Calls Tryd.prog 21 #[.agg #[.int .i64 C.R, .int .i64 C.S, .slice (some ⟨b1, 0, none⟩) C.n1 c1, .slice (some ⟨b2, 0, none⟩) C.n2 c2, .slice (some ⟨b3, 0, none⟩) C.n3 c3]] w fun e w' => ∃ v, e = .returned v ∧ Own w.heap.size w' v (answer C) ∧ Below w.heap.size w w' := by
  obtain ⟨i0, hi, hz0, hz1, hz2⟩ := info_parts infoB
  obtain ⟨j0, hj, hy0, hy1, hy2⟩ := info_parts info64
  have H := Hid.mk h
  clear h
  have HK : Hid (Below w.heap.size w (w.alloc (.cells #[.int .i64 C.R, .int .i64 C.S, .slice (some ⟨b1, 0, none⟩) C.n1 c1, .slice (some ⟨b2, 0, none⟩) C.n2 c2, .slice (some ⟨b3, 0, none⟩) C.n3 c3] 48))) := by unfold Hid; go_grown
  go_enter Tryd.func21, Tryd.ntmps21
  go_wp2_with fail
  refine (ValCS.validS (some ⟨b1, 0, none⟩) (some ⟨b2, 0, none⟩) (some ⟨b3, 0, none⟩) c1 c2 c3 C _ (H.out.below HK.out) h1 h2 h3).mono ?_
  rintro e w1 ⟨rfl, hb1⟩
  have HB1 := Hid.mk (below_then HK.out hb1)
  have A1 := Hid.mk (blk_below (blk_new w (.cells #[.int .i64 C.R, .int .i64 C.S, .slice (some ⟨b1, 0, none⟩) C.n1 c1, .slice (some ⟨b2, 0, none⟩) C.n2 c2, .slice (some ⟨b3, 0, none⟩) C.n3 c3] 48)) hb1)
  clear hb1 HK
  cases hok : okCo C with
  | false =>
    have ha : Hid (answer C = []) := by unfold Hid answer; rw [hok]; rfl
    go_wp2
    go_ret
    exact ⟨_, rfl, by rw [ha.out]; exact Joins.ownsRow_le (own_empty w1 _ rfl) HB1.out.size, below_alloc' HB1.out _⟩
  | true =>
    have ha : Hid (answer C = vrs (numsC C)) := by unfold Hid answer; rw [if_pos hok]; rfl
    have HG := Hid.mk (good_co hok)
    obtain ⟨L, hL⟩ : ∃ L, L = lisC C := ⟨_, rfl⟩
    have hLl : Hid (L.length = C.n1 + C.n2 + C.n3) := by unfold Hid; rw [hL]; exact lisC_len C
    have hLn : L.length ≤ 49152 := by rw [hLl.out]; have := HG.out.b1.len; have := HG.out.b2.len; have := HG.out.b3.len; omega
    have HLN : Hid (numsC C = headN C ++ L.flatMap insN) := by unfold Hid; rw [hL]; exact nums_lis C
    have HLC : Hid ((lisC C).flatMap Is.cells = L.flatMap Is.cells) := by unfold Hid; rw [hL]
    clear hL
    have x0 := blk_cell A1.out 0
    have x1 := blk_cell A1.out 1
    have x2 := blk_cell A1.out 2
    have x3 := blk_cell A1.out 3
    have x4 := blk_cell A1.out 4
    simp only [List.getElem?_toArray, List.getElem?_cons_zero, List.getElem?_cons_succ] at x0 x1 x2 x3 x4
    have zz := blk_lt A1.out
    go_wp2_with fail
    clear x0 x1 x2 x3 x4
    obtain ⟨W, hW⟩ : ∃ W, W = (w1.alloc (.cells #[.int .i64 C.R, .int .i64 C.S, .int .i64 (C.n1 : Int), .int .i64 (C.n2 : Int), .int .i64 (C.n3 : Int)] 2)).alloc (.cells #[.slice (some ⟨b1, 0, none⟩) C.n1 c1, .slice (some ⟨b2, 0, none⟩) C.n2 c2, .slice (some ⟨b3, 0, none⟩) C.n3 c3] 46) := ⟨_, rfl⟩
    have HBW : Hid (Below w.heap.size w W) := by rw [hW]; exact below_alloc' (below_alloc' HB1.out _) _
    have hP : W.heap[w1.heap.size + 1]? = some (.cells #[.slice (some ⟨b1, 0, none⟩) C.n1 c1, .slice (some ⟨b2, 0, none⟩) C.n2 c2, .slice (some ⟨b3, 0, none⟩) C.n3 c3] 46) := by rw [hW]; exact blk_new1 _ _ _
    have hN0 : Hid (W.ownsRow w.heap.size 2 1 (.slice (some ⟨w1.heap.size, 0, none⟩) 5 5) 5 (ints (headN C))) := by
      rw [hW]; exact (World.ownsRow_lit (base := w.heap.size) (e := 2) (size := 1) w1 _ 5 HB1.out.size (by unfold maxLen; omega) rfl).alloc _
    rw [← hW]
    clear hW
    refine (seqS (w1.heap.size + 1) 3 3 (fun i => if i = 0 then C.n1 else if i = 1 then C.n2 else C.n3) (fun i => if i = 0 then C.B1 else if i = 1 then C.B2 else C.B3) (fun i => if i = 0 then ⟨b1, 0, none⟩ else if i = 1 then ⟨b2, 0, none⟩ else ⟨b3, 0, none⟩) (fun i => if i = 0 then c1 else if i = 1 then c2 else c3) W (by omega) ?c ?s ?n).mono ?_
    case c =>
      intro i hi
      rw [blk_cell hP i]
      match i, hi with
      | 0, _ => rfl
      | 1, _ => rfl
      | 2, _ => rfl
    case s =>
      intro i hi
      match i, hi with
      | 0, _ => exact H.out.b1.below HBW.out
      | 1, _ => exact H.out.b2.below HBW.out
      | 2, _ => exact H.out.b3.below HBW.out
    case n =>
      intro i hi
      match i, hi with
      | 0, _ => exact HG.out.b1.len
      | 1, _ => exact HG.out.b2.len
      | 2, _ => exact HG.out.b3.len
    rintro e w3 ⟨va, rfl, hoa, hb3⟩
    rw [cat3, tot3, HLC.out, ← hLl.out] at hoa
    have HA := Hid.mk (Joins.ownsRow_le hoa HBW.out.size)
    have HN := Hid.mk (ownsRow_below hN0.out hb3)
    have HB3 := Hid.mk (below_then HBW.out hb3)
    clear hoa hb3 hP hN0 HBW HB1 A1 zz
    obtain ⟨aa, ca, hva⟩ := row_shape' HA.out
    rw [hva] at HA ⊢
    clear hva
    go_wp2_with fail
    go_loopw [3, 5] (fun v i wr => ∃ k : Nat, k ≤ L.length ∧ i = .int .i64 k ∧ Hid (wr.ownsRow w.heap.size 2 1 v (5 + 4 * k) (ints (headN C ++ (L.take k).flatMap insN))) ∧ Hid (wr.ownsRow w.heap.size 90 4 (.slice aa L.length ca) L.length (L.flatMap Is.cells)) ∧ Hid (Below w.heap.size w wr)) (fun _ i _ => L.length - (intOf i).toNat)
    case atStart => exact ⟨0, Nat.zero_le _, rfl, by unfold Hid; rw [List.take_zero, List.flatMap_nil, List.append_nil]; exact HN.out, HA, HB3⟩
    case round =>
      clear HN HA HB3
      obtain ⟨k, hk, rfl, ho, hal, hb⟩ := hrel
      have hsz := hb.out.size
      obtain ⟨an, cn, hv⟩ := row_shape' ho.out
      rw [hv] at ho ⊢
      clear hv
      by_cases hlt : k < L.length
      · obtain ⟨ga, cap', hva⟩ := Joins.ownsRow_form hal.out (by omega)
        injection hva with hva _ hcc
        subst hva
        subst hcc
        obtain ⟨e0, e1, e2, e3⟩ := row_is hal.out hlt
        have hst := Hid.mk (insN_at L k hlt)
        obtain ⟨x, hx⟩ : ∃ x, x = L[k]'hlt := ⟨_, rfl⟩
        have hx0 : Hid (L[k]'hlt = x) := hx.symm
        have hlt0 := Hid.mk hlt
        rw [← hx] at e0 e1 e2 e3 hst
        clear hx
        have k0 : (0 : Int) ≤ (k : Int) := by omega
        have k1 : (k : Int) < (L.length : Int) := by omega
        go_upto_region 8 with fail
        refine wp_region_held_drew (S := (fun w' => w'.cell? ⟨ga, k * 4, none⟩ = some (.int .i64 x.p) ∧ w'.cell? ⟨ga, k * 4 + 1, none⟩ = some (.int .i64 x.a) ∧ w'.cell? ⟨ga, k * 4 + 2, none⟩ = some (.int .i64 x.b) ∧ w'.cell? ⟨ga, k * 4 + 3, none⟩ = some (.int .i64 x.c))) (by kernel_rfl) ?_ (fun hHeld => ?_)
        · go_keep
        refine wpAnyH_take (i := 0) (v := ?_) rfl (by kernel_rfl) (by kernel_rfl) (by kernel_rfl) (fun _ _ _ h => h) (Or.inl ⟨by rfl, ?_⟩) (by assumption) ?_
        rotate_left
        · intro w hSw; (try dsimp only at hSw); go_simp; (try with_reducible rfl)
        rotate_left
        simp only [Act.put, List.setIfInBounds_toArray, List.set_cons_zero, List.set_cons_succ, List.getElem_toArray, List.getElem_cons_zero, List.getElem_cons_succ]
        refine wpAnyH_take (i := 1) (v := ?_) rfl (by kernel_rfl) (by kernel_rfl) (by kernel_rfl) (fun _ _ _ h => h) (Or.inl ⟨by rfl, ?_⟩) (by assumption) ?_
        rotate_left
        · intro w hSw; (try dsimp only at hSw); go_simp; (try with_reducible rfl)
        rotate_left
        simp only [Act.put, List.setIfInBounds_toArray, List.set_cons_zero, List.set_cons_succ, List.getElem_toArray, List.getElem_cons_zero, List.getElem_cons_succ]
        refine wpAnyH_take (i := 2) (v := ?_) rfl (by kernel_rfl) (by kernel_rfl) (by kernel_rfl) (fun _ _ _ h => h) (Or.inl ⟨by rfl, ?_⟩) (by assumption) ?_
        rotate_left
        · intro w hSw; (try dsimp only at hSw); go_simp; (try with_reducible rfl)
        rotate_left
        simp only [Act.put, List.setIfInBounds_toArray, List.set_cons_zero, List.set_cons_succ, List.getElem_toArray, List.getElem_cons_zero, List.getElem_cons_succ]
        refine wpAnyH_take (i := 3) (v := ?_) rfl (by kernel_rfl) (by kernel_rfl) (by kernel_rfl) (fun _ _ _ h => h) (Or.inl ⟨by rfl, ?_⟩) (by assumption) ?_
        rotate_left
        · intro w hSw; (try dsimp only at hSw); go_simp; (try with_reducible rfl)
        rotate_left
        simp only [Act.put, List.setIfInBounds_toArray, List.set_cons_zero, List.set_cons_succ, List.getElem_toArray, List.getElem_cons_zero, List.getElem_cons_succ]
        refine wpAnyH_take (i := 4) (v := ?_) rfl (by kernel_rfl) (by kernel_rfl) (by kernel_rfl) (fun _ _ _ h => h) (Or.inl ⟨by rfl, ?_⟩) (by assumption) ?_
        rotate_left
        · intro w hSw; (try dsimp only at hSw); go_simp; (try with_reducible rfl)
        rotate_left
        simp only [Act.put, List.setIfInBounds_toArray, List.set_cons_zero, List.set_cons_succ, List.getElem_toArray, List.getElem_cons_zero, List.getElem_cons_succ]
        refine wpAnyH_take (i := 5) (v := ?_) rfl (by kernel_rfl) (by kernel_rfl) (by kernel_rfl) (fun _ _ _ h => h) (Or.inl ⟨by rfl, ?_⟩) (by assumption) ?_
        rotate_left
        · intro w hSw; (try dsimp only at hSw); go_simp; (try with_reducible rfl)
        rotate_left
        simp only [Act.put, List.setIfInBounds_toArray, List.set_cons_zero, List.set_cons_succ, List.getElem_toArray, List.getElem_cons_zero, List.getElem_cons_succ]
        refine wpAnyH_take (i := 6) (v := ?_) rfl (by kernel_rfl) (by kernel_rfl) (by kernel_rfl) (fun _ _ _ h => h) (Or.inl ⟨by rfl, ?_⟩) (by assumption) ?_
        rotate_left
        · intro w hSw; (try dsimp only at hSw); go_simp; (try with_reducible rfl)
        rotate_left
        simp only [Act.put, List.setIfInBounds_toArray, List.set_cons_zero, List.set_cons_succ, List.getElem_toArray, List.getElem_cons_zero, List.getElem_cons_succ]
        refine wpAnyH_take (i := 7) (v := ?_) rfl (by kernel_rfl) (by kernel_rfl) (by kernel_rfl) (fun _ _ _ h => h) (Or.inl ⟨by rfl, ?_⟩) (by assumption) ?_
        rotate_left
        · intro w hSw; (try dsimp only at hSw); go_simp; (try with_reducible rfl)
        rotate_left
        simp only [Act.put, List.setIfInBounds_toArray, List.set_cons_zero, List.set_cons_succ, List.getElem_toArray, List.getElem_cons_zero, List.getElem_cons_succ]
        refine wpAnyH_take (i := 8) (v := ?_) rfl (by kernel_rfl) (by kernel_rfl) (by kernel_rfl) (fun _ _ _ h => h) (Or.inl ⟨by rfl, ?_⟩) (by assumption) ?_
        rotate_left
        · intro w hSw; (try dsimp only at hSw); go_simp; (try with_reducible rfl)
        rotate_left
        simp only [Act.put, List.setIfInBounds_toArray, List.set_cons_zero, List.set_cons_succ, List.getElem_toArray, List.getElem_cons_zero, List.getElem_cons_succ]
        refine wpAnyH_take (i := 9) (v := ?_) rfl (by kernel_rfl) (by kernel_rfl) (by kernel_rfl) (fun _ _ _ h => h) (Or.inl ⟨by rfl, ?_⟩) (by assumption) ?_
        rotate_left
        · intro w hSw; (try dsimp only at hSw); go_simp; (try with_reducible rfl)
        rotate_left
        simp only [Act.put, List.setIfInBounds_toArray, List.set_cons_zero, List.set_cons_succ, List.getElem_toArray, List.getElem_cons_zero, List.getElem_cons_succ]
        refine wpAnyH_take (i := 10) (v := ?_) rfl (by kernel_rfl) (by kernel_rfl) (by kernel_rfl) (fun _ _ _ h => h) (Or.inl ⟨by rfl, ?_⟩) (by assumption) ?_
        rotate_left
        · intro w hSw; (try dsimp only at hSw); go_simp; (try with_reducible rfl)
        rotate_left
        simp only [Act.put, List.setIfInBounds_toArray, List.set_cons_zero, List.set_cons_succ, List.getElem_toArray, List.getElem_cons_zero, List.getElem_cons_succ]
        refine wpAnyH_take (i := 11) (v := ?_) rfl (by kernel_rfl) (by kernel_rfl) (by kernel_rfl) (fun _ _ _ h => h) (Or.inl ⟨by rfl, ?_⟩) (by assumption) ?_
        rotate_left
        · intro w hSw; (try dsimp only at hSw); go_simp; (try with_reducible rfl)
        rotate_left
        simp only [Act.put, List.setIfInBounds_toArray, List.set_cons_zero, List.set_cons_succ, List.getElem_toArray, List.getElem_cons_zero, List.getElem_cons_succ]
        refine wpAnyH_take (i := 12) (v := ?_) rfl (by kernel_rfl) (by kernel_rfl) (by kernel_rfl) (fun _ _ _ h => h) (Or.inl ⟨by rfl, ?_⟩) (by assumption) ?_
        rotate_left
        · intro w hSw; (try dsimp only at hSw); go_simp; (try with_reducible rfl)
        rotate_left
        simp only [Act.put, List.setIfInBounds_toArray, List.set_cons_zero, List.set_cons_succ, List.getElem_toArray, List.getElem_cons_zero, List.getElem_cons_succ]
        refine wpAnyH_take (i := 13) (v := ?_) rfl (by kernel_rfl) (by kernel_rfl) (by kernel_rfl) (fun _ _ _ h => h) (Or.inl ⟨by rfl, ?_⟩) (by assumption) ?_
        rotate_left
        · intro w hSw; (try dsimp only at hSw); go_simp; (try with_reducible rfl)
        rotate_left
        simp only [Act.put, List.setIfInBounds_toArray, List.set_cons_zero, List.set_cons_succ, List.getElem_toArray, List.getElem_cons_zero, List.getElem_cons_succ]
        refine wpAnyH_take (i := 14) (v := ?_) rfl (by kernel_rfl) (by kernel_rfl) (by kernel_rfl) (fun _ _ _ h => h) (Or.inl ⟨by rfl, ?_⟩) (by assumption) ?_
        rotate_left
        · intro w hSw; (try dsimp only at hSw); go_simp; (try with_reducible rfl)
        rotate_left
        simp only [Act.put, List.setIfInBounds_toArray, List.set_cons_zero, List.set_cons_succ, List.getElem_toArray, List.getElem_cons_zero, List.getElem_cons_succ]
        refine wpAnyH_take (i := 15) (v := ?_) rfl (by kernel_rfl) (by kernel_rfl) (by kernel_rfl) (fun _ _ _ h => h) (Or.inl ⟨by rfl, ?_⟩) (by assumption) ?_
        rotate_left
        · intro w hSw; (try dsimp only at hSw); go_simp; (try with_reducible rfl)
        rotate_left
        simp only [Act.put, List.setIfInBounds_toArray, List.set_cons_zero, List.set_cons_succ, List.getElem_toArray, List.getElem_cons_zero, List.getElem_cons_succ]
        refine wpAnyH_take (i := 16) (v := ?_) rfl (by kernel_rfl) (by kernel_rfl) (by kernel_rfl) (fun _ _ _ h => h) (Or.inl ⟨by rfl, ?_⟩) (by assumption) ?_
        rotate_left
        · intro w hSw; (try dsimp only at hSw); go_simp; (try with_reducible rfl)
        rotate_left
        simp only [Act.put, List.setIfInBounds_toArray, List.set_cons_zero, List.set_cons_succ, List.getElem_toArray, List.getElem_cons_zero, List.getElem_cons_succ]
        refine wpAnyH_take (i := 17) (v := ?_) rfl (by kernel_rfl) (by kernel_rfl) (by kernel_rfl) (fun _ _ _ h => h) (Or.inl ⟨by rfl, ?_⟩) (by assumption) ?_
        rotate_left
        · intro w hSw; (try dsimp only at hSw); go_simp; (try with_reducible rfl)
        rotate_left
        simp only [Act.put, List.setIfInBounds_toArray, List.set_cons_zero, List.set_cons_succ, List.getElem_toArray, List.getElem_cons_zero, List.getElem_cons_succ]
        refine wpAnyH_take (i := 18) (v := ?_) rfl (by kernel_rfl) (by kernel_rfl) (by kernel_rfl) (fun _ _ _ h => h) (Or.inl ⟨by rfl, ?_⟩) (by assumption) ?_
        rotate_left
        · intro w hSw; (try dsimp only at hSw); go_simp; (try with_reducible rfl)
        rotate_left
        simp only [Act.put, List.setIfInBounds_toArray, List.set_cons_zero, List.set_cons_succ, List.getElem_toArray, List.getElem_cons_zero, List.getElem_cons_succ]
        refine wpAnyH_take (i := 19) (v := ?_) rfl (by kernel_rfl) (by kernel_rfl) (by kernel_rfl) (fun _ _ _ h => h) (Or.inl ⟨by rfl, ?_⟩) (by assumption) ?_
        rotate_left
        · intro w hSw; (try dsimp only at hSw); go_simp; (try with_reducible rfl)
        rotate_left
        simp only [Act.put, List.setIfInBounds_toArray, List.set_cons_zero, List.set_cons_succ, List.getElem_toArray, List.getElem_cons_zero, List.getElem_cons_succ]
        refine wpAnyH_take (i := 20) (v := ?_) rfl (by kernel_rfl) (by kernel_rfl) (by kernel_rfl) (fun _ _ _ h => h) (Or.inl ⟨by rfl, ?_⟩) (by assumption) ?_
        rotate_left
        · intro w hSw; (try dsimp only at hSw); go_simp; (try with_reducible rfl)
        rotate_left
        simp only [Act.put, List.setIfInBounds_toArray, List.set_cons_zero, List.set_cons_succ, List.getElem_toArray, List.getElem_cons_zero, List.getElem_cons_succ]
        refine wpAnyH_ready (rs := [21]) (by kernel_rfl) (by simp) ?_
        refine AllReadyH.cons rfl (fun K hK => ?_) ?_
        · go_simp
          refine hK.out _ _ ?_ (fun hHeld => ?_)
          · go_keep
          clear hK K
          (try simp only [Act.put, List.setIfInBounds_toArray, List.set_cons_zero, List.set_cons_succ, List.getElem_toArray, List.getElem_cons_zero, List.getElem_cons_succ])
          refine wpAnyH_ready (rs := [22]) (by kernel_rfl) (by simp) ?_
          refine AllReadyH.cons rfl (fun K hK => ?_) ?_
          · rw [if_pos (by rfl)]
            refine wp_append_own _ _ _ 86 rfl w.heap.size 2 j0 (.int .i64 0) 1 8 Tryd.underlying86 hj hy0 hy1 hy2 rfl (by decide) _ _ _ rfl (ho.out.alloc _) ⟨wr.heap.size, 0, none⟩ 4 4 (ints (insN x)) rfl rfl (cells_of_blk (blk_new _ _)) (by intro u hu; simp only [ints, insN, List.map_cons, List.map_nil, List.mem_cons, List.not_mem_nil, or_false] at hu; rcases hu with rfl | rfl | rfl | rfl <;> rfl) (by unfold maxLen; omega) (by omega) (by simp; omega) ?_
            intro v4 w4 hown4 hgrow4 _
            have hgr : (wr.alloc (.cells (ints (insN x)).toArray 2)).grownBy w4 (Value.slice an (5 + 4 * k) cn).ownBlock := ⟨hgrow4.os, hgrow4.tape, hgrow4.output, hgrow4.size, hgrow4.block⟩
            have HO5 : Hid (w4.ownsRow w.heap.size 2 1 v4 (5 + 4 * (k + 1)) (ints (headN C ++ (L.take (k + 1)).flatMap insN))) := by unfold Hid; rw [hst.out, ← List.append_assoc, ints_app, show 5 + 4 * (k + 1) = 5 + 4 * k + 4 by omega]; exact hown4
            have HA5 : Hid (w4.ownsRow w.heap.size 90 4 (.slice (some ⟨ga, 0, none⟩) L.length ca) L.length (L.flatMap Is.cells)) := row_grown (hal.out.alloc _) hgr (ho.out.alloc _) (by decide)
            have HB5 : Hid (Below w.heap.size w w4) := (below_alloc' hb.out _).grown hgr (by simp; omega) (fun j hj => (ho.out.lt j hj).1)
            obtain ⟨f0, f1, f2, f3⟩ := row_is HA5.out hlt0.out
            rw [hx0.out] at f0 f1 f2 f3
            clear hown4 hgrow4 hgr
            refine hK.out _ _ ?_ (fun hHeld => ?_)
            · exact ⟨f0, f1, f2, f3⟩
            clear hK K
            (try simp only [Act.put, List.setIfInBounds_toArray, List.set_cons_zero, List.set_cons_succ, List.getElem_toArray, List.getElem_cons_zero, List.getElem_cons_succ])
            refine wpAnyH_ready (rs := [23]) (by kernel_rfl) (by simp) ?_
            refine AllReadyH.cons rfl (fun K hK => ?_) ?_
            · go_simp
              refine hK.out _ _ ?_ (fun hHeld => ?_)
              · exact ⟨f0, f1, f2, f3⟩
              clear hK K
              (try simp only [Act.put, List.setIfInBounds_toArray, List.set_cons_zero, List.set_cons_succ, List.getElem_toArray, List.getElem_cons_zero, List.getElem_cons_succ])
              refine wpAnyH_done (by kernel_rfl) ?_ _
              go_wp2
              refine ⟨⟨k + 1, by omega, by first | go_num | omega, HO5, ?_⟩, by simp [intOf]; omega⟩
              first | exact HA5 | exact ⟨HA5, HB5⟩
            exact AllReadyH.nil
          exact AllReadyH.nil
        exact AllReadyH.nil
      · obtain rfl : L.length = k := by omega
        obtain ⟨zs, hzs⟩ : ∃ zs, zs = numsC C := ⟨_, rfl⟩
        obtain ⟨N, hN⟩ : ∃ N, N = 5 + 4 * L.length := ⟨_, rfl⟩
        have hNz : Hid (zs.length = N) := by unfold Hid; rw [hzs, hN, nums_len, hLl.out]
        have hR : Hid (wr.ownsRow w.heap.size 2 1 (.slice an N cn) N (ints zs)) := by
          have := ho.out
          rw [List.take_length, ← HLN.out, ← hzs, ← hN] at this
          exact this
        have HSM : Hid (∀ z ∈ zs, -1000000000 ≤ z ∧ z ≤ 1000000000) := by rw [hzs]; exact small_nums HG.out
        have ha2 : Hid (answer C = vrs zs) := by rw [hzs]; exact ha
        have hN1 : N ≤ 200000 := by omega
        have k2 : ¬ ((L.length : Int) < (L.length : Int)) := by omega
        rw [← hN]
        clear ho hal ha hzs hN hk hlt HLN HLC hLl
        go_wp2_with fail
        clear k2
        go_loopw [6, 7] (fun v i wr => ∃ k : Nat, k ≤ N ∧ i = .int .i64 k ∧ Hid (Own w.heap.size wr v (vrs (zs.take k))) ∧ Hid (wr.ownsRow w.heap.size 2 1 (.slice an N cn) N (ints zs)) ∧ Hid (Below w.heap.size w wr)) (fun _ i _ => N - (intOf i).toNat)
        case atStart => exact ⟨0, Nat.zero_le _, rfl, Joins.ownsRow_le (own_empty wr _ rfl) hsz, hR.out.alloc _, below_alloc' hb.out _⟩
        case round =>
          clear hR hb hsz
          obtain ⟨k, hk, rfl, ho, hr, hb⟩ := hrel
          have hsz := hb.out.size
          have htl := take_len' HSM.out k (by rw [hNz.out]; exact hk)
          by_cases hlt : k < N
          · obtain ⟨gn, cap', hva⟩ := Joins.ownsRow_form hr.out (by omega)
            injection hva with hva _ hcc
            subst hva
            subst hcc
            have hkl : k < zs.length := by rw [hNz.out]; exact hlt
            have e0 : wr.cell? ⟨gn, k, none⟩ = some (.int .i64 (zs[k]'hkl)) := row_cells hr.out k _ (by simp [ints, hkl])
            have hzb := HSM.out _ (List.getElem_mem hkl)
            have hst := Hid.mk (take_step' zs k hkl)
            obtain ⟨x, hx⟩ : ∃ x, x = zs[k]'hkl := ⟨_, rfl⟩
            rw [← hx] at e0 hzb hst
            clear hx
            have k0 : (0 : Int) ≤ (k : Int) := by omega
            have k1 : (k : Int) < (N : Int) := by omega
            obtain ⟨bb, hbb⟩ : ∃ l, l = vrs (zs.take k) := ⟨_, rfl⟩
            rw [← hbb] at ho hst htl
            clear hbb
            obtain ⟨ab, cb, hv⟩ := Own.shape ho.out
            rw [hv] at ho ⊢
            clear hv
            go_wp2_with fail
            refine (varS x _ hzb.1 hzb.2).mono ?_
            rintro e w5 ⟨v5, rfl, ho5, hb5⟩
            obtain ⟨g5, c5, rfl, -, hcl⟩ := Own.form ho5 (vr_pos x)
            have HC := Hid.mk hcl
            have hvl := vr_len hzb.1 hzb.2
            have O5 := Hid.mk (ho.out.below hb5)
            have R5 := Hid.mk (row_below hr.out hb5)
            have B5 := Hid.mk (below_then hb.out hb5)
            have hsz5 := B5.out.size
            clear ho5 hb5 hcl ho hr hb e0
            obtain ⟨vv, hvv⟩ : ∃ l, l = vr x := ⟨_, rfl⟩
            rw [← hvv] at HC hvl hst ⊢
            clear hvv
            go_wp2_with (at_builtin; refine wpList_append_own _ rfl _ _ 28 rfl w.heap.size 5 i0 (.int .u8 0) 1 1 Tryd.underlying28 hi hz0 hz1 hz2 rfl (by decide) _ _ _ rfl O5.out ⟨g5, 0, none⟩ vv.length c5 (Lib.byteCells vv) rfl (by rw [Lib.byteCells_length]; omega) HC.out (byteCells_one vv) (by unfold maxLen; omega) (by omega) hsz5 ?_)
            intro v6 w6 hown6 hgrow6 _
            have O6 : Hid (Own w.heap.size w6 v6 (vrs (zs.take (k + 1)))) := by unfold Hid; rw [hst.out]; exact own_app' (bs := bb) (cs := vv) rfl rfl hown6
            have R6 : Hid (w6.ownsRow w.heap.size 2 1 (.slice (some ⟨gn, 0, none⟩) N cn) N (ints zs)) := row_grown R5.out hgrow6 O5.out (by decide)
            have B6 : Hid (Below w.heap.size w w6) := B5.out.grown hgrow6 hsz5 (fun j hj => (O5.out.lt j hj).1)
            clear hown6 hgrow6 O5 R5 B5
            refine Hid.out ?_
            refine Lib.hid ?_
            go_wp2
            refine ⟨⟨k + 1, by omega, by first | go_num | omega, O6, ?_⟩, by simp [intOf]; omega⟩
            first | exact R6 | exact ⟨R6, B6⟩
          · obtain rfl : N = k := by omega
            go_wp2
            go_ret
            refine ⟨_, rfl, ?_, hb.out⟩
            rw [ha2.out]
            have := ho.out
            rwa [List.take_of_length_le (by rw [hNz.out]; exact Nat.le_refl _)] at this
end Go.Proofs.YtdhnjkcebaahcaaDoor.Enc
