import Derived.Test.YtgooegcmgejfpaaGreatDoorGr17
import Derived.Deep.RegionHeld3
import Derived.Deep.DeepCutAuto
namespace Go.Proofs.YtgooegcmgejfpaaGreatDoor.Mac
open Go Go.RowKit Go.Proofs.YtgooegcmgejfpaaGreatDoor.Mem
set_option linter.unusedVariables false
set_option linter.unusedSimpArgs false
attribute [local go_sem ↓] Go.wp_at_zero Go.wp_at_succ

theorem overI (v : Value) (h1 : v.oneCell' = true) (w : World) : Calls Tryz.prog 143 #[v] w fun e w' => e = .returned (fnC w.heap.size) ∧ w' = w.alloc (.cells #[v] 130) := by
  go_enter Tryz.func143, Tryz.ntmps143
  go_wp2
  go_ret
  exact ⟨rfl, rfl⟩
theorem overB (v : Value) (h1 : v.oneCell' = true) (w : World) : Calls Tryz.prog 143 #[v] w fun e w' => ∃ k, e = .returned (.func (.func 176) #[] #[.pointer (some ⟨k, 0, none⟩)]) ∧ Below w.heap.size w w' ∧ w'.heap[k]? = some (.cells #[v] 130) ∧ w.heap.size ≤ k := by
  refine (overI v h1 w).mono ?_
  rintro e w' ⟨rfl, rfl⟩
  exact ⟨w.heap.size, rfl, by go_grown, blk_new _ _, Nat.le_refl _⟩
/-- The table of the instructions. -/
def tab (k5 k6 k7 k8 k9 k10 k11 k12 : Nat) : List Value := [.nilFunc, fnV 138, fnV 139, fnV 140, fnV 141, fnC k5, fnC k6, fnC k7, fnC k8, fnC k9, fnC k10, fnC k11, fnC k12, fnV 152, fnV 154, fnV 156, fnV 158, fnV 159, fnV 160, fnV 161, fnV 162]
structure Boxes (w : World) (B k5 k6 k7 k8 k9 k10 k11 k12 : Nat) : Prop where
  b5 : w.heap[k5]? = some (.cells #[fnV 144] 130)
  g5 : B ≤ k5
  b6 : w.heap[k6]? = some (.cells #[fnV 145] 130)
  g6 : B ≤ k6
  b7 : w.heap[k7]? = some (.cells #[fnV 146] 130)
  g7 : B ≤ k7
  b8 : w.heap[k8]? = some (.cells #[fnV 147] 130)
  g8 : B ≤ k8
  b9 : w.heap[k9]? = some (.cells #[fnV 148] 130)
  g9 : B ≤ k9
  b10 : w.heap[k10]? = some (.cells #[fnV 149] 130)
  g10 : B ≤ k10
  b11 : w.heap[k11]? = some (.cells #[fnV 150] 130)
  g11 : B ≤ k11
  b12 : w.heap[k12]? = some (.cells #[fnV 151] 130)
  g12 : B ≤ k12
theorem Boxes.below {w w' : World} {B k5 k6 k7 k8 k9 k10 k11 k12 : Nat} (h : Boxes w B k5 k6 k7 k8 k9 k10 k11 k12) (hb : Below w.heap.size w w') : Boxes w' B k5 k6 k7 k8 k9 k10 k11 k12 := ⟨blk_below h.b5 hb, h.g5, blk_below h.b6 hb, h.g6, blk_below h.b7 hb, h.g7, blk_below h.b8 hb, h.g8, blk_below h.b9 hb, h.g9, blk_below h.b10 hb, h.g10, blk_below h.b11 hb, h.g11, blk_below h.b12 hb, h.g12⟩
theorem infoT : (Tryz.prog.info? 150).map (·.size) = some 21 := by kernel_rfl
theorem wpList_build' {P : Program} {ops : Array Oper} {rest : List Oper} {o : Oper} {a : Act} {w : World} {Q : Exit → Act → World → Prop} (hg : o.guard = none) (t : TypeId) (parts : Array (Nat × Operand)) (ho : o.op = .build t parts) (cells : Array Value) (h0 : P.built t (parts.map fun (i, x) => (i, a.eval x)).toList = some cells) (h : wpList P ops Q rest (a.put o.dst (.agg cells)) w) : wpList P ops Q (o :: rest) a w :=
  wpList_build hg t parts ho (by rw [h0]; rfl) (by rw [h0]; exact h)
theorem row_self {w : World} {g : Nat} {old : Array Value} {t : TypeId} {fr : Nat × Nat} (h : w.heap[g]? = some (.cells old t fr)) (cs : Array Value) : (w.setRow g cs).heap[g]? = some (.cells cs t fr) := by
  simp [World.setRow, Array.getElem?_modify, h]
theorem row_other {w : World} {g k : Nat} {o : Obj} (h : w.heap[k]? = some o) (hne : g ≠ k) (cs : Array Value) : (w.setRow g cs).heap[k]? = some o := by
  simp [World.setRow, Array.getElem?_modify, h, hne]
theorem row_below {B g : Nat} {a w : World} (h : Below B a w) (hg : B ≤ g) (cs : Array Value) : Below B a (w.setRow g cs) := by
  obtain ⟨h1, h2, h3, h4, h5⟩ := h
  exact ⟨h1, h2, h3, by simp [World.setRow]; exact h4, fun k hk => by simp [World.setRow, Array.getElem?_modify, show g ≠ k by omega]; exact h5 k hk⟩
theorem there_of_blk {w : World} {g n : Nat} {cs : Array Value} {t : TypeId} (h : w.heap[g]? = some (.cells cs t)) (hn : n ≤ cs.size) : w.there g 0 n := fun j hj => by
  rw [Nat.zero_add, blk_cell h, blk_unfrozen h]
  exact ⟨by rw [Array.getElem?_eq_getElem (by omega)]; rfl, rfl⟩
set_option maxHeartbeats 4000000 in
set_option maxRecDepth 100000 in
theorem tableI (w : World) : Calls Tryz.prog 105 #[] w fun e w' => ∃ k5 k6 k7 k8 k9 k10 k11 k12, e = .returned (.agg (tab k5 k6 k7 k8 k9 k10 k11 k12).toArray) ∧ Below w.heap.size w w' ∧ Boxes w' w.heap.size k5 k6 k7 k8 k9 k10 k11 k12 := by
  go_enter Tryz.func105, Tryz.ntmps105
  go_wp2_with fail
  refine (overB (fnV 144) rfl _).mono ?_
  rintro e w5 ⟨k5, rfl, hb, hk, hg⟩
  have HB5 := Hid.mk (below_then (w := w) (by go_grown) hb)
  have A5 := Hid.mk (blk_below (blk_new w _) hb)
  have K5 := Hid.mk hk
  have G5 : Hid (w.heap.size ≤ k5) := by unfold Hid; simp at hg; omega
  have H5 : Hid (w.heap.size < k5) := by unfold Hid; simp at hg; omega
  clear hb hk hg
  go_wp2_with fail
  refine (overB (fnV 145) rfl _).mono ?_
  rintro e w6 ⟨k6, rfl, hb, hk, hg⟩
  have HB6 := Hid.mk (below_then HB5.out hb)
  have A6 := Hid.mk (blk_below A5.out hb)
  have K6 := Hid.mk hk
  have G6 : Hid (w.heap.size ≤ k6) := by unfold Hid; have := HB5.out.size; omega
  have H6 : Hid (w.heap.size < k6) := by unfold Hid; have := blk_lt A5.out; omega
  have K5' := Hid.mk (blk_below K5.out hb)
  clear K5
  have K5 := K5'
  clear K5'
  clear hb hk hg HB5 A5
  go_wp2_with fail
  refine (overB (fnV 146) rfl _).mono ?_
  rintro e w7 ⟨k7, rfl, hb, hk, hg⟩
  have HB7 := Hid.mk (below_then HB6.out hb)
  have A7 := Hid.mk (blk_below A6.out hb)
  have K7 := Hid.mk hk
  have G7 : Hid (w.heap.size ≤ k7) := by unfold Hid; have := HB6.out.size; omega
  have H7 : Hid (w.heap.size < k7) := by unfold Hid; have := blk_lt A6.out; omega
  have K5' := Hid.mk (blk_below K5.out hb)
  clear K5
  have K5 := K5'
  clear K5'
  have K6' := Hid.mk (blk_below K6.out hb)
  clear K6
  have K6 := K6'
  clear K6'
  clear hb hk hg HB6 A6
  go_wp2_with fail
  refine (overB (fnV 147) rfl _).mono ?_
  rintro e w8 ⟨k8, rfl, hb, hk, hg⟩
  have HB8 := Hid.mk (below_then HB7.out hb)
  have A8 := Hid.mk (blk_below A7.out hb)
  have K8 := Hid.mk hk
  have G8 : Hid (w.heap.size ≤ k8) := by unfold Hid; have := HB7.out.size; omega
  have H8 : Hid (w.heap.size < k8) := by unfold Hid; have := blk_lt A7.out; omega
  have K5' := Hid.mk (blk_below K5.out hb)
  clear K5
  have K5 := K5'
  clear K5'
  have K6' := Hid.mk (blk_below K6.out hb)
  clear K6
  have K6 := K6'
  clear K6'
  have K7' := Hid.mk (blk_below K7.out hb)
  clear K7
  have K7 := K7'
  clear K7'
  clear hb hk hg HB7 A7
  go_wp2_with fail
  refine (overB (fnV 148) rfl _).mono ?_
  rintro e w9 ⟨k9, rfl, hb, hk, hg⟩
  have HB9 := Hid.mk (below_then HB8.out hb)
  have A9 := Hid.mk (blk_below A8.out hb)
  have K9 := Hid.mk hk
  have G9 : Hid (w.heap.size ≤ k9) := by unfold Hid; have := HB8.out.size; omega
  have H9 : Hid (w.heap.size < k9) := by unfold Hid; have := blk_lt A8.out; omega
  have K5' := Hid.mk (blk_below K5.out hb)
  clear K5
  have K5 := K5'
  clear K5'
  have K6' := Hid.mk (blk_below K6.out hb)
  clear K6
  have K6 := K6'
  clear K6'
  have K7' := Hid.mk (blk_below K7.out hb)
  clear K7
  have K7 := K7'
  clear K7'
  have K8' := Hid.mk (blk_below K8.out hb)
  clear K8
  have K8 := K8'
  clear K8'
  clear hb hk hg HB8 A8
  go_wp2_with fail
  refine (overB (fnV 149) rfl _).mono ?_
  rintro e w10 ⟨k10, rfl, hb, hk, hg⟩
  have HB10 := Hid.mk (below_then HB9.out hb)
  have A10 := Hid.mk (blk_below A9.out hb)
  have K10 := Hid.mk hk
  have G10 : Hid (w.heap.size ≤ k10) := by unfold Hid; have := HB9.out.size; omega
  have H10 : Hid (w.heap.size < k10) := by unfold Hid; have := blk_lt A9.out; omega
  have K5' := Hid.mk (blk_below K5.out hb)
  clear K5
  have K5 := K5'
  clear K5'
  have K6' := Hid.mk (blk_below K6.out hb)
  clear K6
  have K6 := K6'
  clear K6'
  have K7' := Hid.mk (blk_below K7.out hb)
  clear K7
  have K7 := K7'
  clear K7'
  have K8' := Hid.mk (blk_below K8.out hb)
  clear K8
  have K8 := K8'
  clear K8'
  have K9' := Hid.mk (blk_below K9.out hb)
  clear K9
  have K9 := K9'
  clear K9'
  clear hb hk hg HB9 A9
  go_wp2_with fail
  refine (overB (fnV 150) rfl _).mono ?_
  rintro e w11 ⟨k11, rfl, hb, hk, hg⟩
  have HB11 := Hid.mk (below_then HB10.out hb)
  have A11 := Hid.mk (blk_below A10.out hb)
  have K11 := Hid.mk hk
  have G11 : Hid (w.heap.size ≤ k11) := by unfold Hid; have := HB10.out.size; omega
  have H11 : Hid (w.heap.size < k11) := by unfold Hid; have := blk_lt A10.out; omega
  have K5' := Hid.mk (blk_below K5.out hb)
  clear K5
  have K5 := K5'
  clear K5'
  have K6' := Hid.mk (blk_below K6.out hb)
  clear K6
  have K6 := K6'
  clear K6'
  have K7' := Hid.mk (blk_below K7.out hb)
  clear K7
  have K7 := K7'
  clear K7'
  have K8' := Hid.mk (blk_below K8.out hb)
  clear K8
  have K8 := K8'
  clear K8'
  have K9' := Hid.mk (blk_below K9.out hb)
  clear K9
  have K9 := K9'
  clear K9'
  have K10' := Hid.mk (blk_below K10.out hb)
  clear K10
  have K10 := K10'
  clear K10'
  clear hb hk hg HB10 A10
  go_wp2_with fail
  refine (overB (fnV 151) rfl _).mono ?_
  rintro e w12 ⟨k12, rfl, hb, hk, hg⟩
  have HB12 := Hid.mk (below_then HB11.out hb)
  have A12 := Hid.mk (blk_below A11.out hb)
  have K12 := Hid.mk hk
  have G12 : Hid (w.heap.size ≤ k12) := by unfold Hid; have := HB11.out.size; omega
  have H12 : Hid (w.heap.size < k12) := by unfold Hid; have := blk_lt A11.out; omega
  have K5' := Hid.mk (blk_below K5.out hb)
  clear K5
  have K5 := K5'
  clear K5'
  have K6' := Hid.mk (blk_below K6.out hb)
  clear K6
  have K6 := K6'
  clear K6'
  have K7' := Hid.mk (blk_below K7.out hb)
  clear K7
  have K7 := K7'
  clear K7'
  have K8' := Hid.mk (blk_below K8.out hb)
  clear K8
  have K8 := K8'
  clear K8'
  have K9' := Hid.mk (blk_below K9.out hb)
  clear K9
  have K9 := K9'
  clear K9'
  have K10' := Hid.mk (blk_below K10.out hb)
  clear K10
  have K10 := K10'
  clear K10'
  have K11' := Hid.mk (blk_below K11.out hb)
  clear K11
  have K11 := K11'
  clear K11'
  clear hb hk hg HB11 A11
  dsimp only
  rename_i hKK
  refine hKK _ _ ?_
  clear hKK
  refine wpList_build' rfl _ _ rfl (tab k5 k6 k7 k8 k9 k10 k11 k12).toArray (by kernel_rfl) ?_
  refine wpList_store_row rfl _ _ _ rfl w.heap.size (tab k5 k6 k7 k8 k9 k10 k11 k12).toArray rfl rfl _ _ A12.out (by simpa [tab] using infoT) (by simp [tab]) (by simp [tab, fnV, fnC, Value.oneCell']) ?_
  obtain ⟨Z, hZ⟩ : ∃ Z, Z = w12.setRow w.heap.size (tab k5 k6 k7 k8 k9 k10 k11 k12).toArray := ⟨_, rfl⟩
  rw [← hZ]
  have R0 : Hid (Z.heap[w.heap.size]? = some (.cells (tab k5 k6 k7 k8 k9 k10 k11 k12).toArray 150)) := by
    unfold Hid; rw [hZ]; exact row_self A12.out _
  have B0 : Hid (Below w.heap.size w Z) := by unfold Hid; rw [hZ]; exact row_below HB12.out (Nat.le_refl _) _
  have X0 : Hid (Boxes Z w.heap.size k5 k6 k7 k8 k9 k10 k11 k12) := by
    unfold Hid
    rw [hZ]
    exact ⟨row_other K5.out (fun e => by have := H5.out; omega) _, G5.out, row_other K6.out (fun e => by have := H6.out; omega) _, G6.out, row_other K7.out (fun e => by have := H7.out; omega) _, G7.out, row_other K8.out (fun e => by have := H8.out; omega) _, G8.out, row_other K9.out (fun e => by have := H9.out; omega) _, G9.out, row_other K10.out (fun e => by have := H10.out; omega) _, G10.out, row_other K11.out (fun e => by have := H11.out; omega) _, G11.out, row_other K12.out (fun e => by have := H12.out; omega) _, G12.out⟩
  clear hZ A12 HB12
  go_wp2
  refine bodyPost_ret (results_cell_row Tryz.results105 _ _ w.heap.size _ _ _ _ (by simp [Act.put]) R0.out Tryz.underlying150 rfl (by simpa [tab] using infoT)) rfl ?_
  exact ⟨k5, k6, k7, k8, k9, k10, k11, k12, rfl, B0.out, X0.out⟩
end Go.Proofs.YtgooegcmgejfpaaGreatDoor.Mac
