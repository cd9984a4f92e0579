import Derived.Test.YthobdaeglhdhnaaGreatDoorPp20
import Derived.Test.YthobdaeglhdhnaaGreatDoorPp27
import Derived.Lib.SmallJoins
namespace Go.Proofs.YthobdaeglhdhnaaGreatDoor.Syn
open Go Go.RowKit Go.Proofs.YthobdaeglhdhnaaGreatDoor Go.Proofs.YthobdaeglhdhnaaGreatDoor.Mem
open Go.Proofs.YthobdaeglhdhnaaGreatDoor.Print (Own infoB byteCells_one)
set_option linter.unusedVariables false
set_option linter.unusedSimpArgs false
attribute [local go_sem ↓] Go.wp_at_zero Go.wp_at_succ

/-- What l2ExprText answers. -/
def XT : Prop := ∀ (E : Nat → Po) (a : Option Addr) (n cap : Nat) (w : World), SliceAt w a n 3 (fun i => (E i).cells) → n ≤ 1000000 → Calls Tryz.prog 23 #[.slice a n cap] w fun e w' => ∃ a' n' c', e = .returned (.slice a' n' c') ∧ Below w.heap.size w w' ∧ ∀ t, stk E n = some [t] → Rt w' (.slice a' n' c') t.txt
def Rts (w : World) : List Value → List (List UInt8) → Prop
  | [], [] => True
  | v :: vs, t :: ts => Rt w v t ∧ Rts w vs ts
  | _, _ => False
theorem Rts.len {w : World} : ∀ {l : List Value} {t : List (List UInt8)}, Rts w l t → l.length = t.length
  | [], [], _ => rfl
  | v :: vs, t :: ts, h => by have := Rts.len h.2; simp [this]
  | [], _ :: _, h => h.elim
  | _ :: _, [], h => h.elim
theorem Rts.at {w : World} : ∀ {l : List Value} {t : List (List UInt8)}, Rts w l t → ∀ i, i < l.length → Rt w (l.getD i .nilIface) (t.getD i [])
  | [], [], _, i, hi => by simp at hi
  | v :: vs, t :: ts, h, 0, _ => h.1
  | v :: vs, t :: ts, h, i + 1, hi => by simpa using Rts.at h.2 i (by simpa using hi)
  | [], _ :: _, h, _, _ => h.elim
  | _ :: _, [], h, _, _ => h.elim
theorem catT_cons (s : List UInt8) (t : List (List UInt8)) (n : Nat) : catT (fun i => (s :: t).getD i []) (n + 1) = s ++ catT (fun i => t.getD i []) n := by
  induction n with
  | zero => simp [catT]
  | succ n ih => rw [catT, ih, catT]; simp [List.append_assoc]
theorem catT_flat (t : List (List UInt8)) : catT (fun i => t.getD i []) t.length = t.flatten := by
  induction t with
  | nil => rfl
  | cons s t ih => rw [List.length_cons, catT_cons, ih]; simp
theorem glueL (l : List Value) (t : List (List UInt8)) (N c G : Nat) (w : World) (T : TypeId) (fr : Nat × Nat) (hN : N = t.length) (hb : w.heap[G]? = some (.cells l.toArray T fr)) (hR : Rts w l t) (h20 : t.length ≤ 20) (hl : ∀ s ∈ t, s.length ≤ 1000000) :
    Calls Tryz.prog 25 #[.slice (some ⟨G, 0, none⟩) N c] w fun e w' => ∃ v, e = .returned v ∧ Own w.heap.size w' v t.flatten ∧ Below w.heap.size w w' := by
  subst hN
  rw [← catT_flat]
  have hle := hR.len
  refine glueS t.length (fun i => t.getD i []) (fun i => l.getD i .nilIface) G 0 c w (fun i hi => ?_) (fun i hi => hR.at i (by omega)) h20 (fun i hi => ?_)
  · rw [Nat.zero_add]
    refine (blk_cell hb i).trans ?_
    rw [List.getD_eq_getElem?_getD, List.getElem?_toArray, List.getElem?_eq_getElem (by omega)]
    rfl
  · refine hl _ ?_
    rw [List.getD_eq_getElem?_getD, List.getElem?_eq_getElem hi]
    exact List.getElem_mem hi
theorem nb3 (w : World) (a b c d : Obj) : ((((w.alloc a).alloc b).alloc c).alloc d).heap[w.heap.size + 1 + 1 + 1]? = some d := by
  have := blk_new (((w.alloc a).alloc b).alloc c) d; simpa using this
theorem nbd3 (w : World) (a b c d : Obj) : ((((w.alloc a).alloc b).alloc c).alloc d).drew.heap[w.heap.size + 1 + 1 + 1]? = some d := nb3 w a b c d
theorem nb4 (w : World) (a b c d e : Obj) : (((((w.alloc a).alloc b).alloc c).alloc d).alloc e).heap[w.heap.size + 1 + 1 + 1 + 1]? = some e := by
  have := blk_new ((((w.alloc a).alloc b).alloc c).alloc d) e; simpa using this
theorem blk_w3 {w : World} (o o1 o2 : Obj) : (((w.alloc o).alloc o1).alloc o2).heap[w.heap.size]? = some o := blk_alloc (blk_alloc (blk_new w o) _) _
theorem below3 (w : World) (o o1 o2 : Obj) : Below w.heap.size w (((w.alloc o).alloc o1).alloc o2) := below_alloc' (below_alloc' (below_alloc' (Below.refl _ _) _) _) _
set_option maxHeartbeats 6400000 in
set_option maxRecDepth 100000 in
theorem itemS1 (X : XT) (i : It) (l : Lo) (w : World) (tE : Tr) (hE : stk i.E i.nE = some [tE]) (hnm : i.n.length ≤ 16) (hK0 : -999999999 ≤ i.K) (hK1 : i.K ≤ 999999999) (hl0 : -999999999 ≤ i.lo) (hl1 : i.lo ≤ 999999999) (hh0 : -999999999 ≤ i.hi) (hh1 : i.hi ≤ 999999999) (hnE : i.nE ≤ 2000) (hnF : i.nF ≤ 2000) (hIE : SliceAt w l.aE i.nE 3 (fun j => (i.E j).cells)) (hIF : SliceAt w l.aF i.nF 3 (fun j => (i.F j).cells)) :
    Calls Tryz.prog 15 #[.agg #[.int .i64 1, .string ⟨i.n.toArray⟩, .slice l.aE i.nE l.cE, .slice l.aF i.nF l.cF, .int .i64 i.K, .int .i64 i.lo, .int .i64 i.hi]] w fun e w' => ∃ v, e = .returned v ∧ Own w.heap.size w' v [[108, 101, 116, 32], i.n, [32, 61, 32], tE.txt, [59, 10]].flatten ∧ Below w.heap.size w w' := by
  have kc0 := fun (w : World) (C : Array Value) (n c : Nat) => Lib.run_convert_bytes_const (P := Tryz.prog) w 26 5 C n c Tryz.underlying26 Tryz.underlying5
  have kc1 : ∀ (w : World) (o0 : Obj) (C : Array Value) (n c : Nat), (convert 26 26 (.slice (some ⟨w.heap.size + 1, 0, none⟩) n c)).run Tryz.prog ((w.alloc o0).alloc (.cells C 5)) = .ok (.slice (some ⟨w.heap.size + 1, 0, none⟩) n c) ((w.alloc o0).alloc (.cells C 5 (C.size, C.size + 1))) := fun w o0 C n c => by
    have := kc0 (w.alloc o0) C n c
    simp only [World.size_alloc] at this
    exact this
  have kc2 : ∀ (w : World) (o0 o1 : Obj) (C : Array Value) (n c : Nat), (convert 26 26 (.slice (some ⟨w.heap.size + 1 + 1, 0, none⟩) n c)).run Tryz.prog (((w.alloc o0).alloc o1).alloc (.cells C 5)) = .ok (.slice (some ⟨w.heap.size + 1 + 1, 0, none⟩) n c) (((w.alloc o0).alloc o1).alloc (.cells C 5 (C.size, C.size + 1))) := fun w o0 o1 C n c => by
    have := kc0 ((w.alloc o0).alloc o1) C n c
    simp only [World.size_alloc] at this
    exact this
  have kc3 : ∀ (w : World) (o0 o1 o2 : Obj) (C : Array Value) (n c : Nat), (convert 26 26 (.slice (some ⟨w.heap.size + 1 + 1 + 1, 0, none⟩) n c)).run Tryz.prog ((((w.alloc o0).alloc o1).alloc o2).alloc (.cells C 5)) = .ok (.slice (some ⟨w.heap.size + 1 + 1 + 1, 0, none⟩) n c) ((((w.alloc o0).alloc o1).alloc o2).alloc (.cells C 5 (C.size, C.size + 1))) := fun w o0 o1 o2 C n c => by
    have := kc0 (((w.alloc o0).alloc o1).alloc o2) C n c
    simp only [World.size_alloc] at this
    exact this
  have kb := fun (w : World) (s : List UInt8) => run_bytes_of_string (P := Tryz.prog) w 9 26 5 ⟨s.toArray⟩ Tryz.underlying9 Tryz.underlying26 Tryz.underlying5
  have kq : ∀ (w : World) (o0 o1 : Obj) (C : Array Value) (n c : Nat), (convert 26 26 (.slice (some ⟨w.heap.size + 1 + 1, 0, none⟩) n c)).run Tryz.prog ((((w.alloc o0).alloc o1).alloc (.cells C 5)).drew) = .ok (.slice (some ⟨w.heap.size + 1 + 1, 0, none⟩) n c) ((((w.alloc o0).alloc o1).alloc (.cells C 5 (C.size, C.size + 1))).drew) := fun w o0 o1 C n c => by
    have := kc0 ((w.alloc o0).alloc o1).drew C n c
    change (convert 26 26 (.slice (some ⟨((w.alloc o0).alloc o1).heap.size, 0, none⟩) n c)).run Tryz.prog ((((w.alloc o0).alloc o1).alloc (.cells C 5)).drew) = .ok (.slice (some ⟨((w.alloc o0).alloc o1).heap.size, 0, none⟩) n c) ((((w.alloc o0).alloc o1).alloc (.cells C 5 (C.size, C.size + 1))).drew) at this
    simp only [World.size_alloc] at this
    exact this
  have HX := Hid.mk X
  have HIE := Hid.mk hIE
  have HIF := Hid.mk hIF
  have hB0 := Hid.mk (below_alloc' (Below.refl w.heap.size w) (.cells #[.int .i64 1, .string ⟨i.n.toArray⟩, .slice l.aE i.nE l.cE, .slice l.aF i.nF l.cF, .int .i64 i.K, .int .i64 i.lo, .int .i64 i.hi] 42))
  have BX0 := Hid.mk (blk_new w (.cells #[.int .i64 1, .string ⟨i.n.toArray⟩, .slice l.aE i.nE l.cE, .slice l.aF i.nF l.cF, .int .i64 i.K, .int .i64 i.lo, .int .i64 i.hi] 42))
  have HE := Hid.mk hE
  have hEl := tree_len hE
  clear hE
  have hKl := itoa_len' hK0 hK1
  have hll := itoa_len' hl0 hl1
  have hhl := itoa_len' hh0 hh1
  clear X hIE hIF
  go_enter Tryz.func15, Tryz.ntmps15
  go_wp2_with fail
  refine (HX.out i.E l.aE i.nE l.cE _ (HIE.out.below hB0.out) (by omega)).mono ?_
  rintro e w1 ⟨ae, ne, ce, rfl, hb, hre⟩
  have HB := Hid.mk (below_then hB0.out hb)
  have BX := Hid.mk (blk_below BX0.out hb)
  have RE := Hid.mk (hre tE HE.out)
  clear hb hre hB0 BX0
  have y4 := blk_cell BX.out 4
  simp only [List.getElem?_toArray, List.getElem?_cons_zero, List.getElem?_cons_succ] at y4
  go_wp2_with fail
  clear y4
  refine (Print.decimal i.K _ (by omega) (by omega)).mono ?_
  rintro e w2K ⟨vk, rfl, ho, hb⟩
  have HB := Hid.mk (below_then HB.out hb)
  have BX := Hid.mk (blk_below BX.out hb)
  have RK := Hid.mk (own_rt ho (Print.itoa_pos i.K))
  obtain ⟨gRK, oRK, cRK, rfl, -, -⟩ := RK.out
  have RE := Hid.mk (RE.out.below hb)
  clear ho hb
  have y5 := blk_cell BX.out 5
  simp only [List.getElem?_toArray, List.getElem?_cons_zero, List.getElem?_cons_succ] at y5
  go_wp2_with fail
  clear y5
  refine (Print.decimal i.lo _ (by omega) (by omega)).mono ?_
  rintro e w2lo ⟨vl, rfl, ho, hb⟩
  have HB := Hid.mk (below_then HB.out hb)
  have BX := Hid.mk (blk_below BX.out hb)
  have RL := Hid.mk (own_rt ho (Print.itoa_pos i.lo))
  obtain ⟨gRL, oRL, cRL, rfl, -, -⟩ := RL.out
  have RE := Hid.mk (RE.out.below hb)
  have RK := Hid.mk (RK.out.below hb)
  clear ho hb
  have y6 := blk_cell BX.out 6
  simp only [List.getElem?_toArray, List.getElem?_cons_zero, List.getElem?_cons_succ] at y6
  go_wp2_with fail
  clear y6
  refine (Print.decimal i.hi _ (by omega) (by omega)).mono ?_
  rintro e w2hi ⟨vh, rfl, ho, hb⟩
  have HB := Hid.mk (below_then HB.out hb)
  have BX := Hid.mk (blk_below BX.out hb)
  have RH := Hid.mk (own_rt ho (Print.itoa_pos i.hi))
  obtain ⟨gRH, oRH, cRH, rfl, -, -⟩ := RH.out
  have RE := Hid.mk (RE.out.below hb)
  have RK := Hid.mk (RK.out.below hb)
  have RL := Hid.mk (RL.out.below hb)
  clear ho hb
  go_upto_region 8 with fail
  obtain ⟨W, hW⟩ : ∃ W, W = (((w2hi.alloc (.cells #[.int .u8 59, .int .u8 10] 5 (2, 2 + 1))).alloc (.cells #[.int .u8 32, .int .u8 105, .int .u8 110, .int .u8 32] 5 (4, 4 + 1))).alloc (.cells #[.int .u8 32, .int .u8 46, .int .u8 46, .int .u8 32] 5 (4, 4 + 1))) := ⟨_, rfl⟩
  have hb3 : Hid (Below w2hi.heap.size w2hi W) := by unfold Hid; rw [hW]; exact below3 _ _ _ _
  have HB := Hid.mk (below_then HB.out hb3.out)
  have BX := Hid.mk (blk_below BX.out hb3.out)
  have RE := Hid.mk (RE.out.below hb3.out)
  have RK := Hid.mk (RK.out.below hb3.out)
  have RL := Hid.mk (RL.out.below hb3.out)
  have RH := Hid.mk (RH.out.below hb3.out)
  have RX : Hid (Rt W (.slice (some ⟨w2hi.heap.size, 0, none⟩) 2 2) [59, 10]) := by unfold Hid; rw [hW]; exact lit_rt [59, 10] 2 _ _ rfl (blk_w3 _ _ _)
  have RI : Hid (Rt W (.slice (some ⟨w2hi.heap.size + 1, 0, none⟩) 4 4) [32, 105, 110, 32]) := by unfold Hid; rw [hW]; exact lit_rt [32, 105, 110, 32] 4 _ _ rfl (blk_alloc (blk_new1 _ _ _) _)
  have RT : Hid (Rt W (.slice (some ⟨w2hi.heap.size + 1 + 1, 0, none⟩) 4 4) [32, 46, 46, 32]) := by unfold Hid; rw [hW]; exact lit_rt [32, 46, 46, 32] 4 _ _ rfl (blk_new2 _ _ _ _)
  rw [← hW]
  clear hW hb3
  have y0 := blk_cell BX.out 0
  have y1 := blk_cell BX.out 1
  have y3 := blk_cell BX.out 3
  have y4 := blk_cell BX.out 4
  have y5 := blk_cell BX.out 5
  simp only [List.getElem?_toArray, List.getElem?_cons_zero, List.getElem?_cons_succ] at y0 y1 y3 y4 y5
  have u1 := fun (o : Obj) => cell_alloc' y1 o
  go_wp2_with fail
  clear y0 y1 y3 y4 y5
  refine (glueL _ [[108, 101, 116, 32], i.n, [32, 61, 32], tE.txt, [59, 10]] _ _ _ (World.drew _) _ _ rfl (nbd3 W _ _ _ _) ?rts (by simp) (by intro s hs; simp only [List.mem_cons, List.not_mem_nil, or_false] at hs; rcases hs with rfl | rfl | rfl | rfl | rfl <;> (try simp only [List.length_cons, List.length_nil]) <;> omega)).mono ?_
  case rts => exact ⟨lit_rt [108, 101, 116, 32] _ _ _ rfl (blk_alloc (blk_w3 _ _ _) _), row_rt i.n _ _ (blk_alloc (blk_alloc (blk_new1 W _ _) _) _), lit_rt [32, 61, 32] _ _ _ rfl (blk_alloc (blk_new2 W _ _ _) _), RE.out.below (by go_grown), RX.out.below (by go_grown), trivial⟩
  rintro e w9 ⟨v9, rfl, ho, hb⟩
  have HO9 : Hid (Own w.heap.size w9 v9 [[108, 101, 116, 32], i.n, [32, 61, 32], tE.txt, [59, 10]].flatten) := Joins.ownsRow_le ho (Nat.le_trans HB.out.size (by simp only [World.size_alloc, Print.size_drew]; omega))
  have HB9 := Hid.mk (below_then HB.out (below_then (by go_grown) hb))
  clear ho hb
  go_wp2
  go_ret
  exact ⟨v9, rfl, HO9.out, HB9.out⟩
set_option maxHeartbeats 6400000 in
set_option maxRecDepth 100000 in
theorem itemS2 (X : XT) (i : It) (l : Lo) (w : World) (tE : Tr) (hE : stk i.E i.nE = some [tE]) (hK0 : -999999999 ≤ i.K) (hK1 : i.K ≤ 999999999) (hl0 : -999999999 ≤ i.lo) (hl1 : i.lo ≤ 999999999) (hh0 : -999999999 ≤ i.hi) (hh1 : i.hi ≤ 999999999) (hnE : i.nE ≤ 2000) (hnF : i.nF ≤ 2000) (hIE : SliceAt w l.aE i.nE 3 (fun j => (i.E j).cells)) (hIF : SliceAt w l.aF i.nF 3 (fun j => (i.F j).cells)) :
    Calls Tryz.prog 15 #[.agg #[.int .i64 2, .string ⟨i.n.toArray⟩, .slice l.aE i.nE l.cE, .slice l.aF i.nF l.cF, .int .i64 i.K, .int .i64 i.lo, .int .i64 i.hi]] w fun e w' => ∃ v, e = .returned v ∧ Own w.heap.size w' v [[101, 97, 99, 104, 32], tE.txt, [59, 10]].flatten ∧ Below w.heap.size w w' := by
  have kc0 := fun (w : World) (C : Array Value) (n c : Nat) => Lib.run_convert_bytes_const (P := Tryz.prog) w 26 5 C n c Tryz.underlying26 Tryz.underlying5
  have kc1 : ∀ (w : World) (o0 : Obj) (C : Array Value) (n c : Nat), (convert 26 26 (.slice (some ⟨w.heap.size + 1, 0, none⟩) n c)).run Tryz.prog ((w.alloc o0).alloc (.cells C 5)) = .ok (.slice (some ⟨w.heap.size + 1, 0, none⟩) n c) ((w.alloc o0).alloc (.cells C 5 (C.size, C.size + 1))) := fun w o0 C n c => by
    have := kc0 (w.alloc o0) C n c
    simp only [World.size_alloc] at this
    exact this
  have kc2 : ∀ (w : World) (o0 o1 : Obj) (C : Array Value) (n c : Nat), (convert 26 26 (.slice (some ⟨w.heap.size + 1 + 1, 0, none⟩) n c)).run Tryz.prog (((w.alloc o0).alloc o1).alloc (.cells C 5)) = .ok (.slice (some ⟨w.heap.size + 1 + 1, 0, none⟩) n c) (((w.alloc o0).alloc o1).alloc (.cells C 5 (C.size, C.size + 1))) := fun w o0 o1 C n c => by
    have := kc0 ((w.alloc o0).alloc o1) C n c
    simp only [World.size_alloc] at this
    exact this
  have kc3 : ∀ (w : World) (o0 o1 o2 : Obj) (C : Array Value) (n c : Nat), (convert 26 26 (.slice (some ⟨w.heap.size + 1 + 1 + 1, 0, none⟩) n c)).run Tryz.prog ((((w.alloc o0).alloc o1).alloc o2).alloc (.cells C 5)) = .ok (.slice (some ⟨w.heap.size + 1 + 1 + 1, 0, none⟩) n c) ((((w.alloc o0).alloc o1).alloc o2).alloc (.cells C 5 (C.size, C.size + 1))) := fun w o0 o1 o2 C n c => by
    have := kc0 (((w.alloc o0).alloc o1).alloc o2) C n c
    simp only [World.size_alloc] at this
    exact this
  have HX := Hid.mk X
  have HIE := Hid.mk hIE
  have HIF := Hid.mk hIF
  have hB0 := Hid.mk (below_alloc' (Below.refl w.heap.size w) (.cells #[.int .i64 2, .string ⟨i.n.toArray⟩, .slice l.aE i.nE l.cE, .slice l.aF i.nF l.cF, .int .i64 i.K, .int .i64 i.lo, .int .i64 i.hi] 42))
  have BX0 := Hid.mk (blk_new w (.cells #[.int .i64 2, .string ⟨i.n.toArray⟩, .slice l.aE i.nE l.cE, .slice l.aF i.nF l.cF, .int .i64 i.K, .int .i64 i.lo, .int .i64 i.hi] 42))
  have HE := Hid.mk hE
  have hEl := tree_len hE
  clear hE
  have hKl := itoa_len' hK0 hK1
  have hll := itoa_len' hl0 hl1
  have hhl := itoa_len' hh0 hh1
  clear X hIE hIF
  go_enter Tryz.func15, Tryz.ntmps15
  go_wp2_with fail
  refine (HX.out i.E l.aE i.nE l.cE _ (HIE.out.below hB0.out) (by omega)).mono ?_
  rintro e w1 ⟨ae, ne, ce, rfl, hb, hre⟩
  have HB := Hid.mk (below_then hB0.out hb)
  have BX := Hid.mk (blk_below BX0.out hb)
  have RE := Hid.mk (hre tE HE.out)
  clear hb hre hB0 BX0
  have y4 := blk_cell BX.out 4
  simp only [List.getElem?_toArray, List.getElem?_cons_zero, List.getElem?_cons_succ] at y4
  go_wp2_with fail
  clear y4
  refine (Print.decimal i.K _ (by omega) (by omega)).mono ?_
  rintro e w2K ⟨vk, rfl, ho, hb⟩
  have HB := Hid.mk (below_then HB.out hb)
  have BX := Hid.mk (blk_below BX.out hb)
  have RK := Hid.mk (own_rt ho (Print.itoa_pos i.K))
  obtain ⟨gRK, oRK, cRK, rfl, -, -⟩ := RK.out
  have RE := Hid.mk (RE.out.below hb)
  clear ho hb
  have y5 := blk_cell BX.out 5
  simp only [List.getElem?_toArray, List.getElem?_cons_zero, List.getElem?_cons_succ] at y5
  go_wp2_with fail
  clear y5
  refine (Print.decimal i.lo _ (by omega) (by omega)).mono ?_
  rintro e w2lo ⟨vl, rfl, ho, hb⟩
  have HB := Hid.mk (below_then HB.out hb)
  have BX := Hid.mk (blk_below BX.out hb)
  have RL := Hid.mk (own_rt ho (Print.itoa_pos i.lo))
  obtain ⟨gRL, oRL, cRL, rfl, -, -⟩ := RL.out
  have RE := Hid.mk (RE.out.below hb)
  have RK := Hid.mk (RK.out.below hb)
  clear ho hb
  have y6 := blk_cell BX.out 6
  simp only [List.getElem?_toArray, List.getElem?_cons_zero, List.getElem?_cons_succ] at y6
  go_wp2_with fail
  clear y6
  refine (Print.decimal i.hi _ (by omega) (by omega)).mono ?_
  rintro e w2hi ⟨vh, rfl, ho, hb⟩
  have HB := Hid.mk (below_then HB.out hb)
  have BX := Hid.mk (blk_below BX.out hb)
  have RH := Hid.mk (own_rt ho (Print.itoa_pos i.hi))
  obtain ⟨gRH, oRH, cRH, rfl, -, -⟩ := RH.out
  have RE := Hid.mk (RE.out.below hb)
  have RK := Hid.mk (RK.out.below hb)
  have RL := Hid.mk (RL.out.below hb)
  clear ho hb
  go_upto_region 8 with fail
  obtain ⟨W, hW⟩ : ∃ W, W = (((w2hi.alloc (.cells #[.int .u8 59, .int .u8 10] 5 (2, 2 + 1))).alloc (.cells #[.int .u8 32, .int .u8 105, .int .u8 110, .int .u8 32] 5 (4, 4 + 1))).alloc (.cells #[.int .u8 32, .int .u8 46, .int .u8 46, .int .u8 32] 5 (4, 4 + 1))) := ⟨_, rfl⟩
  have hb3 : Hid (Below w2hi.heap.size w2hi W) := by unfold Hid; rw [hW]; exact below3 _ _ _ _
  have HB := Hid.mk (below_then HB.out hb3.out)
  have BX := Hid.mk (blk_below BX.out hb3.out)
  have RE := Hid.mk (RE.out.below hb3.out)
  have RK := Hid.mk (RK.out.below hb3.out)
  have RL := Hid.mk (RL.out.below hb3.out)
  have RH := Hid.mk (RH.out.below hb3.out)
  have RX : Hid (Rt W (.slice (some ⟨w2hi.heap.size, 0, none⟩) 2 2) [59, 10]) := by unfold Hid; rw [hW]; exact lit_rt [59, 10] 2 _ _ rfl (blk_w3 _ _ _)
  have RI : Hid (Rt W (.slice (some ⟨w2hi.heap.size + 1, 0, none⟩) 4 4) [32, 105, 110, 32]) := by unfold Hid; rw [hW]; exact lit_rt [32, 105, 110, 32] 4 _ _ rfl (blk_alloc (blk_new1 _ _ _) _)
  have RT : Hid (Rt W (.slice (some ⟨w2hi.heap.size + 1 + 1, 0, none⟩) 4 4) [32, 46, 46, 32]) := by unfold Hid; rw [hW]; exact lit_rt [32, 46, 46, 32] 4 _ _ rfl (blk_new2 _ _ _ _)
  rw [← hW]
  clear hW hb3
  have y0 := blk_cell BX.out 0
  have y1 := blk_cell BX.out 1
  have y3 := blk_cell BX.out 3
  have y4 := blk_cell BX.out 4
  have y5 := blk_cell BX.out 5
  simp only [List.getElem?_toArray, List.getElem?_cons_zero, List.getElem?_cons_succ] at y0 y1 y3 y4 y5
  go_wp2_with fail
  clear y0 y1 y3 y4 y5
  refine (glueL _ [[101, 97, 99, 104, 32], tE.txt, [59, 10]] _ _ _ _ _ _ rfl (blk_new1 W _ _) ?rts (by simp) (by intro s hs; simp only [List.mem_cons, List.not_mem_nil, or_false] at hs; rcases hs with rfl | rfl | rfl <;> (try simp only [List.length_cons, List.length_nil]) <;> omega)).mono ?_
  case rts => exact ⟨lit_rt [101, 97, 99, 104, 32] _ _ _ rfl (blk_alloc (blk_new W _) _), RE.out.below (by go_grown), RX.out.below (by go_grown), trivial⟩
  rintro e w9 ⟨v9, rfl, ho, hb⟩
  have HO9 : Hid (Own w.heap.size w9 v9 [[101, 97, 99, 104, 32], tE.txt, [59, 10]].flatten) := Joins.ownsRow_le ho (Nat.le_trans HB.out.size (by simp only [World.size_alloc]; omega))
  have HB9 := Hid.mk (below_then HB.out (below_then (by go_grown) hb))
  clear ho hb
  go_wp2
  go_ret
  exact ⟨v9, rfl, HO9.out, HB9.out⟩
set_option maxHeartbeats 6400000 in
set_option maxRecDepth 100000 in
theorem itemS3 (X : XT) (i : It) (l : Lo) (w : World) (tE : Tr) (hE : stk i.E i.nE = some [tE]) (hK0 : -999999999 ≤ i.K) (hK1 : i.K ≤ 999999999) (hl0 : -999999999 ≤ i.lo) (hl1 : i.lo ≤ 999999999) (hh0 : -999999999 ≤ i.hi) (hh1 : i.hi ≤ 999999999) (hnE : i.nE ≤ 2000) (hnF : i.nF ≤ 2000) (hIE : SliceAt w l.aE i.nE 3 (fun j => (i.E j).cells)) (hIF : SliceAt w l.aF i.nF 3 (fun j => (i.F j).cells)) :
    Calls Tryz.prog 15 #[.agg #[.int .i64 3, .string ⟨i.n.toArray⟩, .slice l.aE i.nE l.cE, .slice l.aF i.nF l.cF, .int .i64 i.K, .int .i64 i.lo, .int .i64 i.hi]] w fun e w' => ∃ v, e = .returned v ∧ Own w.heap.size w' v [[101, 110, 100, 32], tE.txt, [59, 10]].flatten ∧ Below w.heap.size w w' := by
  have kc0 := fun (w : World) (C : Array Value) (n c : Nat) => Lib.run_convert_bytes_const (P := Tryz.prog) w 26 5 C n c Tryz.underlying26 Tryz.underlying5
  have kc1 : ∀ (w : World) (o0 : Obj) (C : Array Value) (n c : Nat), (convert 26 26 (.slice (some ⟨w.heap.size + 1, 0, none⟩) n c)).run Tryz.prog ((w.alloc o0).alloc (.cells C 5)) = .ok (.slice (some ⟨w.heap.size + 1, 0, none⟩) n c) ((w.alloc o0).alloc (.cells C 5 (C.size, C.size + 1))) := fun w o0 C n c => by
    have := kc0 (w.alloc o0) C n c
    simp only [World.size_alloc] at this
    exact this
  have kc2 : ∀ (w : World) (o0 o1 : Obj) (C : Array Value) (n c : Nat), (convert 26 26 (.slice (some ⟨w.heap.size + 1 + 1, 0, none⟩) n c)).run Tryz.prog (((w.alloc o0).alloc o1).alloc (.cells C 5)) = .ok (.slice (some ⟨w.heap.size + 1 + 1, 0, none⟩) n c) (((w.alloc o0).alloc o1).alloc (.cells C 5 (C.size, C.size + 1))) := fun w o0 o1 C n c => by
    have := kc0 ((w.alloc o0).alloc o1) C n c
    simp only [World.size_alloc] at this
    exact this
  have kc3 : ∀ (w : World) (o0 o1 o2 : Obj) (C : Array Value) (n c : Nat), (convert 26 26 (.slice (some ⟨w.heap.size + 1 + 1 + 1, 0, none⟩) n c)).run Tryz.prog ((((w.alloc o0).alloc o1).alloc o2).alloc (.cells C 5)) = .ok (.slice (some ⟨w.heap.size + 1 + 1 + 1, 0, none⟩) n c) ((((w.alloc o0).alloc o1).alloc o2).alloc (.cells C 5 (C.size, C.size + 1))) := fun w o0 o1 o2 C n c => by
    have := kc0 (((w.alloc o0).alloc o1).alloc o2) C n c
    simp only [World.size_alloc] at this
    exact this
  have HX := Hid.mk X
  have HIE := Hid.mk hIE
  have HIF := Hid.mk hIF
  have hB0 := Hid.mk (below_alloc' (Below.refl w.heap.size w) (.cells #[.int .i64 3, .string ⟨i.n.toArray⟩, .slice l.aE i.nE l.cE, .slice l.aF i.nF l.cF, .int .i64 i.K, .int .i64 i.lo, .int .i64 i.hi] 42))
  have BX0 := Hid.mk (blk_new w (.cells #[.int .i64 3, .string ⟨i.n.toArray⟩, .slice l.aE i.nE l.cE, .slice l.aF i.nF l.cF, .int .i64 i.K, .int .i64 i.lo, .int .i64 i.hi] 42))
  have HE := Hid.mk hE
  have hEl := tree_len hE
  clear hE
  have hKl := itoa_len' hK0 hK1
  have hll := itoa_len' hl0 hl1
  have hhl := itoa_len' hh0 hh1
  clear X hIE hIF
  go_enter Tryz.func15, Tryz.ntmps15
  go_wp2_with fail
  refine (HX.out i.E l.aE i.nE l.cE _ (HIE.out.below hB0.out) (by omega)).mono ?_
  rintro e w1 ⟨ae, ne, ce, rfl, hb, hre⟩
  have HB := Hid.mk (below_then hB0.out hb)
  have BX := Hid.mk (blk_below BX0.out hb)
  have RE := Hid.mk (hre tE HE.out)
  clear hb hre hB0 BX0
  have y4 := blk_cell BX.out 4
  simp only [List.getElem?_toArray, List.getElem?_cons_zero, List.getElem?_cons_succ] at y4
  go_wp2_with fail
  clear y4
  refine (Print.decimal i.K _ (by omega) (by omega)).mono ?_
  rintro e w2K ⟨vk, rfl, ho, hb⟩
  have HB := Hid.mk (below_then HB.out hb)
  have BX := Hid.mk (blk_below BX.out hb)
  have RK := Hid.mk (own_rt ho (Print.itoa_pos i.K))
  obtain ⟨gRK, oRK, cRK, rfl, -, -⟩ := RK.out
  have RE := Hid.mk (RE.out.below hb)
  clear ho hb
  have y5 := blk_cell BX.out 5
  simp only [List.getElem?_toArray, List.getElem?_cons_zero, List.getElem?_cons_succ] at y5
  go_wp2_with fail
  clear y5
  refine (Print.decimal i.lo _ (by omega) (by omega)).mono ?_
  rintro e w2lo ⟨vl, rfl, ho, hb⟩
  have HB := Hid.mk (below_then HB.out hb)
  have BX := Hid.mk (blk_below BX.out hb)
  have RL := Hid.mk (own_rt ho (Print.itoa_pos i.lo))
  obtain ⟨gRL, oRL, cRL, rfl, -, -⟩ := RL.out
  have RE := Hid.mk (RE.out.below hb)
  have RK := Hid.mk (RK.out.below hb)
  clear ho hb
  have y6 := blk_cell BX.out 6
  simp only [List.getElem?_toArray, List.getElem?_cons_zero, List.getElem?_cons_succ] at y6
  go_wp2_with fail
  clear y6
  refine (Print.decimal i.hi _ (by omega) (by omega)).mono ?_
  rintro e w2hi ⟨vh, rfl, ho, hb⟩
  have HB := Hid.mk (below_then HB.out hb)
  have BX := Hid.mk (blk_below BX.out hb)
  have RH := Hid.mk (own_rt ho (Print.itoa_pos i.hi))
  obtain ⟨gRH, oRH, cRH, rfl, -, -⟩ := RH.out
  have RE := Hid.mk (RE.out.below hb)
  have RK := Hid.mk (RK.out.below hb)
  have RL := Hid.mk (RL.out.below hb)
  clear ho hb
  go_upto_region 8 with fail
  obtain ⟨W, hW⟩ : ∃ W, W = (((w2hi.alloc (.cells #[.int .u8 59, .int .u8 10] 5 (2, 2 + 1))).alloc (.cells #[.int .u8 32, .int .u8 105, .int .u8 110, .int .u8 32] 5 (4, 4 + 1))).alloc (.cells #[.int .u8 32, .int .u8 46, .int .u8 46, .int .u8 32] 5 (4, 4 + 1))) := ⟨_, rfl⟩
  have hb3 : Hid (Below w2hi.heap.size w2hi W) := by unfold Hid; rw [hW]; exact below3 _ _ _ _
  have HB := Hid.mk (below_then HB.out hb3.out)
  have BX := Hid.mk (blk_below BX.out hb3.out)
  have RE := Hid.mk (RE.out.below hb3.out)
  have RK := Hid.mk (RK.out.below hb3.out)
  have RL := Hid.mk (RL.out.below hb3.out)
  have RH := Hid.mk (RH.out.below hb3.out)
  have RX : Hid (Rt W (.slice (some ⟨w2hi.heap.size, 0, none⟩) 2 2) [59, 10]) := by unfold Hid; rw [hW]; exact lit_rt [59, 10] 2 _ _ rfl (blk_w3 _ _ _)
  have RI : Hid (Rt W (.slice (some ⟨w2hi.heap.size + 1, 0, none⟩) 4 4) [32, 105, 110, 32]) := by unfold Hid; rw [hW]; exact lit_rt [32, 105, 110, 32] 4 _ _ rfl (blk_alloc (blk_new1 _ _ _) _)
  have RT : Hid (Rt W (.slice (some ⟨w2hi.heap.size + 1 + 1, 0, none⟩) 4 4) [32, 46, 46, 32]) := by unfold Hid; rw [hW]; exact lit_rt [32, 46, 46, 32] 4 _ _ rfl (blk_new2 _ _ _ _)
  rw [← hW]
  clear hW hb3
  have y0 := blk_cell BX.out 0
  have y1 := blk_cell BX.out 1
  have y3 := blk_cell BX.out 3
  have y4 := blk_cell BX.out 4
  have y5 := blk_cell BX.out 5
  simp only [List.getElem?_toArray, List.getElem?_cons_zero, List.getElem?_cons_succ] at y0 y1 y3 y4 y5
  go_wp2_with fail
  clear y0 y1 y3 y4 y5
  refine (glueL _ [[101, 110, 100, 32], tE.txt, [59, 10]] _ _ _ _ _ _ rfl (blk_new1 W _ _) ?rts (by simp) (by intro s hs; simp only [List.mem_cons, List.not_mem_nil, or_false] at hs; rcases hs with rfl | rfl | rfl <;> (try simp only [List.length_cons, List.length_nil]) <;> omega)).mono ?_
  case rts => exact ⟨lit_rt [101, 110, 100, 32] _ _ _ rfl (blk_alloc (blk_new W _) _), RE.out.below (by go_grown), RX.out.below (by go_grown), trivial⟩
  rintro e w9 ⟨v9, rfl, ho, hb⟩
  have HO9 : Hid (Own w.heap.size w9 v9 [[101, 110, 100, 32], tE.txt, [59, 10]].flatten) := Joins.ownsRow_le ho (Nat.le_trans HB.out.size (by simp only [World.size_alloc]; omega))
  have HB9 := Hid.mk (below_then HB.out (below_then (by go_grown) hb))
  clear ho hb
  go_wp2
  go_ret
  exact ⟨v9, rfl, HO9.out, HB9.out⟩
set_option maxHeartbeats 6400000 in
set_option maxRecDepth 100000 in
theorem itemS4 (X : XT) (i : It) (l : Lo) (w : World) (tE : Tr) (hE : stk i.E i.nE = some [tE]) (hK0 : -999999999 ≤ i.K) (hK1 : i.K ≤ 999999999) (hl0 : -999999999 ≤ i.lo) (hl1 : i.lo ≤ 999999999) (hh0 : -999999999 ≤ i.hi) (hh1 : i.hi ≤ 999999999) (hnE : i.nE ≤ 2000) (hnF : i.nF ≤ 2000) (hIE : SliceAt w l.aE i.nE 3 (fun j => (i.E j).cells)) (hIF : SliceAt w l.aF i.nF 3 (fun j => (i.F j).cells)) :
    Calls Tryz.prog 15 #[.agg #[.int .i64 4, .string ⟨i.n.toArray⟩, .slice l.aE i.nE l.cE, .slice l.aF i.nF l.cF, .int .i64 i.K, .int .i64 i.lo, .int .i64 i.hi]] w fun e w' => ∃ v, e = .returned v ∧ Own w.heap.size w' v [[115, 117, 109, 32], tE.txt, [32, 102, 114, 111, 109, 32], Lib.itoa i.K, [32, 105, 110, 32], Lib.itoa i.lo, [32, 46, 46, 32], Lib.itoa i.hi, [59, 10]].flatten ∧ Below w.heap.size w w' := by
  have kc0 := fun (w : World) (C : Array Value) (n c : Nat) => Lib.run_convert_bytes_const (P := Tryz.prog) w 26 5 C n c Tryz.underlying26 Tryz.underlying5
  have kc1 : ∀ (w : World) (o0 : Obj) (C : Array Value) (n c : Nat), (convert 26 26 (.slice (some ⟨w.heap.size + 1, 0, none⟩) n c)).run Tryz.prog ((w.alloc o0).alloc (.cells C 5)) = .ok (.slice (some ⟨w.heap.size + 1, 0, none⟩) n c) ((w.alloc o0).alloc (.cells C 5 (C.size, C.size + 1))) := fun w o0 C n c => by
    have := kc0 (w.alloc o0) C n c
    simp only [World.size_alloc] at this
    exact this
  have kc2 : ∀ (w : World) (o0 o1 : Obj) (C : Array Value) (n c : Nat), (convert 26 26 (.slice (some ⟨w.heap.size + 1 + 1, 0, none⟩) n c)).run Tryz.prog (((w.alloc o0).alloc o1).alloc (.cells C 5)) = .ok (.slice (some ⟨w.heap.size + 1 + 1, 0, none⟩) n c) (((w.alloc o0).alloc o1).alloc (.cells C 5 (C.size, C.size + 1))) := fun w o0 o1 C n c => by
    have := kc0 ((w.alloc o0).alloc o1) C n c
    simp only [World.size_alloc] at this
    exact this
  have kc3 : ∀ (w : World) (o0 o1 o2 : Obj) (C : Array Value) (n c : Nat), (convert 26 26 (.slice (some ⟨w.heap.size + 1 + 1 + 1, 0, none⟩) n c)).run Tryz.prog ((((w.alloc o0).alloc o1).alloc o2).alloc (.cells C 5)) = .ok (.slice (some ⟨w.heap.size + 1 + 1 + 1, 0, none⟩) n c) ((((w.alloc o0).alloc o1).alloc o2).alloc (.cells C 5 (C.size, C.size + 1))) := fun w o0 o1 o2 C n c => by
    have := kc0 (((w.alloc o0).alloc o1).alloc o2) C n c
    simp only [World.size_alloc] at this
    exact this
  have HX := Hid.mk X
  have HIE := Hid.mk hIE
  have HIF := Hid.mk hIF
  have hB0 := Hid.mk (below_alloc' (Below.refl w.heap.size w) (.cells #[.int .i64 4, .string ⟨i.n.toArray⟩, .slice l.aE i.nE l.cE, .slice l.aF i.nF l.cF, .int .i64 i.K, .int .i64 i.lo, .int .i64 i.hi] 42))
  have BX0 := Hid.mk (blk_new w (.cells #[.int .i64 4, .string ⟨i.n.toArray⟩, .slice l.aE i.nE l.cE, .slice l.aF i.nF l.cF, .int .i64 i.K, .int .i64 i.lo, .int .i64 i.hi] 42))
  have HE := Hid.mk hE
  have hEl := tree_len hE
  clear hE
  have hKl := itoa_len' hK0 hK1
  have hll := itoa_len' hl0 hl1
  have hhl := itoa_len' hh0 hh1
  clear X hIE hIF
  go_enter Tryz.func15, Tryz.ntmps15
  go_wp2_with fail
  refine (HX.out i.E l.aE i.nE l.cE _ (HIE.out.below hB0.out) (by omega)).mono ?_
  rintro e w1 ⟨ae, ne, ce, rfl, hb, hre⟩
  have HB := Hid.mk (below_then hB0.out hb)
  have BX := Hid.mk (blk_below BX0.out hb)
  have RE := Hid.mk (hre tE HE.out)
  clear hb hre hB0 BX0
  have y4 := blk_cell BX.out 4
  simp only [List.getElem?_toArray, List.getElem?_cons_zero, List.getElem?_cons_succ] at y4
  go_wp2_with fail
  clear y4
  refine (Print.decimal i.K _ (by omega) (by omega)).mono ?_
  rintro e w2K ⟨vk, rfl, ho, hb⟩
  have HB := Hid.mk (below_then HB.out hb)
  have BX := Hid.mk (blk_below BX.out hb)
  have RK := Hid.mk (own_rt ho (Print.itoa_pos i.K))
  obtain ⟨gRK, oRK, cRK, rfl, -, -⟩ := RK.out
  have RE := Hid.mk (RE.out.below hb)
  clear ho hb
  have y5 := blk_cell BX.out 5
  simp only [List.getElem?_toArray, List.getElem?_cons_zero, List.getElem?_cons_succ] at y5
  go_wp2_with fail
  clear y5
  refine (Print.decimal i.lo _ (by omega) (by omega)).mono ?_
  rintro e w2lo ⟨vl, rfl, ho, hb⟩
  have HB := Hid.mk (below_then HB.out hb)
  have BX := Hid.mk (blk_below BX.out hb)
  have RL := Hid.mk (own_rt ho (Print.itoa_pos i.lo))
  obtain ⟨gRL, oRL, cRL, rfl, -, -⟩ := RL.out
  have RE := Hid.mk (RE.out.below hb)
  have RK := Hid.mk (RK.out.below hb)
  clear ho hb
  have y6 := blk_cell BX.out 6
  simp only [List.getElem?_toArray, List.getElem?_cons_zero, List.getElem?_cons_succ] at y6
  go_wp2_with fail
  clear y6
  refine (Print.decimal i.hi _ (by omega) (by omega)).mono ?_
  rintro e w2hi ⟨vh, rfl, ho, hb⟩
  have HB := Hid.mk (below_then HB.out hb)
  have BX := Hid.mk (blk_below BX.out hb)
  have RH := Hid.mk (own_rt ho (Print.itoa_pos i.hi))
  obtain ⟨gRH, oRH, cRH, rfl, -, -⟩ := RH.out
  have RE := Hid.mk (RE.out.below hb)
  have RK := Hid.mk (RK.out.below hb)
  have RL := Hid.mk (RL.out.below hb)
  clear ho hb
  go_upto_region 8 with fail
  obtain ⟨W, hW⟩ : ∃ W, W = (((w2hi.alloc (.cells #[.int .u8 59, .int .u8 10] 5 (2, 2 + 1))).alloc (.cells #[.int .u8 32, .int .u8 105, .int .u8 110, .int .u8 32] 5 (4, 4 + 1))).alloc (.cells #[.int .u8 32, .int .u8 46, .int .u8 46, .int .u8 32] 5 (4, 4 + 1))) := ⟨_, rfl⟩
  have hb3 : Hid (Below w2hi.heap.size w2hi W) := by unfold Hid; rw [hW]; exact below3 _ _ _ _
  have HB := Hid.mk (below_then HB.out hb3.out)
  have BX := Hid.mk (blk_below BX.out hb3.out)
  have RE := Hid.mk (RE.out.below hb3.out)
  have RK := Hid.mk (RK.out.below hb3.out)
  have RL := Hid.mk (RL.out.below hb3.out)
  have RH := Hid.mk (RH.out.below hb3.out)
  have RX : Hid (Rt W (.slice (some ⟨w2hi.heap.size, 0, none⟩) 2 2) [59, 10]) := by unfold Hid; rw [hW]; exact lit_rt [59, 10] 2 _ _ rfl (blk_w3 _ _ _)
  have RI : Hid (Rt W (.slice (some ⟨w2hi.heap.size + 1, 0, none⟩) 4 4) [32, 105, 110, 32]) := by unfold Hid; rw [hW]; exact lit_rt [32, 105, 110, 32] 4 _ _ rfl (blk_alloc (blk_new1 _ _ _) _)
  have RT : Hid (Rt W (.slice (some ⟨w2hi.heap.size + 1 + 1, 0, none⟩) 4 4) [32, 46, 46, 32]) := by unfold Hid; rw [hW]; exact lit_rt [32, 46, 46, 32] 4 _ _ rfl (blk_new2 _ _ _ _)
  rw [← hW]
  clear hW hb3
  have y0 := blk_cell BX.out 0
  have y1 := blk_cell BX.out 1
  have y3 := blk_cell BX.out 3
  have y4 := blk_cell BX.out 4
  have y5 := blk_cell BX.out 5
  simp only [List.getElem?_toArray, List.getElem?_cons_zero, List.getElem?_cons_succ] at y0 y1 y3 y4 y5
  go_wp2_with fail
  clear y0 y1 y3 y4 y5
  refine (glueL _ [[115, 117, 109, 32], tE.txt, [32, 102, 114, 111, 109, 32], Lib.itoa i.K, [32, 105, 110, 32], Lib.itoa i.lo, [32, 46, 46, 32], Lib.itoa i.hi, [59, 10]] _ _ _ _ _ _ rfl (blk_new2 W _ _ _) ?rts (by simp) (by intro s hs; simp only [List.mem_cons, List.not_mem_nil, or_false] at hs; rcases hs with rfl | rfl | rfl | rfl | rfl | rfl | rfl | rfl | rfl <;> (try simp only [List.length_cons, List.length_nil]) <;> omega)).mono ?_
  case rts => exact ⟨lit_rt [115, 117, 109, 32] _ _ _ rfl (blk_w3 _ _ _), RE.out.below (by go_grown), lit_rt [32, 102, 114, 111, 109, 32] _ _ _ rfl (blk_alloc (blk_new1 W _ _) _), RK.out.below (by go_grown), RI.out.below (by go_grown), RL.out.below (by go_grown), RT.out.below (by go_grown), RH.out.below (by go_grown), RX.out.below (by go_grown), trivial⟩
  rintro e w9 ⟨v9, rfl, ho, hb⟩
  have HO9 : Hid (Own w.heap.size w9 v9 [[115, 117, 109, 32], tE.txt, [32, 102, 114, 111, 109, 32], Lib.itoa i.K, [32, 105, 110, 32], Lib.itoa i.lo, [32, 46, 46, 32], Lib.itoa i.hi, [59, 10]].flatten) := Joins.ownsRow_le ho (Nat.le_trans HB.out.size (by simp only [World.size_alloc]; omega))
  have HB9 := Hid.mk (below_then HB.out (below_then (by go_grown) hb))
  clear ho hb
  go_wp2
  go_ret
  exact ⟨v9, rfl, HO9.out, HB9.out⟩
set_option maxHeartbeats 6400000 in
set_option maxRecDepth 100000 in
theorem itemS5 (X : XT) (i : It) (l : Lo) (w : World) (tE : Tr) (hE : stk i.E i.nE = some [tE]) (tF : Tr) (hF : stk i.F i.nF = some [tF]) (hK0 : -999999999 ≤ i.K) (hK1 : i.K ≤ 999999999) (hl0 : -999999999 ≤ i.lo) (hl1 : i.lo ≤ 999999999) (hh0 : -999999999 ≤ i.hi) (hh1 : i.hi ≤ 999999999) (hnE : i.nE ≤ 2000) (hnF : i.nF ≤ 2000) (hIE : SliceAt w l.aE i.nE 3 (fun j => (i.E j).cells)) (hIF : SliceAt w l.aF i.nF 3 (fun j => (i.F j).cells)) :
    Calls Tryz.prog 15 #[.agg #[.int .i64 5, .string ⟨i.n.toArray⟩, .slice l.aE i.nE l.cE, .slice l.aF i.nF l.cF, .int .i64 i.K, .int .i64 i.lo, .int .i64 i.hi]] w fun e w' => ∃ v, e = .returned v ∧ Own w.heap.size w' v [[110, 101, 118, 101, 114, 32], tE.txt, [32, 116, 104, 101, 110, 32], tF.txt, [59, 10]].flatten ∧ Below w.heap.size w w' := by
  have kc0 := fun (w : World) (C : Array Value) (n c : Nat) => Lib.run_convert_bytes_const (P := Tryz.prog) w 26 5 C n c Tryz.underlying26 Tryz.underlying5
  have kc1 : ∀ (w : World) (o0 : Obj) (C : Array Value) (n c : Nat), (convert 26 26 (.slice (some ⟨w.heap.size + 1, 0, none⟩) n c)).run Tryz.prog ((w.alloc o0).alloc (.cells C 5)) = .ok (.slice (some ⟨w.heap.size + 1, 0, none⟩) n c) ((w.alloc o0).alloc (.cells C 5 (C.size, C.size + 1))) := fun w o0 C n c => by
    have := kc0 (w.alloc o0) C n c
    simp only [World.size_alloc] at this
    exact this
  have kc2 : ∀ (w : World) (o0 o1 : Obj) (C : Array Value) (n c : Nat), (convert 26 26 (.slice (some ⟨w.heap.size + 1 + 1, 0, none⟩) n c)).run Tryz.prog (((w.alloc o0).alloc o1).alloc (.cells C 5)) = .ok (.slice (some ⟨w.heap.size + 1 + 1, 0, none⟩) n c) (((w.alloc o0).alloc o1).alloc (.cells C 5 (C.size, C.size + 1))) := fun w o0 o1 C n c => by
    have := kc0 ((w.alloc o0).alloc o1) C n c
    simp only [World.size_alloc] at this
    exact this
  have kc3 : ∀ (w : World) (o0 o1 o2 : Obj) (C : Array Value) (n c : Nat), (convert 26 26 (.slice (some ⟨w.heap.size + 1 + 1 + 1, 0, none⟩) n c)).run Tryz.prog ((((w.alloc o0).alloc o1).alloc o2).alloc (.cells C 5)) = .ok (.slice (some ⟨w.heap.size + 1 + 1 + 1, 0, none⟩) n c) ((((w.alloc o0).alloc o1).alloc o2).alloc (.cells C 5 (C.size, C.size + 1))) := fun w o0 o1 o2 C n c => by
    have := kc0 (((w.alloc o0).alloc o1).alloc o2) C n c
    simp only [World.size_alloc] at this
    exact this
  have HX := Hid.mk X
  have HIE := Hid.mk hIE
  have HIF := Hid.mk hIF
  have hB0 := Hid.mk (below_alloc' (Below.refl w.heap.size w) (.cells #[.int .i64 5, .string ⟨i.n.toArray⟩, .slice l.aE i.nE l.cE, .slice l.aF i.nF l.cF, .int .i64 i.K, .int .i64 i.lo, .int .i64 i.hi] 42))
  have BX0 := Hid.mk (blk_new w (.cells #[.int .i64 5, .string ⟨i.n.toArray⟩, .slice l.aE i.nE l.cE, .slice l.aF i.nF l.cF, .int .i64 i.K, .int .i64 i.lo, .int .i64 i.hi] 42))
  have HE := Hid.mk hE
  have hEl := tree_len hE
  clear hE
  have HF := Hid.mk hF
  have hFl := tree_len hF
  clear hF
  have hKl := itoa_len' hK0 hK1
  have hll := itoa_len' hl0 hl1
  have hhl := itoa_len' hh0 hh1
  clear X hIE hIF
  go_enter Tryz.func15, Tryz.ntmps15
  go_wp2_with fail
  refine (HX.out i.E l.aE i.nE l.cE _ (HIE.out.below hB0.out) (by omega)).mono ?_
  rintro e w1 ⟨ae, ne, ce, rfl, hb, hre⟩
  have HB := Hid.mk (below_then hB0.out hb)
  have BX := Hid.mk (blk_below BX0.out hb)
  have RE := Hid.mk (hre tE HE.out)
  clear hb hre hB0 BX0
  have y4 := blk_cell BX.out 4
  simp only [List.getElem?_toArray, List.getElem?_cons_zero, List.getElem?_cons_succ] at y4
  go_wp2_with fail
  clear y4
  refine (Print.decimal i.K _ (by omega) (by omega)).mono ?_
  rintro e w2K ⟨vk, rfl, ho, hb⟩
  have HB := Hid.mk (below_then HB.out hb)
  have BX := Hid.mk (blk_below BX.out hb)
  have RK := Hid.mk (own_rt ho (Print.itoa_pos i.K))
  obtain ⟨gRK, oRK, cRK, rfl, -, -⟩ := RK.out
  have RE := Hid.mk (RE.out.below hb)
  clear ho hb
  have y5 := blk_cell BX.out 5
  simp only [List.getElem?_toArray, List.getElem?_cons_zero, List.getElem?_cons_succ] at y5
  go_wp2_with fail
  clear y5
  refine (Print.decimal i.lo _ (by omega) (by omega)).mono ?_
  rintro e w2lo ⟨vl, rfl, ho, hb⟩
  have HB := Hid.mk (below_then HB.out hb)
  have BX := Hid.mk (blk_below BX.out hb)
  have RL := Hid.mk (own_rt ho (Print.itoa_pos i.lo))
  obtain ⟨gRL, oRL, cRL, rfl, -, -⟩ := RL.out
  have RE := Hid.mk (RE.out.below hb)
  have RK := Hid.mk (RK.out.below hb)
  clear ho hb
  have y6 := blk_cell BX.out 6
  simp only [List.getElem?_toArray, List.getElem?_cons_zero, List.getElem?_cons_succ] at y6
  go_wp2_with fail
  clear y6
  refine (Print.decimal i.hi _ (by omega) (by omega)).mono ?_
  rintro e w2hi ⟨vh, rfl, ho, hb⟩
  have HB := Hid.mk (below_then HB.out hb)
  have BX := Hid.mk (blk_below BX.out hb)
  have RH := Hid.mk (own_rt ho (Print.itoa_pos i.hi))
  obtain ⟨gRH, oRH, cRH, rfl, -, -⟩ := RH.out
  have RE := Hid.mk (RE.out.below hb)
  have RK := Hid.mk (RK.out.below hb)
  have RL := Hid.mk (RL.out.below hb)
  clear ho hb
  go_upto_region 8 with fail
  obtain ⟨W, hW⟩ : ∃ W, W = (((w2hi.alloc (.cells #[.int .u8 59, .int .u8 10] 5 (2, 2 + 1))).alloc (.cells #[.int .u8 32, .int .u8 105, .int .u8 110, .int .u8 32] 5 (4, 4 + 1))).alloc (.cells #[.int .u8 32, .int .u8 46, .int .u8 46, .int .u8 32] 5 (4, 4 + 1))) := ⟨_, rfl⟩
  have hb3 : Hid (Below w2hi.heap.size w2hi W) := by unfold Hid; rw [hW]; exact below3 _ _ _ _
  have HB := Hid.mk (below_then HB.out hb3.out)
  have BX := Hid.mk (blk_below BX.out hb3.out)
  have RE := Hid.mk (RE.out.below hb3.out)
  have RK := Hid.mk (RK.out.below hb3.out)
  have RL := Hid.mk (RL.out.below hb3.out)
  have RH := Hid.mk (RH.out.below hb3.out)
  have RX : Hid (Rt W (.slice (some ⟨w2hi.heap.size, 0, none⟩) 2 2) [59, 10]) := by unfold Hid; rw [hW]; exact lit_rt [59, 10] 2 _ _ rfl (blk_w3 _ _ _)
  have RI : Hid (Rt W (.slice (some ⟨w2hi.heap.size + 1, 0, none⟩) 4 4) [32, 105, 110, 32]) := by unfold Hid; rw [hW]; exact lit_rt [32, 105, 110, 32] 4 _ _ rfl (blk_alloc (blk_new1 _ _ _) _)
  have RT : Hid (Rt W (.slice (some ⟨w2hi.heap.size + 1 + 1, 0, none⟩) 4 4) [32, 46, 46, 32]) := by unfold Hid; rw [hW]; exact lit_rt [32, 46, 46, 32] 4 _ _ rfl (blk_new2 _ _ _ _)
  rw [← hW]
  clear hW hb3
  have y0 := blk_cell BX.out 0
  have y1 := blk_cell BX.out 1
  have y3 := blk_cell BX.out 3
  have y4 := blk_cell BX.out 4
  have y5 := blk_cell BX.out 5
  simp only [List.getElem?_toArray, List.getElem?_cons_zero, List.getElem?_cons_succ] at y0 y1 y3 y4 y5
  have u3 := fun (o o1 : Obj) => cell_alloc' (cell_alloc' y3 o) o1
  go_wp2_with fail
  clear y0 y1 y3 y4 y5
  refine (HX.out i.F l.aF i.nF l.cF _ (HIF.out.below (below_then HB.out (by go_grown))) (by omega)).mono ?_
  rintro e w5 ⟨af, nf, cf, rfl, hb, hrf⟩
  have RF := Hid.mk (hrf tF HF.out)
  have hb5 := Hid.mk (below_then (w := W) (by go_grown) hb)
  have C0 := Hid.mk (lit_rt [110, 101, 118, 101, 114, 32] 6 _ _ rfl (blk_below (blk_alloc (blk_new W _) _) hb))
  have C1 := Hid.mk (lit_rt [32, 116, 104, 101, 110, 32] 6 _ _ rfl (blk_below (blk_new1 W _ _) hb))
  have HB := Hid.mk (below_then HB.out hb5.out)
  have RE := Hid.mk (RE.out.below hb5.out)
  have RK := Hid.mk (RK.out.below hb5.out)
  have RL := Hid.mk (RL.out.below hb5.out)
  have RH := Hid.mk (RH.out.below hb5.out)
  have RX := Hid.mk (RX.out.below hb5.out)
  clear hb hrf hb5
  go_wp2_with fail
  refine (glueL _ [[110, 101, 118, 101, 114, 32], tE.txt, [32, 116, 104, 101, 110, 32], tF.txt, [59, 10]] _ _ _ _ _ _ rfl (blk_new w5 _) ?rts (by simp) (by intro s hs; simp only [List.mem_cons, List.not_mem_nil, or_false] at hs; rcases hs with rfl | rfl | rfl | rfl | rfl <;> (try simp only [List.length_cons, List.length_nil]) <;> omega)).mono ?_
  case rts => exact ⟨C0.out.below (by go_grown), RE.out.below (by go_grown), C1.out.below (by go_grown), RF.out.below (by go_grown), RX.out.below (by go_grown), trivial⟩
  rintro e w9 ⟨v9, rfl, ho, hb⟩
  have HO9 : Hid (Own w.heap.size w9 v9 [[110, 101, 118, 101, 114, 32], tE.txt, [32, 116, 104, 101, 110, 32], tF.txt, [59, 10]].flatten) := Joins.ownsRow_le ho (Nat.le_trans HB.out.size (by simp))
  have HB9 := Hid.mk (below_then HB.out (below_then (by go_grown) hb))
  clear ho hb
  go_wp2
  go_ret
  exact ⟨v9, rfl, HO9.out, HB9.out⟩
set_option maxHeartbeats 6400000 in
set_option maxRecDepth 100000 in
theorem itemS6 (X : XT) (i : It) (l : Lo) (w : World) (hK2 : 0 ≤ i.K) (hK3 : i.K ≤ 15) (hl2 : 0 ≤ i.lo) (hl3 : i.lo ≤ 15) (hK0 : -999999999 ≤ i.K) (hK1 : i.K ≤ 999999999) (hl0 : -999999999 ≤ i.lo) (hl1 : i.lo ≤ 999999999) (hh0 : -999999999 ≤ i.hi) (hh1 : i.hi ≤ 999999999) (hnE : i.nE ≤ 2000) (hnF : i.nF ≤ 2000) (hIE : SliceAt w l.aE i.nE 3 (fun j => (i.E j).cells)) (hIF : SliceAt w l.aF i.nF 3 (fun j => (i.F j).cells)) :
    Calls Tryz.prog 15 #[.agg #[.int .i64 6, .string ⟨i.n.toArray⟩, .slice l.aE i.nE l.cE, .slice l.aF i.nF l.cF, .int .i64 i.K, .int .i64 i.lo, .int .i64 i.hi]] w fun e w' => ∃ v, e = .returned v ∧ Own w.heap.size w' v [[97, 112, 97, 114, 116, 32], [tagB i.K], [32], [tagB i.lo], [59, 10]].flatten ∧ Below w.heap.size w w' := by
  have kc0 := fun (w : World) (C : Array Value) (n c : Nat) => Lib.run_convert_bytes_const (P := Tryz.prog) w 26 5 C n c Tryz.underlying26 Tryz.underlying5
  have kc1 : ∀ (w : World) (o0 : Obj) (C : Array Value) (n c : Nat), (convert 26 26 (.slice (some ⟨w.heap.size + 1, 0, none⟩) n c)).run Tryz.prog ((w.alloc o0).alloc (.cells C 5)) = .ok (.slice (some ⟨w.heap.size + 1, 0, none⟩) n c) ((w.alloc o0).alloc (.cells C 5 (C.size, C.size + 1))) := fun w o0 C n c => by
    have := kc0 (w.alloc o0) C n c
    simp only [World.size_alloc] at this
    exact this
  have kc2 : ∀ (w : World) (o0 o1 : Obj) (C : Array Value) (n c : Nat), (convert 26 26 (.slice (some ⟨w.heap.size + 1 + 1, 0, none⟩) n c)).run Tryz.prog (((w.alloc o0).alloc o1).alloc (.cells C 5)) = .ok (.slice (some ⟨w.heap.size + 1 + 1, 0, none⟩) n c) (((w.alloc o0).alloc o1).alloc (.cells C 5 (C.size, C.size + 1))) := fun w o0 o1 C n c => by
    have := kc0 ((w.alloc o0).alloc o1) C n c
    simp only [World.size_alloc] at this
    exact this
  have kc3 : ∀ (w : World) (o0 o1 o2 : Obj) (C : Array Value) (n c : Nat), (convert 26 26 (.slice (some ⟨w.heap.size + 1 + 1 + 1, 0, none⟩) n c)).run Tryz.prog ((((w.alloc o0).alloc o1).alloc o2).alloc (.cells C 5)) = .ok (.slice (some ⟨w.heap.size + 1 + 1 + 1, 0, none⟩) n c) ((((w.alloc o0).alloc o1).alloc o2).alloc (.cells C 5 (C.size, C.size + 1))) := fun w o0 o1 o2 C n c => by
    have := kc0 (((w.alloc o0).alloc o1).alloc o2) C n c
    simp only [World.size_alloc] at this
    exact this
  have HX := Hid.mk X
  have HIE := Hid.mk hIE
  have HIF := Hid.mk hIF
  have hB0 := Hid.mk (below_alloc' (Below.refl w.heap.size w) (.cells #[.int .i64 6, .string ⟨i.n.toArray⟩, .slice l.aE i.nE l.cE, .slice l.aF i.nF l.cF, .int .i64 i.K, .int .i64 i.lo, .int .i64 i.hi] 42))
  have BX0 := Hid.mk (blk_new w (.cells #[.int .i64 6, .string ⟨i.n.toArray⟩, .slice l.aE i.nE l.cE, .slice l.aF i.nF l.cF, .int .i64 i.K, .int .i64 i.lo, .int .i64 i.hi] 42))
  have hKl := itoa_len' hK0 hK1
  have hll := itoa_len' hl0 hl1
  have hhl := itoa_len' hh0 hh1
  clear X hIE hIF
  go_enter Tryz.func15, Tryz.ntmps15
  go_wp2_with fail
  refine (HX.out i.E l.aE i.nE l.cE _ (HIE.out.below hB0.out) (by omega)).mono ?_
  rintro e w1 ⟨ae, ne, ce, rfl, hb, hre⟩
  have HB := Hid.mk (below_then hB0.out hb)
  have BX := Hid.mk (blk_below BX0.out hb)
  skip
  clear hb hre hB0 BX0
  have y4 := blk_cell BX.out 4
  simp only [List.getElem?_toArray, List.getElem?_cons_zero, List.getElem?_cons_succ] at y4
  go_wp2_with fail
  clear y4
  refine (Print.decimal i.K _ (by omega) (by omega)).mono ?_
  rintro e w2K ⟨vk, rfl, ho, hb⟩
  have HB := Hid.mk (below_then HB.out hb)
  have BX := Hid.mk (blk_below BX.out hb)
  have RK := Hid.mk (own_rt ho (Print.itoa_pos i.K))
  obtain ⟨gRK, oRK, cRK, rfl, -, -⟩ := RK.out
  clear ho hb
  have y5 := blk_cell BX.out 5
  simp only [List.getElem?_toArray, List.getElem?_cons_zero, List.getElem?_cons_succ] at y5
  go_wp2_with fail
  clear y5
  refine (Print.decimal i.lo _ (by omega) (by omega)).mono ?_
  rintro e w2lo ⟨vl, rfl, ho, hb⟩
  have HB := Hid.mk (below_then HB.out hb)
  have BX := Hid.mk (blk_below BX.out hb)
  have RL := Hid.mk (own_rt ho (Print.itoa_pos i.lo))
  obtain ⟨gRL, oRL, cRL, rfl, -, -⟩ := RL.out
  have RK := Hid.mk (RK.out.below hb)
  clear ho hb
  have y6 := blk_cell BX.out 6
  simp only [List.getElem?_toArray, List.getElem?_cons_zero, List.getElem?_cons_succ] at y6
  go_wp2_with fail
  clear y6
  refine (Print.decimal i.hi _ (by omega) (by omega)).mono ?_
  rintro e w2hi ⟨vh, rfl, ho, hb⟩
  have HB := Hid.mk (below_then HB.out hb)
  have BX := Hid.mk (blk_below BX.out hb)
  have RH := Hid.mk (own_rt ho (Print.itoa_pos i.hi))
  obtain ⟨gRH, oRH, cRH, rfl, -, -⟩ := RH.out
  have RK := Hid.mk (RK.out.below hb)
  have RL := Hid.mk (RL.out.below hb)
  clear ho hb
  go_upto_region 8 with fail
  obtain ⟨W, hW⟩ : ∃ W, W = (((w2hi.alloc (.cells #[.int .u8 59, .int .u8 10] 5 (2, 2 + 1))).alloc (.cells #[.int .u8 32, .int .u8 105, .int .u8 110, .int .u8 32] 5 (4, 4 + 1))).alloc (.cells #[.int .u8 32, .int .u8 46, .int .u8 46, .int .u8 32] 5 (4, 4 + 1))) := ⟨_, rfl⟩
  have hb3 : Hid (Below w2hi.heap.size w2hi W) := by unfold Hid; rw [hW]; exact below3 _ _ _ _
  have HB := Hid.mk (below_then HB.out hb3.out)
  have BX := Hid.mk (blk_below BX.out hb3.out)
  have RK := Hid.mk (RK.out.below hb3.out)
  have RL := Hid.mk (RL.out.below hb3.out)
  have RH := Hid.mk (RH.out.below hb3.out)
  have RX : Hid (Rt W (.slice (some ⟨w2hi.heap.size, 0, none⟩) 2 2) [59, 10]) := by unfold Hid; rw [hW]; exact lit_rt [59, 10] 2 _ _ rfl (blk_w3 _ _ _)
  have RI : Hid (Rt W (.slice (some ⟨w2hi.heap.size + 1, 0, none⟩) 4 4) [32, 105, 110, 32]) := by unfold Hid; rw [hW]; exact lit_rt [32, 105, 110, 32] 4 _ _ rfl (blk_alloc (blk_new1 _ _ _) _)
  have RT : Hid (Rt W (.slice (some ⟨w2hi.heap.size + 1 + 1, 0, none⟩) 4 4) [32, 46, 46, 32]) := by unfold Hid; rw [hW]; exact lit_rt [32, 46, 46, 32] 4 _ _ rfl (blk_new2 _ _ _ _)
  rw [← hW]
  clear hW hb3
  have y0 := blk_cell BX.out 0
  have y1 := blk_cell BX.out 1
  have y3 := blk_cell BX.out 3
  have y4 := blk_cell BX.out 4
  have y5 := blk_cell BX.out 5
  simp only [List.getElem?_toArray, List.getElem?_cons_zero, List.getElem?_cons_succ] at y0 y1 y3 y4 y5
  have u4 := fun (o : Obj) => cell_alloc' y4 o
  have u5 := fun (o o1 o2 : Obj) => cell_alloc' (cell_alloc' (cell_alloc' y5 o) o1) o2
  go_wp2_with fail
  clear y0 y1 y3 y4 y5
  refine (glueL _ [[97, 112, 97, 114, 116, 32], [tagB i.K], [32], [tagB i.lo], [59, 10]] _ _ _ _ _ _ rfl (nb4 W _ _ _ _ _) ?rts (by simp) (by intro s hs; simp only [List.mem_cons, List.not_mem_nil, or_false] at hs; rcases hs with rfl | rfl | rfl | rfl | rfl <;> (try simp only [List.length_cons, List.length_nil]) <;> omega)).mono ?_
  case rts => exact ⟨lit_rt [97, 112, 97, 114, 116, 32] _ _ _ rfl (blk_alloc (blk_alloc (blk_w3 _ _ _) _) _), lit_rt [tagB i.K] _ _ _ (by simp [Lib.byteCells, tagS_nat hK2 hK3]) (blk_alloc (blk_alloc (blk_alloc (blk_new1 W _ _) _) _) _), lit_rt [32] _ _ _ rfl (blk_alloc (blk_alloc (blk_new2 W _ _ _) _) _), lit_rt [tagB i.lo] _ _ _ (by simp [Lib.byteCells, tagS_nat hl2 hl3]) (blk_alloc (nb3 W _ _ _ _) _), RX.out.below (by go_grown), trivial⟩
  rintro e w9 ⟨v9, rfl, ho, hb⟩
  have HO9 : Hid (Own w.heap.size w9 v9 [[97, 112, 97, 114, 116, 32], [tagB i.K], [32], [tagB i.lo], [59, 10]].flatten) := Joins.ownsRow_le ho (Nat.le_trans HB.out.size (by simp only [World.size_alloc]; omega))
  have HB9 := Hid.mk (below_then HB.out (below_then (by go_grown) hb))
  clear ho hb
  go_wp2
  go_ret
  exact ⟨v9, rfl, HO9.out, HB9.out⟩
set_option maxHeartbeats 6400000 in
set_option maxRecDepth 100000 in
theorem itemS7 (X : XT) (i : It) (l : Lo) (w : World) (hK0 : -999999999 ≤ i.K) (hK1 : i.K ≤ 999999999) (hl0 : -999999999 ≤ i.lo) (hl1 : i.lo ≤ 999999999) (hh0 : -999999999 ≤ i.hi) (hh1 : i.hi ≤ 999999999) (hnE : i.nE ≤ 2000) (hnF : i.nF ≤ 2000) (hIE : SliceAt w l.aE i.nE 3 (fun j => (i.E j).cells)) (hIF : SliceAt w l.aF i.nF 3 (fun j => (i.F j).cells)) :
    Calls Tryz.prog 15 #[.agg #[.int .i64 7, .string ⟨i.n.toArray⟩, .slice l.aE i.nE l.cE, .slice l.aF i.nF l.cF, .int .i64 i.K, .int .i64 i.lo, .int .i64 i.hi]] w fun e w' => ∃ v, e = .returned v ∧ Own w.heap.size w' v [[108, 105, 102, 111, 32], Lib.itoa i.K, [59, 10]].flatten ∧ Below w.heap.size w w' := by
  have kc0 := fun (w : World) (C : Array Value) (n c : Nat) => Lib.run_convert_bytes_const (P := Tryz.prog) w 26 5 C n c Tryz.underlying26 Tryz.underlying5
  have kc1 : ∀ (w : World) (o0 : Obj) (C : Array Value) (n c : Nat), (convert 26 26 (.slice (some ⟨w.heap.size + 1, 0, none⟩) n c)).run Tryz.prog ((w.alloc o0).alloc (.cells C 5)) = .ok (.slice (some ⟨w.heap.size + 1, 0, none⟩) n c) ((w.alloc o0).alloc (.cells C 5 (C.size, C.size + 1))) := fun w o0 C n c => by
    have := kc0 (w.alloc o0) C n c
    simp only [World.size_alloc] at this
    exact this
  have kc2 : ∀ (w : World) (o0 o1 : Obj) (C : Array Value) (n c : Nat), (convert 26 26 (.slice (some ⟨w.heap.size + 1 + 1, 0, none⟩) n c)).run Tryz.prog (((w.alloc o0).alloc o1).alloc (.cells C 5)) = .ok (.slice (some ⟨w.heap.size + 1 + 1, 0, none⟩) n c) (((w.alloc o0).alloc o1).alloc (.cells C 5 (C.size, C.size + 1))) := fun w o0 o1 C n c => by
    have := kc0 ((w.alloc o0).alloc o1) C n c
    simp only [World.size_alloc] at this
    exact this
  have kc3 : ∀ (w : World) (o0 o1 o2 : Obj) (C : Array Value) (n c : Nat), (convert 26 26 (.slice (some ⟨w.heap.size + 1 + 1 + 1, 0, none⟩) n c)).run Tryz.prog ((((w.alloc o0).alloc o1).alloc o2).alloc (.cells C 5)) = .ok (.slice (some ⟨w.heap.size + 1 + 1 + 1, 0, none⟩) n c) ((((w.alloc o0).alloc o1).alloc o2).alloc (.cells C 5 (C.size, C.size + 1))) := fun w o0 o1 o2 C n c => by
    have := kc0 (((w.alloc o0).alloc o1).alloc o2) C n c
    simp only [World.size_alloc] at this
    exact this
  have HX := Hid.mk X
  have HIE := Hid.mk hIE
  have HIF := Hid.mk hIF
  have hB0 := Hid.mk (below_alloc' (Below.refl w.heap.size w) (.cells #[.int .i64 7, .string ⟨i.n.toArray⟩, .slice l.aE i.nE l.cE, .slice l.aF i.nF l.cF, .int .i64 i.K, .int .i64 i.lo, .int .i64 i.hi] 42))
  have BX0 := Hid.mk (blk_new w (.cells #[.int .i64 7, .string ⟨i.n.toArray⟩, .slice l.aE i.nE l.cE, .slice l.aF i.nF l.cF, .int .i64 i.K, .int .i64 i.lo, .int .i64 i.hi] 42))
  have hKl := itoa_len' hK0 hK1
  have hll := itoa_len' hl0 hl1
  have hhl := itoa_len' hh0 hh1
  clear X hIE hIF
  go_enter Tryz.func15, Tryz.ntmps15
  go_wp2_with fail
  refine (HX.out i.E l.aE i.nE l.cE _ (HIE.out.below hB0.out) (by omega)).mono ?_
  rintro e w1 ⟨ae, ne, ce, rfl, hb, hre⟩
  have HB := Hid.mk (below_then hB0.out hb)
  have BX := Hid.mk (blk_below BX0.out hb)
  skip
  clear hb hre hB0 BX0
  have y4 := blk_cell BX.out 4
  simp only [List.getElem?_toArray, List.getElem?_cons_zero, List.getElem?_cons_succ] at y4
  go_wp2_with fail
  clear y4
  refine (Print.decimal i.K _ (by omega) (by omega)).mono ?_
  rintro e w2K ⟨vk, rfl, ho, hb⟩
  have HB := Hid.mk (below_then HB.out hb)
  have BX := Hid.mk (blk_below BX.out hb)
  have RK := Hid.mk (own_rt ho (Print.itoa_pos i.K))
  obtain ⟨gRK, oRK, cRK, rfl, -, -⟩ := RK.out
  clear ho hb
  have y5 := blk_cell BX.out 5
  simp only [List.getElem?_toArray, List.getElem?_cons_zero, List.getElem?_cons_succ] at y5
  go_wp2_with fail
  clear y5
  refine (Print.decimal i.lo _ (by omega) (by omega)).mono ?_
  rintro e w2lo ⟨vl, rfl, ho, hb⟩
  have HB := Hid.mk (below_then HB.out hb)
  have BX := Hid.mk (blk_below BX.out hb)
  have RL := Hid.mk (own_rt ho (Print.itoa_pos i.lo))
  obtain ⟨gRL, oRL, cRL, rfl, -, -⟩ := RL.out
  have RK := Hid.mk (RK.out.below hb)
  clear ho hb
  have y6 := blk_cell BX.out 6
  simp only [List.getElem?_toArray, List.getElem?_cons_zero, List.getElem?_cons_succ] at y6
  go_wp2_with fail
  clear y6
  refine (Print.decimal i.hi _ (by omega) (by omega)).mono ?_
  rintro e w2hi ⟨vh, rfl, ho, hb⟩
  have HB := Hid.mk (below_then HB.out hb)
  have BX := Hid.mk (blk_below BX.out hb)
  have RH := Hid.mk (own_rt ho (Print.itoa_pos i.hi))
  obtain ⟨gRH, oRH, cRH, rfl, -, -⟩ := RH.out
  have RK := Hid.mk (RK.out.below hb)
  have RL := Hid.mk (RL.out.below hb)
  clear ho hb
  go_upto_region 8 with fail
  obtain ⟨W, hW⟩ : ∃ W, W = (((w2hi.alloc (.cells #[.int .u8 59, .int .u8 10] 5 (2, 2 + 1))).alloc (.cells #[.int .u8 32, .int .u8 105, .int .u8 110, .int .u8 32] 5 (4, 4 + 1))).alloc (.cells #[.int .u8 32, .int .u8 46, .int .u8 46, .int .u8 32] 5 (4, 4 + 1))) := ⟨_, rfl⟩
  have hb3 : Hid (Below w2hi.heap.size w2hi W) := by unfold Hid; rw [hW]; exact below3 _ _ _ _
  have HB := Hid.mk (below_then HB.out hb3.out)
  have BX := Hid.mk (blk_below BX.out hb3.out)
  have RK := Hid.mk (RK.out.below hb3.out)
  have RL := Hid.mk (RL.out.below hb3.out)
  have RH := Hid.mk (RH.out.below hb3.out)
  have RX : Hid (Rt W (.slice (some ⟨w2hi.heap.size, 0, none⟩) 2 2) [59, 10]) := by unfold Hid; rw [hW]; exact lit_rt [59, 10] 2 _ _ rfl (blk_w3 _ _ _)
  have RI : Hid (Rt W (.slice (some ⟨w2hi.heap.size + 1, 0, none⟩) 4 4) [32, 105, 110, 32]) := by unfold Hid; rw [hW]; exact lit_rt [32, 105, 110, 32] 4 _ _ rfl (blk_alloc (blk_new1 _ _ _) _)
  have RT : Hid (Rt W (.slice (some ⟨w2hi.heap.size + 1 + 1, 0, none⟩) 4 4) [32, 46, 46, 32]) := by unfold Hid; rw [hW]; exact lit_rt [32, 46, 46, 32] 4 _ _ rfl (blk_new2 _ _ _ _)
  rw [← hW]
  clear hW hb3
  have y0 := blk_cell BX.out 0
  have y1 := blk_cell BX.out 1
  have y3 := blk_cell BX.out 3
  have y4 := blk_cell BX.out 4
  have y5 := blk_cell BX.out 5
  simp only [List.getElem?_toArray, List.getElem?_cons_zero, List.getElem?_cons_succ] at y0 y1 y3 y4 y5
  go_wp2_with fail
  clear y0 y1 y3 y4 y5
  refine (glueL _ [[108, 105, 102, 111, 32], Lib.itoa i.K, [59, 10]] _ _ _ _ _ _ rfl (blk_new1 W _ _) ?rts (by simp) (by intro s hs; simp only [List.mem_cons, List.not_mem_nil, or_false] at hs; rcases hs with rfl | rfl | rfl <;> (try simp only [List.length_cons, List.length_nil]) <;> omega)).mono ?_
  case rts => exact ⟨lit_rt [108, 105, 102, 111, 32] _ _ _ rfl (blk_alloc (blk_new W _) _), RK.out.below (by go_grown), RX.out.below (by go_grown), trivial⟩
  rintro e w9 ⟨v9, rfl, ho, hb⟩
  have HO9 : Hid (Own w.heap.size w9 v9 [[108, 105, 102, 111, 32], Lib.itoa i.K, [59, 10]].flatten) := Joins.ownsRow_le ho (Nat.le_trans HB.out.size (by simp only [World.size_alloc]; omega))
  have HB9 := Hid.mk (below_then HB.out (below_then (by go_grown) hb))
  clear ho hb
  go_wp2
  go_ret
  exact ⟨v9, rfl, HO9.out, HB9.out⟩
set_option maxHeartbeats 6400000 in
set_option maxRecDepth 100000 in
theorem itemS8 (X : XT) (i : It) (l : Lo) (w : World) (tE : Tr) (hE : stk i.E i.nE = some [tE]) (hK0 : -999999999 ≤ i.K) (hK1 : i.K ≤ 999999999) (hl0 : -999999999 ≤ i.lo) (hl1 : i.lo ≤ 999999999) (hh0 : -999999999 ≤ i.hi) (hh1 : i.hi ≤ 999999999) (hnE : i.nE ≤ 2000) (hnF : i.nF ≤ 2000) (hIE : SliceAt w l.aE i.nE 3 (fun j => (i.E j).cells)) (hIF : SliceAt w l.aF i.nF 3 (fun j => (i.F j).cells)) :
    Calls Tryz.prog 15 #[.agg #[.int .i64 8, .string ⟨i.n.toArray⟩, .slice l.aE i.nE l.cE, .slice l.aF i.nF l.cF, .int .i64 i.K, .int .i64 i.lo, .int .i64 i.hi]] w fun e w' => ∃ v, e = .returned v ∧ Own w.heap.size w' v [[114, 105, 100, 101, 32], tE.txt, [32, 105, 110, 32], Lib.itoa i.lo, [32, 46, 46, 32], Lib.itoa i.hi, [59, 10]].flatten ∧ Below w.heap.size w w' := by
  have kc0 := fun (w : World) (C : Array Value) (n c : Nat) => Lib.run_convert_bytes_const (P := Tryz.prog) w 26 5 C n c Tryz.underlying26 Tryz.underlying5
  have kc1 : ∀ (w : World) (o0 : Obj) (C : Array Value) (n c : Nat), (convert 26 26 (.slice (some ⟨w.heap.size + 1, 0, none⟩) n c)).run Tryz.prog ((w.alloc o0).alloc (.cells C 5)) = .ok (.slice (some ⟨w.heap.size + 1, 0, none⟩) n c) ((w.alloc o0).alloc (.cells C 5 (C.size, C.size + 1))) := fun w o0 C n c => by
    have := kc0 (w.alloc o0) C n c
    simp only [World.size_alloc] at this
    exact this
  have kc2 : ∀ (w : World) (o0 o1 : Obj) (C : Array Value) (n c : Nat), (convert 26 26 (.slice (some ⟨w.heap.size + 1 + 1, 0, none⟩) n c)).run Tryz.prog (((w.alloc o0).alloc o1).alloc (.cells C 5)) = .ok (.slice (some ⟨w.heap.size + 1 + 1, 0, none⟩) n c) (((w.alloc o0).alloc o1).alloc (.cells C 5 (C.size, C.size + 1))) := fun w o0 o1 C n c => by
    have := kc0 ((w.alloc o0).alloc o1) C n c
    simp only [World.size_alloc] at this
    exact this
  have kc3 : ∀ (w : World) (o0 o1 o2 : Obj) (C : Array Value) (n c : Nat), (convert 26 26 (.slice (some ⟨w.heap.size + 1 + 1 + 1, 0, none⟩) n c)).run Tryz.prog ((((w.alloc o0).alloc o1).alloc o2).alloc (.cells C 5)) = .ok (.slice (some ⟨w.heap.size + 1 + 1 + 1, 0, none⟩) n c) ((((w.alloc o0).alloc o1).alloc o2).alloc (.cells C 5 (C.size, C.size + 1))) := fun w o0 o1 o2 C n c => by
    have := kc0 (((w.alloc o0).alloc o1).alloc o2) C n c
    simp only [World.size_alloc] at this
    exact this
  have HX := Hid.mk X
  have HIE := Hid.mk hIE
  have HIF := Hid.mk hIF
  have hB0 := Hid.mk (below_alloc' (Below.refl w.heap.size w) (.cells #[.int .i64 8, .string ⟨i.n.toArray⟩, .slice l.aE i.nE l.cE, .slice l.aF i.nF l.cF, .int .i64 i.K, .int .i64 i.lo, .int .i64 i.hi] 42))
  have BX0 := Hid.mk (blk_new w (.cells #[.int .i64 8, .string ⟨i.n.toArray⟩, .slice l.aE i.nE l.cE, .slice l.aF i.nF l.cF, .int .i64 i.K, .int .i64 i.lo, .int .i64 i.hi] 42))
  have HE := Hid.mk hE
  have hEl := tree_len hE
  clear hE
  have hKl := itoa_len' hK0 hK1
  have hll := itoa_len' hl0 hl1
  have hhl := itoa_len' hh0 hh1
  clear X hIE hIF
  go_enter Tryz.func15, Tryz.ntmps15
  go_wp2_with fail
  refine (HX.out i.E l.aE i.nE l.cE _ (HIE.out.below hB0.out) (by omega)).mono ?_
  rintro e w1 ⟨ae, ne, ce, rfl, hb, hre⟩
  have HB := Hid.mk (below_then hB0.out hb)
  have BX := Hid.mk (blk_below BX0.out hb)
  have RE := Hid.mk (hre tE HE.out)
  clear hb hre hB0 BX0
  have y4 := blk_cell BX.out 4
  simp only [List.getElem?_toArray, List.getElem?_cons_zero, List.getElem?_cons_succ] at y4
  go_wp2_with fail
  clear y4
  refine (Print.decimal i.K _ (by omega) (by omega)).mono ?_
  rintro e w2K ⟨vk, rfl, ho, hb⟩
  have HB := Hid.mk (below_then HB.out hb)
  have BX := Hid.mk (blk_below BX.out hb)
  have RK := Hid.mk (own_rt ho (Print.itoa_pos i.K))
  obtain ⟨gRK, oRK, cRK, rfl, -, -⟩ := RK.out
  have RE := Hid.mk (RE.out.below hb)
  clear ho hb
  have y5 := blk_cell BX.out 5
  simp only [List.getElem?_toArray, List.getElem?_cons_zero, List.getElem?_cons_succ] at y5
  go_wp2_with fail
  clear y5
  refine (Print.decimal i.lo _ (by omega) (by omega)).mono ?_
  rintro e w2lo ⟨vl, rfl, ho, hb⟩
  have HB := Hid.mk (below_then HB.out hb)
  have BX := Hid.mk (blk_below BX.out hb)
  have RL := Hid.mk (own_rt ho (Print.itoa_pos i.lo))
  obtain ⟨gRL, oRL, cRL, rfl, -, -⟩ := RL.out
  have RE := Hid.mk (RE.out.below hb)
  have RK := Hid.mk (RK.out.below hb)
  clear ho hb
  have y6 := blk_cell BX.out 6
  simp only [List.getElem?_toArray, List.getElem?_cons_zero, List.getElem?_cons_succ] at y6
  go_wp2_with fail
  clear y6
  refine (Print.decimal i.hi _ (by omega) (by omega)).mono ?_
  rintro e w2hi ⟨vh, rfl, ho, hb⟩
  have HB := Hid.mk (below_then HB.out hb)
  have BX := Hid.mk (blk_below BX.out hb)
  have RH := Hid.mk (own_rt ho (Print.itoa_pos i.hi))
  obtain ⟨gRH, oRH, cRH, rfl, -, -⟩ := RH.out
  have RE := Hid.mk (RE.out.below hb)
  have RK := Hid.mk (RK.out.below hb)
  have RL := Hid.mk (RL.out.below hb)
  clear ho hb
  go_upto_region 8 with fail
  obtain ⟨W, hW⟩ : ∃ W, W = (((w2hi.alloc (.cells #[.int .u8 59, .int .u8 10] 5 (2, 2 + 1))).alloc (.cells #[.int .u8 32, .int .u8 105, .int .u8 110, .int .u8 32] 5 (4, 4 + 1))).alloc (.cells #[.int .u8 32, .int .u8 46, .int .u8 46, .int .u8 32] 5 (4, 4 + 1))) := ⟨_, rfl⟩
  have hb3 : Hid (Below w2hi.heap.size w2hi W) := by unfold Hid; rw [hW]; exact below3 _ _ _ _
  have HB := Hid.mk (below_then HB.out hb3.out)
  have BX := Hid.mk (blk_below BX.out hb3.out)
  have RE := Hid.mk (RE.out.below hb3.out)
  have RK := Hid.mk (RK.out.below hb3.out)
  have RL := Hid.mk (RL.out.below hb3.out)
  have RH := Hid.mk (RH.out.below hb3.out)
  have RX : Hid (Rt W (.slice (some ⟨w2hi.heap.size, 0, none⟩) 2 2) [59, 10]) := by unfold Hid; rw [hW]; exact lit_rt [59, 10] 2 _ _ rfl (blk_w3 _ _ _)
  have RI : Hid (Rt W (.slice (some ⟨w2hi.heap.size + 1, 0, none⟩) 4 4) [32, 105, 110, 32]) := by unfold Hid; rw [hW]; exact lit_rt [32, 105, 110, 32] 4 _ _ rfl (blk_alloc (blk_new1 _ _ _) _)
  have RT : Hid (Rt W (.slice (some ⟨w2hi.heap.size + 1 + 1, 0, none⟩) 4 4) [32, 46, 46, 32]) := by unfold Hid; rw [hW]; exact lit_rt [32, 46, 46, 32] 4 _ _ rfl (blk_new2 _ _ _ _)
  rw [← hW]
  clear hW hb3
  have y0 := blk_cell BX.out 0
  have y1 := blk_cell BX.out 1
  have y3 := blk_cell BX.out 3
  have y4 := blk_cell BX.out 4
  have y5 := blk_cell BX.out 5
  simp only [List.getElem?_toArray, List.getElem?_cons_zero, List.getElem?_cons_succ] at y0 y1 y3 y4 y5
  go_wp2_with fail
  clear y0 y1 y3 y4 y5
  refine (glueL _ [[114, 105, 100, 101, 32], tE.txt, [32, 105, 110, 32], Lib.itoa i.lo, [32, 46, 46, 32], Lib.itoa i.hi, [59, 10]] _ _ _ _ _ _ rfl (blk_new1 W _ _) ?rts (by simp) (by intro s hs; simp only [List.mem_cons, List.not_mem_nil, or_false] at hs; rcases hs with rfl | rfl | rfl | rfl | rfl | rfl | rfl <;> (try simp only [List.length_cons, List.length_nil]) <;> omega)).mono ?_
  case rts => exact ⟨lit_rt [114, 105, 100, 101, 32] _ _ _ rfl (blk_alloc (blk_new W _) _), RE.out.below (by go_grown), RI.out.below (by go_grown), RL.out.below (by go_grown), RT.out.below (by go_grown), RH.out.below (by go_grown), RX.out.below (by go_grown), trivial⟩
  rintro e w9 ⟨v9, rfl, ho, hb⟩
  have HO9 : Hid (Own w.heap.size w9 v9 [[114, 105, 100, 101, 32], tE.txt, [32, 105, 110, 32], Lib.itoa i.lo, [32, 46, 46, 32], Lib.itoa i.hi, [59, 10]].flatten) := Joins.ownsRow_le ho (Nat.le_trans HB.out.size (by simp only [World.size_alloc]; omega))
  have HB9 := Hid.mk (below_then HB.out (below_then (by go_grown) hb))
  clear ho hb
  go_wp2
  go_ret
  exact ⟨v9, rfl, HO9.out, HB9.out⟩
set_option maxHeartbeats 6400000 in
set_option maxRecDepth 100000 in
theorem itemS9 (X : XT) (i : It) (l : Lo) (w : World) (tE : Tr) (hE : stk i.E i.nE = some [tE]) (hK0 : -999999999 ≤ i.K) (hK1 : i.K ≤ 999999999) (hl0 : -999999999 ≤ i.lo) (hl1 : i.lo ≤ 999999999) (hh0 : -999999999 ≤ i.hi) (hh1 : i.hi ≤ 999999999) (hnE : i.nE ≤ 2000) (hnF : i.nF ≤ 2000) (hIE : SliceAt w l.aE i.nE 3 (fun j => (i.E j).cells)) (hIF : SliceAt w l.aF i.nF 3 (fun j => (i.F j).cells)) :
    Calls Tryz.prog 15 #[.agg #[.int .i64 9, .string ⟨i.n.toArray⟩, .slice l.aE i.nE l.cE, .slice l.aF i.nF l.cF, .int .i64 i.K, .int .i64 i.lo, .int .i64 i.hi]] w fun e w' => ∃ v, e = .returned v ∧ Own w.heap.size w' v [[115, 116, 114, 101, 97, 107, 32], tE.txt, [32, 109, 111, 115, 116, 32], Lib.itoa i.K, [59, 10]].flatten ∧ Below w.heap.size w w' := by
  have kc0 := fun (w : World) (C : Array Value) (n c : Nat) => Lib.run_convert_bytes_const (P := Tryz.prog) w 26 5 C n c Tryz.underlying26 Tryz.underlying5
  have kc1 : ∀ (w : World) (o0 : Obj) (C : Array Value) (n c : Nat), (convert 26 26 (.slice (some ⟨w.heap.size + 1, 0, none⟩) n c)).run Tryz.prog ((w.alloc o0).alloc (.cells C 5)) = .ok (.slice (some ⟨w.heap.size + 1, 0, none⟩) n c) ((w.alloc o0).alloc (.cells C 5 (C.size, C.size + 1))) := fun w o0 C n c => by
    have := kc0 (w.alloc o0) C n c
    simp only [World.size_alloc] at this
    exact this
  have kc2 : ∀ (w : World) (o0 o1 : Obj) (C : Array Value) (n c : Nat), (convert 26 26 (.slice (some ⟨w.heap.size + 1 + 1, 0, none⟩) n c)).run Tryz.prog (((w.alloc o0).alloc o1).alloc (.cells C 5)) = .ok (.slice (some ⟨w.heap.size + 1 + 1, 0, none⟩) n c) (((w.alloc o0).alloc o1).alloc (.cells C 5 (C.size, C.size + 1))) := fun w o0 o1 C n c => by
    have := kc0 ((w.alloc o0).alloc o1) C n c
    simp only [World.size_alloc] at this
    exact this
  have kc3 : ∀ (w : World) (o0 o1 o2 : Obj) (C : Array Value) (n c : Nat), (convert 26 26 (.slice (some ⟨w.heap.size + 1 + 1 + 1, 0, none⟩) n c)).run Tryz.prog ((((w.alloc o0).alloc o1).alloc o2).alloc (.cells C 5)) = .ok (.slice (some ⟨w.heap.size + 1 + 1 + 1, 0, none⟩) n c) ((((w.alloc o0).alloc o1).alloc o2).alloc (.cells C 5 (C.size, C.size + 1))) := fun w o0 o1 o2 C n c => by
    have := kc0 (((w.alloc o0).alloc o1).alloc o2) C n c
    simp only [World.size_alloc] at this
    exact this
  have HX := Hid.mk X
  have HIE := Hid.mk hIE
  have HIF := Hid.mk hIF
  have hB0 := Hid.mk (below_alloc' (Below.refl w.heap.size w) (.cells #[.int .i64 9, .string ⟨i.n.toArray⟩, .slice l.aE i.nE l.cE, .slice l.aF i.nF l.cF, .int .i64 i.K, .int .i64 i.lo, .int .i64 i.hi] 42))
  have BX0 := Hid.mk (blk_new w (.cells #[.int .i64 9, .string ⟨i.n.toArray⟩, .slice l.aE i.nE l.cE, .slice l.aF i.nF l.cF, .int .i64 i.K, .int .i64 i.lo, .int .i64 i.hi] 42))
  have HE := Hid.mk hE
  have hEl := tree_len hE
  clear hE
  have hKl := itoa_len' hK0 hK1
  have hll := itoa_len' hl0 hl1
  have hhl := itoa_len' hh0 hh1
  clear X hIE hIF
  go_enter Tryz.func15, Tryz.ntmps15
  go_wp2_with fail
  refine (HX.out i.E l.aE i.nE l.cE _ (HIE.out.below hB0.out) (by omega)).mono ?_
  rintro e w1 ⟨ae, ne, ce, rfl, hb, hre⟩
  have HB := Hid.mk (below_then hB0.out hb)
  have BX := Hid.mk (blk_below BX0.out hb)
  have RE := Hid.mk (hre tE HE.out)
  clear hb hre hB0 BX0
  have y4 := blk_cell BX.out 4
  simp only [List.getElem?_toArray, List.getElem?_cons_zero, List.getElem?_cons_succ] at y4
  go_wp2_with fail
  clear y4
  refine (Print.decimal i.K _ (by omega) (by omega)).mono ?_
  rintro e w2K ⟨vk, rfl, ho, hb⟩
  have HB := Hid.mk (below_then HB.out hb)
  have BX := Hid.mk (blk_below BX.out hb)
  have RK := Hid.mk (own_rt ho (Print.itoa_pos i.K))
  obtain ⟨gRK, oRK, cRK, rfl, -, -⟩ := RK.out
  have RE := Hid.mk (RE.out.below hb)
  clear ho hb
  have y5 := blk_cell BX.out 5
  simp only [List.getElem?_toArray, List.getElem?_cons_zero, List.getElem?_cons_succ] at y5
  go_wp2_with fail
  clear y5
  refine (Print.decimal i.lo _ (by omega) (by omega)).mono ?_
  rintro e w2lo ⟨vl, rfl, ho, hb⟩
  have HB := Hid.mk (below_then HB.out hb)
  have BX := Hid.mk (blk_below BX.out hb)
  have RL := Hid.mk (own_rt ho (Print.itoa_pos i.lo))
  obtain ⟨gRL, oRL, cRL, rfl, -, -⟩ := RL.out
  have RE := Hid.mk (RE.out.below hb)
  have RK := Hid.mk (RK.out.below hb)
  clear ho hb
  have y6 := blk_cell BX.out 6
  simp only [List.getElem?_toArray, List.getElem?_cons_zero, List.getElem?_cons_succ] at y6
  go_wp2_with fail
  clear y6
  refine (Print.decimal i.hi _ (by omega) (by omega)).mono ?_
  rintro e w2hi ⟨vh, rfl, ho, hb⟩
  have HB := Hid.mk (below_then HB.out hb)
  have BX := Hid.mk (blk_below BX.out hb)
  have RH := Hid.mk (own_rt ho (Print.itoa_pos i.hi))
  obtain ⟨gRH, oRH, cRH, rfl, -, -⟩ := RH.out
  have RE := Hid.mk (RE.out.below hb)
  have RK := Hid.mk (RK.out.below hb)
  have RL := Hid.mk (RL.out.below hb)
  clear ho hb
  go_upto_region 8 with fail
  obtain ⟨W, hW⟩ : ∃ W, W = (((w2hi.alloc (.cells #[.int .u8 59, .int .u8 10] 5 (2, 2 + 1))).alloc (.cells #[.int .u8 32, .int .u8 105, .int .u8 110, .int .u8 32] 5 (4, 4 + 1))).alloc (.cells #[.int .u8 32, .int .u8 46, .int .u8 46, .int .u8 32] 5 (4, 4 + 1))) := ⟨_, rfl⟩
  have hb3 : Hid (Below w2hi.heap.size w2hi W) := by unfold Hid; rw [hW]; exact below3 _ _ _ _
  have HB := Hid.mk (below_then HB.out hb3.out)
  have BX := Hid.mk (blk_below BX.out hb3.out)
  have RE := Hid.mk (RE.out.below hb3.out)
  have RK := Hid.mk (RK.out.below hb3.out)
  have RL := Hid.mk (RL.out.below hb3.out)
  have RH := Hid.mk (RH.out.below hb3.out)
  have RX : Hid (Rt W (.slice (some ⟨w2hi.heap.size, 0, none⟩) 2 2) [59, 10]) := by unfold Hid; rw [hW]; exact lit_rt [59, 10] 2 _ _ rfl (blk_w3 _ _ _)
  have RI : Hid (Rt W (.slice (some ⟨w2hi.heap.size + 1, 0, none⟩) 4 4) [32, 105, 110, 32]) := by unfold Hid; rw [hW]; exact lit_rt [32, 105, 110, 32] 4 _ _ rfl (blk_alloc (blk_new1 _ _ _) _)
  have RT : Hid (Rt W (.slice (some ⟨w2hi.heap.size + 1 + 1, 0, none⟩) 4 4) [32, 46, 46, 32]) := by unfold Hid; rw [hW]; exact lit_rt [32, 46, 46, 32] 4 _ _ rfl (blk_new2 _ _ _ _)
  rw [← hW]
  clear hW hb3
  have y0 := blk_cell BX.out 0
  have y1 := blk_cell BX.out 1
  have y3 := blk_cell BX.out 3
  have y4 := blk_cell BX.out 4
  have y5 := blk_cell BX.out 5
  simp only [List.getElem?_toArray, List.getElem?_cons_zero, List.getElem?_cons_succ] at y0 y1 y3 y4 y5
  go_wp2_with fail
  clear y0 y1 y3 y4 y5
  refine (glueL _ [[115, 116, 114, 101, 97, 107, 32], tE.txt, [32, 109, 111, 115, 116, 32], Lib.itoa i.K, [59, 10]] _ _ _ _ _ _ rfl (blk_new2 W _ _ _) ?rts (by simp) (by intro s hs; simp only [List.mem_cons, List.not_mem_nil, or_false] at hs; rcases hs with rfl | rfl | rfl | rfl | rfl <;> (try simp only [List.length_cons, List.length_nil]) <;> omega)).mono ?_
  case rts => exact ⟨lit_rt [115, 116, 114, 101, 97, 107, 32] _ _ _ rfl (blk_w3 _ _ _), RE.out.below (by go_grown), lit_rt [32, 109, 111, 115, 116, 32] _ _ _ rfl (blk_alloc (blk_new1 W _ _) _), RK.out.below (by go_grown), RX.out.below (by go_grown), trivial⟩
  rintro e w9 ⟨v9, rfl, ho, hb⟩
  have HO9 : Hid (Own w.heap.size w9 v9 [[115, 116, 114, 101, 97, 107, 32], tE.txt, [32, 109, 111, 115, 116, 32], Lib.itoa i.K, [59, 10]].flatten) := Joins.ownsRow_le ho (Nat.le_trans HB.out.size (by simp only [World.size_alloc]; omega))
  have HB9 := Hid.mk (below_then HB.out (below_then (by go_grown) hb))
  clear ho hb
  go_wp2
  go_ret
  exact ⟨v9, rfl, HO9.out, HB9.out⟩
end Go.Proofs.YthobdaeglhdhnaaGreatDoor.Syn
