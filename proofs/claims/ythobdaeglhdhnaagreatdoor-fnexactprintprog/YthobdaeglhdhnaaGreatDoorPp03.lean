import Derived.Test.YthobdaeglhdhnaaGreatDoorProg
import Derived.WalkKit
import Derived.WalkSpells
import Derived.WalkLawsBesides
import Derived.Handy
import Derived.Deep.QuietTactic
import Derived.BigQuiet
import Derived.Deep.RegionHeld3
import Derived.Test.YthobdaeglhdhnaaGreatDoorPp02
import Derived.Deep.DrawnRows
namespace Go.Proofs.YthobdaeglhdhnaaGreatDoor.Leaf
open Go Go.RowKit
set_option linter.unusedVariables false

theorem bcell {W w1 : World} (hb : Below W.heap.size W w1) : (∀ b o, b < W.heap.size → w1.cell? ⟨b, o, none⟩ = W.cell? ⟨b, o, none⟩) ∧ (∀ b o, b < W.heap.size → w1.frozen? ⟨b, o, none⟩ = W.frozen? ⟨b, o, none⟩) :=
  ⟨fun b o h => hb.cell (p := ⟨b, o, none⟩) h, fun b o h => hb.frozen (p := ⟨b, o, none⟩) h⟩

theorem below_then {w W w1 : World} (h : Below w.heap.size w W) (hb : Below W.heap.size W w1) : Below w.heap.size w w1 := h.trans (hb.mono h.size)
end Go.Proofs.YthobdaeglhdhnaaGreatDoor.Leaf
namespace Go.Proofs.YthobdaeglhdhnaaGreatDoor.Syn
open Go Go.RowKit Go.Proofs.YthobdaeglhdhnaaGreatDoor.Mem
set_option linter.unusedVariables false
set_option linter.unusedSimpArgs false
attribute [local go_sem ↓] Go.wp_at_zero Go.wp_at_succ

theorem ret_b {a b : Bool} (h : a = b) : Ending.returned (.bool a) = .returned (.bool b) := by rw [h]
theorem attrWordS (k : Nat) (w : World) (hk : k < 13) : Calls Tryz.prog 89 #[.int .i64 (k : Int)] w fun e w' => e = .returned (.string ⟨(twAt (30 + k)).toArray⟩) ∧ w' = w := by
  have : k = 0 ∨ k = 1 ∨ k = 2 ∨ k = 3 ∨ k = 4 ∨ k = 5 ∨ k = 6 ∨ k = 7 ∨ k = 8 ∨ k = 9 ∨ k = 10 ∨ k = 11 ∨ k = 12 := by omega
  clear hk
  rcases this with rfl | rfl | rfl | rfl | rfl | rfl | rfl | rfl | rfl | rfl | rfl | rfl | rfl
  all_goals
    go_enter Tryz.func89, Tryz.ntmps89
    go_wp2
    go_ret
    exact ⟨rfl, rfl⟩

/-- The number of an attribute, -1 where it is none. -/
def atF (n : List UInt8) (m : Nat) : Nat → Int
  | 0 => -1
  | f + 1 => if twAt (30 + m) == n then (m : Int) else atF n (m + 1) f
theorem atF_eq {n : List UInt8} {k : Nat} (hk : k ≤ 13) (h : ∀ j, j < k → (twAt (30 + j) == n) = false) : atF n 0 13 = atF n k (13 - k) := by
  induction k with
  | zero => rfl
  | succ k ih =>
    rw [ih (by omega) (fun j hj => h j (by omega)), show 13 - k = (13 - (k + 1)) + 1 by omega, atF, if_neg (by have := h k (by omega); simpa using this)]
theorem attrOfS (n : List UInt8) (w : World) : Calls Tryz.prog 73 #[.string ⟨n.toArray⟩] w fun e w' => e = .returned (.int .i64 (atF n 0 13)) ∧ w' = w := by
  go_enter Tryz.func73, Tryz.ntmps73
  go_wp2
  go_loop [3] (fun i => ∃ k : Nat, k ≤ 13 ∧ i = .int .i64 (k : Int) ∧ Hid (∀ j, j < k → (twAt (30 + j) == n) = false)) (fun i => 13 - (intOf i).toNat)
  case atStart => exact ⟨0, by omega, rfl, fun j hj => by omega⟩
  case round =>
    obtain ⟨k, hk, rfl, ha⟩ := hrel
    by_cases hlt : k < 13
    · cases he : (twAt (30 + k) == n) with
      | true =>
        have hv : Hid (atF n 0 13 = (k : Int)) := by
          unfold Hid
          rw [atF_eq hk ha.out, show 13 - k = (12 - k) + 1 by omega, atF, if_pos he]
        go_wp2_with (go_at_call 89; refine (attrWordS k _ hlt).mono ?_; rintro e w' ⟨rfl, rfl⟩)
        go_ret
        rw [hv.out]
        exact ⟨rfl, rfl⟩
      | false =>
        have hv : Hid (∀ j, j < k + 1 → (twAt (30 + j) == n) = false) := fun j hj => by
          by_cases e : j = k
          · rw [e]; exact he
          · exact ha.out j (by omega)
        go_wp2_with (go_at_call 89; refine (attrWordS k _ hlt).mono ?_; rintro e w' ⟨rfl, rfl⟩)
        exact ⟨⟨k + 1, by omega, by go_num, hv⟩, by simp [intOf]; omega⟩
    · obtain rfl : k = 13 := by omega
      have hv : Hid (atF n 0 13 = -1) := by unfold Hid; rw [atF_eq hk ha.out]; rfl
      go_wp2
      go_ret
      rw [hv.out]
      exact ⟨rfl, rfl⟩

/-- The other reserved words, in the specification's order. -/
def rwS : List (List UInt8) := [[108, 101, 116], [101, 97, 99, 104], [101, 110, 100], [115, 117, 109], [102, 114, 111, 109], [105, 110], [110, 101, 118, 101, 114], [116, 104, 101, 110], [97, 112, 97, 114, 116], [108, 105, 102, 111], [114, 105, 100, 101], [115, 116, 114, 101, 97, 107], [109, 111, 115, 116], [97, 110, 100], [111, 114], [110, 111, 116], [109, 105, 110], [109, 97, 120], [105, 102], [104, 97, 115], [115, 107, 105, 108, 108], [116, 114, 117, 101], [102, 97, 108, 115, 101]]
def resF (n : List UInt8) : List (List UInt8) → Bool
  | [] => false
  | x :: r => n == x || resF n r
theorem resF_contains (n : List UInt8) (l : List (List UInt8)) : resF n l = l.contains n := by
  induction l with
  | nil => rfl
  | cons x r ih => rw [resF, ih, List.contains_cons]
theorem atF_pos (n : List UInt8) (m f : Nat) : decide (0 ≤ atF n m f) = ((List.range f).any fun j => twAt (30 + (m + j)) == n) := by
  induction f generalizing m with
  | zero => simp [atF]
  | succ f ih =>
    unfold atF
    rw [List.range_succ_eq_map, List.any_cons, List.any_map]
    split
    · rename_i h; simp at h; simp [h]
    · rename_i h
      rw [ih (m + 1)]
      simp only [Nat.add_zero]
      rw [show (twAt (30 + m) == n) = false by simpa using h, Bool.false_or]
      congr 1
      funext j
      simp only [Function.comp]
      rw [Nat.succ_eq_add_one, show m + 1 + j = m + (j + 1) by omega]
theorem sub_all {a b : List (List UInt8)} (h : (a.all fun x => b.contains x) = true) {n : List UInt8} (hn : n ∈ a) : n ∈ b := by
  rw [List.all_eq_true] at h
  have := h n hn
  simpa using this
theorem resS_eq (n : List UInt8) : (decide (0 ≤ atF n 0 13) || resF n rwS) = resB n := by
  rw [atF_pos, resF_contains]
  unfold resB
  rw [Bool.eq_iff_iff, Bool.or_eq_true, List.any_eq_true, List.contains_iff_mem, List.contains_iff_mem]
  have k1 : (((List.range 13).map fun j => twAt (30 + (0 + j))).all fun x => rw.contains x) = true := by decide +kernel
  have k2 : (rwS.all fun x => rw.contains x) = true := by decide +kernel
  have k3 : (rw.all fun x => (((List.range 13).map fun j => twAt (30 + (0 + j))) ++ rwS).contains x) = true := by decide +kernel
  constructor
  · rintro (⟨j, hj, he⟩ | h)
    · refine sub_all k1 (List.mem_map.2 ⟨j, hj, by simpa using he⟩)
    · exact sub_all k2 h
  · intro h
    rcases List.mem_append.1 (sub_all k3 h) with h | h
    · obtain ⟨j, hj, he⟩ := List.mem_map.1 h
      exact Or.inl ⟨j, hj, by simpa using he⟩
    · exact Or.inr h
end Go.Proofs.YthobdaeglhdhnaaGreatDoor.Syn
namespace Go.Proofs.YthobdaeglhdhnaaGreatDoor.Syn
open Go Go.RowKit
set_option linter.unusedVariables false
set_option linter.unusedSimpArgs false

/-- One operation that gives a value and leaves the world. -/
theorem wpList_val {P : Program} {ops : Array Oper} {Q : Exit → Act → World → Prop} {rest : List Oper} {o : Oper} {a : Act} {w : World} {v : Value} (hw : Region.wanted o (yielded ops a.tmps) = true) (hr : (execOp a.eval o).run P w = .ok (.value v) w) (h : wpList P ops Q rest (a.put o.dst v) w) : wpList P ops Q (o :: rest) a w := by
  simp only [wpList, hw, if_true]
  left
  unfold Oper.wp
  rw [hr]
  exact h
theorem getD_of {t : Array Value} {i : Nat} {v : Value} (h : t[i]? = some v) : t.getD i undef = v := by simp [h]

/-- The frame on the way through a chain of '||' over tests of one string. -/
structure Ch (N : Nat) (a : Act) (n : List UInt8) (p : Nat) (b : Bool) : Prop where
  size : a.tmps.size = N
  defers : a.defers = []
  arg : a.tmps[0]? = some (.string ⟨n.toArray⟩)
  at_ : a.tmps[p]? = some (.bool b)
theorem Ch.put {N : Nat} {a : Act} {n : List UInt8} {p : Nat} {b : Bool} (h : Ch N a n p b) (d : Nat) (v : Value) (h0 : d ≠ 0) (hp : d ≠ p) : Ch N (a.put (some d) v) n p b :=
  ⟨by simp [Act.put, h.size], h.defers, by simp [Act.put, Array.getElem?_setIfInBounds, h0, h.arg], by simp [Act.put, Array.getElem?_setIfInBounds, hp, h.at_]⟩
theorem put_at {a : Act} {d : Nat} {v : Value} (h : d < a.tmps.size) : (a.put (some d) v).tmps[d]? = some v := by simp [Act.put, Array.getElem?_setIfInBounds, h]
theorem put_ne {a : Act} {d e : Nat} {v u : Value} (h : a.tmps[e]? = some u) (hne : d ≠ e) : (a.put (some d) v).tmps[e]? = some u := by simp [Act.put, Array.getElem?_setIfInBounds, hne, h]
theorem run_strEq {P : Program} {o : Oper} {ρ : Operand → Value} {w : World} {T : TypeId} {x y : Operand} {s l : ByteArray} (hu : P.underlying T = some .string) (ho : o.op = .binOp .eql T x y T) (hx : ρ x = .string s) (hc : ρ y = .string l) : (execOp ρ o).run P w = .ok (.value (.bool (s.toList == l.toList))) w := by
  simp [execOp, ho, hx, hc, hu, go_sem]
theorem run_mv {P : Program} {o : Oper} {ρ : Operand → Value} {w : World} {x : Operand} {v : Value} (ho : o.op = .move x) (hx : ρ x = v) : (execOp ρ o).run P w = .ok (.value v) w := by
  simp [execOp, ho, hx, go_sem]
theorem run_pk {P : Program} {o : Oper} {ρ : Operand → Value} {w : World} {x y z : Operand} {b : Bool} {v u : Value} (ho : o.op = .pick x y z) (hx : ρ x = .bool b) (hy : ρ y = v) (hz : ρ z = u) : (execOp ρ o).run P w = .ok (.value (if b = true then v else u)) w := by
  simp [execOp, ho, hx, hy, hz, go_sem]

theorem orStep {P : Program} {ops : Array Oper} {Q : Exit → Act → World → Prop} {rest : List Oper} {a : Act} {w : World} {N : Nat} {n : List UInt8} {b : Bool} {d1 d2 d3 p j : Nat} {T t1 t2 t3 : TypeId} {s1 s2 s3 : String} {e1 e2 e3 : Array Edge} {lit : List UInt8}
    (hu : P.underlying T = some .string) (h : Ch N a n p b) (hj : (ops[j]?).bind (·.dst) = some p) (hb : 0 < d1 ∧ p < d1 ∧ d1 < d2 ∧ d2 < d3 ∧ d3 < N)
    (K : ∀ a', Ch N a' n d3 (b || n == lit) → wpList P ops Q rest a' w) :
    wpList P ops Q (⟨some d1, .move (.tmp 0), t1, s1, e1, some (j, false)⟩ :: ⟨some d2, .binOp .eql T (.tmp d1) (.const (.string ⟨lit.toArray⟩)) T, t2, s2, e2, some (j, false)⟩ :: ⟨some d3, .pick (.tmp p) (.const (.bool true)) (.tmp d2), t3, s3, e3, none⟩ :: rest) a w := by
  have y : ∀ a' : Act, a'.tmps[p]? = some (.bool b) → yielded ops a'.tmps j = some b := fun a' h => by unfold yielded; rw [hj]; simp [h]
  cases b with
  | true =>
    have q1 := h.put d1 undef (by omega) (by omega)
    have q2 := q1.put d2 undef (by omega) (by omega)
    refine wpList_skip (by simp [Region.wanted, y a h.at_]) ?_
    refine wpList_skip (by simp only [Region.wanted]; rw [y _ q1.at_]; rfl) ?_
    refine wpList_val (v := .bool true) rfl ?_ (K _ ⟨by simp [Act.put, h.size], h.defers, put_ne q2.arg (by omega), by rw [Bool.true_or]; exact put_at (by rw [q2.size]; omega)⟩)
    exact run_pk (b := true) rfl (getD_of q2.at_) rfl rfl
  | false =>
    have q1 := h.put d1 (.string ⟨n.toArray⟩) (by omega) (by omega)
    have q2 := q1.put d2 (.bool (n == lit)) (by omega) (by omega)
    have e0 : a.eval (.tmp 0) = .string ⟨n.toArray⟩ := getD_of h.arg
    refine wpList_val (v := .string ⟨n.toArray⟩) (by simp only [Region.wanted]; rw [y a h.at_]; rfl) (run_mv rfl e0) ?_
    have e1 : (a.put (some d1) (.string ⟨n.toArray⟩)).eval (.tmp d1) = .string ⟨n.toArray⟩ := getD_of (put_at (by rw [h.size]; omega))
    have hr := run_strEq (P := P) (o := ⟨some d2, .binOp .eql T (.tmp d1) (.const (.string ⟨lit.toArray⟩)) T, t2, s2, e2, some (j, false)⟩) (w := w) hu rfl e1 rfl
    simp only [ByteArray.toList_mk] at hr
    refine wpList_val (by simp only [Region.wanted]; rw [y _ q1.at_]; rfl) hr ?_
    have e2 : ((a.put (some d1) (.string ⟨n.toArray⟩)).put (some d2) (.bool (n == lit))).eval (.tmp p) = .bool false := getD_of q2.at_
    have e3 : ((a.put (some d1) (.string ⟨n.toArray⟩)).put (some d2) (.bool (n == lit))).eval (.tmp d2) = .bool (n == lit) := getD_of (put_at (by rw [q1.size]; omega))
    refine wpList_val (v := .bool (n == lit)) rfl ?_ (K _ ⟨by simp [Act.put, h.size], h.defers, put_ne q2.arg (by omega), by rw [Bool.false_or]; exact put_at (by rw [q2.size]; omega)⟩)
    exact run_pk (b := false) rfl e2 rfl e3
theorem moveStep {P : Program} {ops : Array Oper} {Q : Exit → Act → World → Prop} {rest : List Oper} {a : Act} {w : World} {N : Nat} {n : List UInt8} {b : Bool} {d p : Nat} {t1 : TypeId} {s1 : String} {e1 : Array Edge}
    (h : Ch N a n p b) (hb : p < d ∧ d < N) (K : ∀ a', Ch N a' n d b → wpList P ops Q rest a' w) : wpList P ops Q (⟨some d, .move (.tmp p), t1, s1, e1, none⟩ :: rest) a w := by
  have e0 : a.eval (.tmp p) = .bool b := getD_of h.at_
  refine wpList_val (v := .bool b) rfl (run_mv rfl e0) (K _ ⟨by simp [Act.put, h.size], h.defers, put_ne h.arg (by omega), put_at (by rw [h.size]; omega)⟩)
end Go.Proofs.YthobdaeglhdhnaaGreatDoor.Syn
