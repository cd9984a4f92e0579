import Derived.Test.YtfoigigbggickaaDoorPq05
import Derived.Deep.DrawnRows
import Derived.Lib.QuietBelow
namespace Go.Proofs.YtfoigigbggickaaDoor.Syn
open Go Go.RowKit Go.Proofs.YtfoigigbggickaaDoor.Mem
set_option linter.unusedVariables false
set_option linter.unusedSimpArgs false
attribute [local go_sem ↓] Go.wp_at_zero Go.wp_at_succ

theorem wordByteS (c : UInt8) (w : World) : Calls Tryd.prog 21 #[.int .u8 (c.toNat : Int)] w fun e w' => e = .returned (.bool (wB c)) ∧ w' = w := by
  have hc := c.toNat_lt
  obtain ⟨z, hz⟩ : ∃ z : Int, z = (c.toNat : Int) := ⟨_, rfl⟩
  have hb : wB c = ((decide (97 ≤ z) && decide (z ≤ 122)) || (decide (48 ≤ z) && decide (z ≤ 57)) || z == 95) := by
    rw [Bool.eq_iff_iff]; simp [wB, letB, digB, hz]; omega
  rw [hb, ← hz]
  clear hb
  have z0 : 0 ≤ z := by omega
  have z1 : z < 256 := by omega
  clear hz hc
  have d : (97 ≤ z ∧ z ≤ 122) ∨ (97 ≤ z ∧ ¬ z ≤ 122) ∨ (¬ 97 ≤ z ∧ 48 ≤ z ∧ z ≤ 57) ∨ (¬ 97 ≤ z ∧ 48 ≤ z ∧ ¬ z ≤ 57) ∨ (¬ 97 ≤ z ∧ ¬ 48 ≤ z) := by omega
  rcases d with ⟨h1, h2⟩ | ⟨h1, h2⟩ | ⟨h1, h3, h4⟩ | ⟨h1, h3, h4⟩ | ⟨h1, h3⟩
  · go_enter Tryd.func21, Tryd.ntmps21
    go_wp2
    go_ret
    exact ⟨ret_b (by simp [*]), rfl⟩
  · have d2 : decide (z ≤ 122) = false := by simpa using h2
    have h3 : 48 ≤ z := by omega
    have d4 : decide (z ≤ 57) = false := by simp; omega
    go_enter Tryd.func21, Tryd.ntmps21
    go_wp2
    go_ret
    exact ⟨ret_b (by simp [*]), rfl⟩
  · have d1 : decide (97 ≤ z) = false := by simpa using h1
    go_enter Tryd.func21, Tryd.ntmps21
    go_wp2
    go_ret
    exact ⟨ret_b (by simp [*]), rfl⟩
  · have d1 : decide (97 ≤ z) = false := by simpa using h1
    have d4 : decide (z ≤ 57) = false := by simpa using h4
    go_enter Tryd.func21, Tryd.ntmps21
    go_wp2
    go_ret
    exact ⟨ret_b (by simp [*]), rfl⟩
  · have d1 : decide (97 ≤ z) = false := by simpa using h1
    have d3 : decide (48 ≤ z) = false := by simpa using h3
    go_enter Tryd.func21, Tryd.ntmps21
    go_wp2
    go_ret
    exact ⟨ret_b (by simp [*]), rfl⟩
theorem letterI (c : UInt8) (w : World) : Calls Tryd.prog 63 #[.int .u8 (c.toNat : Int)] w fun e w' => e = .returned (.bool (letB c)) ∧ w' = w := by
  have hc := c.toNat_lt
  by_cases h1 : (97 : Int) ≤ (c.toNat : Int)
  · go_enter Tryd.func63, Tryd.ntmps63
    go_wp2
    go_ret
    exact ⟨ret_b (by rw [Bool.eq_iff_iff]; simp [letB]; omega), rfl⟩
  · have d : decide ((97 : Int) ≤ (c.toNat : Int)) = false := by simpa using h1
    go_enter Tryd.func63, Tryd.ntmps63
    go_wp2
    go_ret
    exact ⟨ret_b (by rw [Bool.eq_iff_iff]; simp [letB]; omega), rfl⟩
theorem digitI (c : UInt8) (w : World) : Calls Tryd.prog 65 #[.int .u8 (c.toNat : Int)] w fun e w' => e = .returned (.bool (digB c)) ∧ w' = w := by
  have hc := c.toNat_lt
  by_cases h1 : (48 : Int) ≤ (c.toNat : Int)
  · go_enter Tryd.func65, Tryd.ntmps65
    go_wp2
    go_ret
    exact ⟨ret_b (by rw [Bool.eq_iff_iff]; simp [digB]; omega), rfl⟩
  · have d : decide ((48 : Int) ≤ (c.toNat : Int)) = false := by simpa using h1
    go_enter Tryd.func65, Tryd.ntmps65
    go_wp2
    go_ret
    exact ⟨ret_b (by rw [Bool.eq_iff_iff]; simp [digB]; omega), rfl⟩
theorem wordByteI (c : UInt8) (w : World) : Calls Tryd.prog 81 #[.int .u8 (c.toNat : Int)] w fun e w' => e = .returned (.bool (wB c)) ∧ w' = w := by
  have hb : wB c = ((letB c || digB c) || ((c.toNat : Int) == 95)) := by
    have : (((c.toNat : Int)) == 95) = (c.toNat == 95) := by rw [Bool.eq_iff_iff]; simp; omega
    rw [this]; rfl
  rw [hb]
  clear hb
  cases h1 : letB c with
  | true =>
    go_enter Tryd.func81, Tryd.ntmps81
    go_wp2_with (first | (go_at_call 63; refine (letterI c _).mono ?_; rintro e w' ⟨rfl, hw⟩; rw [hw]; clear hw) | (go_at_call 65; refine (digitI c _).mono ?_; rintro e w' ⟨rfl, hw⟩; rw [hw]; clear hw))
    go_ret
    exact ⟨ret_b (by simp [*]), rfl⟩
  | false =>
    cases h2 : digB c with
    | true =>
      go_enter Tryd.func81, Tryd.ntmps81
      go_wp2_with (first | (go_at_call 63; refine (letterI c _).mono ?_; rintro e w' ⟨rfl, hw⟩; rw [hw]; clear hw) | (go_at_call 65; refine (digitI c _).mono ?_; rintro e w' ⟨rfl, hw⟩; rw [hw]; clear hw))
      go_ret
      exact ⟨ret_b (by simp [*]), rfl⟩
    | false =>
      go_enter Tryd.func81, Tryd.ntmps81
      go_wp2_with (first | (go_at_call 63; refine (letterI c _).mono ?_; rintro e w' ⟨rfl, hw⟩; rw [hw]; clear hw) | (go_at_call 65; refine (digitI c _).mono ?_; rintro e w' ⟨rfl, hw⟩; rw [hw]; clear hw))
      go_ret
      exact ⟨ret_b (by simp [*]), rfl⟩

/-- The table of the tokens' words. -/
def TabW (w : World) : Prop := ∀ m, m < 50 → w.cell? ⟨0, m, none⟩ = some (.string ⟨(twAt m).toArray⟩)
theorem TabW.below {w w' : World} (h : TabW w) (hb : Below w.heap.size w w') : TabW w' := fun m hm => cell_keep hb (h m hm)

set_option maxHeartbeats 800000 in
theorem wordKindI (n : List UInt8) (w : World) (hT : TabW w) : Calls Tryd.prog 74 #[.string ⟨n.toArray⟩] w fun e w' => e = .returned (.int .i64 (wk n : Int)) ∧ w' = w := by
  have HT := Hid.mk hT
  clear hT
  go_enter Tryd.func74, Tryd.ntmps74
  go_wp2
  go_loop [3] (fun i => ∃ k : Nat, k ≤ 36 ∧ i = .int .i64 ((14 + k : Nat) : Int) ∧ Hid (∀ j, j < k → (n == twAt (14 + j)) = false)) (fun i => 50 - (intOf i).toNat)
  case atStart => exact ⟨0, by omega, rfl, fun j hj => by omega⟩
  case round =>
    obtain ⟨k, hk, rfl, ha⟩ := hrel
    obtain ⟨m, hm⟩ : ∃ m, m = 14 + k := ⟨_, rfl⟩
    rw [← hm]
    have HM := Hid.mk hm
    have hm36 : m < 50 → k < 36 := by omega
    have hm37 : ¬ m < 50 → k = 36 := by omega
    clear hm
    by_cases hlt : m < 50
    · have e0 := HT.out m hlt
      have k0 : (0 : Int) ≤ (m : Int) := by omega
      have k1 : (m : Int) < 50 := by omega
      cases he : (n == twAt m) with
      | true =>
        have hv : Hid (wk n = m) := by
          unfold Hid wk
          rw [HM.out] at he ⊢
          exact wkF_first (hm36 hlt) ha.out he
        go_wp2
        go_ret
        rw [hv.out]
        exact ⟨rfl, rfl⟩
      | false =>
        have hv : Hid (∀ j, j < k + 1 → (n == twAt (14 + j)) = false) := fun j hj => by
          by_cases e : j = k
          · rw [e, ← HM.out]; exact he
          · exact ha.out j (by omega)
        go_wp2
        exact ⟨⟨k + 1, hm36 hlt, by rw [HM.out]; go_num, hv⟩, by simp [intOf]; omega⟩
    · have hv : Hid (wk n = 2) := by
        unfold Hid wk
        exact wkF_none (fun j hj => ha.out j (by have := hm37 hlt; omega))
      have k1 : decide ((m : Int) < 50) = false := by simp; omega
      go_wp2
      go_ret
      rw [hv.out]
      exact ⟨rfl, rfl⟩

end Go.Proofs.YtfoigigbggickaaDoor.Syn
namespace Go.Proofs.YtfoigigbggickaaDoor.Syn
open Go Go.RowKit Go.Proofs.YtfoigigbggickaaDoor.Mem
set_option linter.unusedVariables false
set_option linter.unusedSimpArgs false
attribute [local go_sem ↓] Go.wp_at_zero Go.wp_at_succ

def cop (v : Int) : Int := if v = 2 then 3 else 2
theorem callOpsI (v : Int) (w : World) : Calls Tryd.prog 89 #[.int .i64 v] w fun e w' => e = .returned (.int .i64 (cop v)) ∧ w' = w := by
  cases hq : (v == 2) with
  | true =>
    have hv : Hid (cop v = 3) := by unfold Hid cop; rw [if_pos (by simpa using hq)]
    go_enter Tryd.func89, Tryd.ntmps89
    go_wp2
    go_ret
    (rw [hv.out]; exact ⟨rfl, rfl⟩)
  | false =>
    have hv : Hid (cop v = 2) := by unfold Hid cop; rw [if_neg (by simpa using hq)]
    go_enter Tryd.func89, Tryd.ntmps89
    go_wp2
    go_ret
    (rw [hv.out]; exact ⟨rfl, rfl⟩)
end Go.Proofs.YtfoigigbggickaaDoor.Syn
namespace Go.Proofs.YtfoigigbggickaaDoor.Syn
open Go Go.RowKit Go.Proofs.YtfoigigbggickaaDoor.Mem
set_option linter.unusedVariables false
set_option linter.unusedSimpArgs false
attribute [local go_sem ↓] Go.wp_at_zero Go.wp_at_succ

/-- A block of nodes. -/
def Nk (w : World) (g : Nat) : Prop := ∃ C fr, w.heap[g]? = some (.cells C 106 fr)
theorem Nk.below {w w' : World} {g : Nat} (h : Nk w g) (hb : Below w.heap.size w w') : Nk w' g := by
  obtain ⟨C, fr, h⟩ := h
  exact ⟨C, fr, by rw [hb.block g (blk_lt h)]; exact h⟩
theorem Nk.grown {w w' : World} {g : Nat} {r : Option Nat} (h : Nk w g) (hb : w.grownBy w' r) (hr : some g ≠ r) : Nk w' g := by
  obtain ⟨C, fr, h⟩ := h
  exact ⟨C, fr, by rw [hb.block g (blk_lt h) hr]; exact h⟩
/-- A tree of the program, as a value over memory: the operands of a call lie in a slice. -/
inductive Nd (w : World) (r : Option Nat) : Value → Tr → Prop
  | leaf (o : Po) : Nd w r (.iface 123 (.agg #[.int .i64 o.k, .int .i64 o.v, .string ⟨o.n.toArray⟩])) (.leaf o)
  | pre (o : Po) (v : Value) (a : Tr) (h : Nd w r v a) : Nd w r (.iface 116 (.agg #[.int .i64 o.k, .int .i64 o.v, .string ⟨o.n.toArray⟩, v])) (.pre o a)
  | bin (o : Po) (v u : Value) (a b : Tr) (h : Nd w r v a) (h' : Nd w r u b) : Nd w r (.iface 118 (.agg #[.int .i64 o.k, .int .i64 o.v, .string ⟨o.n.toArray⟩, v, u])) (.bin o a b)
  | two (o : Po) (g off c : Nat) (v u : Value) (a b : Tr) (hr : some g ≠ r) (hk : Nk w g) (c1 : w.cell? ⟨g, off, none⟩ = some v) (c2 : w.cell? ⟨g, off + 1, none⟩ = some u) (h : Nd w r v a) (h' : Nd w r u b) : Nd w r (.iface 121 (.agg #[.int .i64 o.k, .int .i64 o.v, .string ⟨o.n.toArray⟩, .slice (some ⟨g, off, none⟩) 2 c])) (.two o a b)
  | three (o : Po) (g off c : Nat) (v u x : Value) (a b d : Tr) (hr : some g ≠ r) (hk : Nk w g) (c1 : w.cell? ⟨g, off, none⟩ = some v) (c2 : w.cell? ⟨g, off + 1, none⟩ = some u) (c3 : w.cell? ⟨g, off + 2, none⟩ = some x) (h : Nd w r v a) (h' : Nd w r u b) (h'' : Nd w r x d) : Nd w r (.iface 121 (.agg #[.int .i64 o.k, .int .i64 o.v, .string ⟨o.n.toArray⟩, .slice (some ⟨g, off, none⟩) 3 c])) (.three o a b d)
theorem Nd.kept {w w' : World} {r : Option Nat} {v : Value} {t : Tr} (h : Nd w r v t) (hb : Below w.heap.size w w') : Nd w' r v t := by
  induction h with
  | leaf o => exact .leaf o
  | pre o v a h ih => exact .pre o v a ih
  | bin o v u a b h h' ih ih' => exact .bin o v u a b ih ih'
  | two o g off c v u a b hr hk c1 c2 h h' ih ih' => exact .two o g off c v u a b hr (hk.below hb) (cell_keep hb c1) (cell_keep hb c2) ih ih'
  | three o g off c v u x a b d hr hk c1 c2 c3 h h' h'' ih ih' ih'' => exact .three o g off c v u x a b d hr (hk.below hb) (cell_keep hb c1) (cell_keep hb c2) (cell_keep hb c3) ih ih' ih''
/-- Its operands lie in no block that is written to. -/
theorem Nd.grown {w w' : World} {r : Option Nat} {v : Value} {t : Tr} (h : Nd w r v t) (hb : w.grownBy w' r) : Nd w' r v t := by
  induction h with
  | leaf o => exact .leaf o
  | pre o v a h ih => exact .pre o v a ih
  | bin o v u a b h h' ih ih' => exact .bin o v u a b ih ih'
  | two o g off c v u a b hr hk c1 c2 h h' ih ih' => exact .two o g off c v u a b hr (hk.grown hb hr) (hb.cell c1 hr) (hb.cell c2 hr) ih ih'
  | three o g off c v u x a b d hr hk c1 c2 c3 h h' h'' ih ih' ih'' => exact .three o g off c v u x a b d hr (hk.grown hb hr) (hb.cell c1 hr) (hb.cell c2 hr) (hb.cell c3 hr) ih ih' ih''
theorem Nd.one {w : World} {r : Option Nat} {v : Value} {t : Tr} (h : Nd w r v t) : v.oneCell' = true := by cases h <;> rfl
theorem Nd.form {w : World} {r : Option Nat} {v : Value} {t : Tr} (h : Nd w r v t) : ∃ T u, v = .iface T u := by cases h <;> exact ⟨_, _, rfl⟩

/-- A tree whose Ops have the operands that they take. -/
def Tr.wf : Tr → Prop
  | .leaf o => 1 ≤ o.k ∧ o.k ≤ 6
  | .pre o a => (o.k = 7 ∨ o.k = 8) ∧ a.wf
  | .bin o a b => (o.k = 9 ∧ 0 ≤ o.v ∧ o.v ≤ 7) ∧ a.wf ∧ b.wf
  | .two o a b => (o.k = 10 ∧ 0 ≤ o.v ∧ o.v ≤ 1) ∧ a.wf ∧ b.wf
  | .three o a b c => (o.k = 10 ∧ o.v = 2) ∧ a.wf ∧ b.wf ∧ c.wf
def Tr.sz : Tr → Nat
  | .leaf _ => 1
  | .pre _ a => 1 + a.sz
  | .bin _ a b => 1 + a.sz + b.sz
  | .two _ a b => 1 + a.sz + b.sz
  | .three _ a b c => 1 + a.sz + b.sz + c.sz
/-- The table of the strengths. -/
def TabB (w : World) : Prop := ∀ m : Nat, m < 8 → w.cell? ⟨1, m, none⟩ = some (.int .i64 (bstr m))
theorem TabB.below {w w' : World} (h : TabB w) (hb : Below w.heap.size w w') : TabB w' := fun m hm => cell_keep hb (h m hm)
end Go.Proofs.YtfoigigbggickaaDoor.Syn
