import Derived.Test.YtgooegcmgejfpaaGreatDoorGr08
import Derived.BigQuiet
namespace Go.Proofs.YtgooegcmgejfpaaGreatDoor.Mac
open Go Go.RowKit Go.Proofs.YtgooegcmgejfpaaGreatDoor.Mem
open Go.Proofs.YtgooegcmgejfpaaGreatDoor.Arith (cl cl_bd sadd smul addS mulS addI mulI ret_int)
set_option linter.unusedVariables false
set_option linter.unusedSimpArgs false
attribute [local go_sem ↓] Go.wp_at_zero Go.wp_at_succ

/-- What the instructions may see. -/
structure EnOk (E : En) : Prop where
  q0 : -1 ≤ E.q
  q1 : E.q < E.nQ
  Q : E.nQ ≤ 1000
  t0 : 0 ≤ E.tags
  t1 : E.tags ≤ 65535
  s0 : 0 ≤ E.skills
  s1 : E.skills ≤ 65535
theorem gt_nat (l : List Int) (m : Nat) : gt l (m : Int) = l.getD m 0 := rfl
/-- The place of a slot. -/
theorem slot_bd {S b q : Int} {nQ nS : Nat} (hS : (nS : Int) = S * nQ) (b0 : 0 ≤ b) (b1 : b ≤ S - 1) (q0 : 0 ≤ q) (q1 : q < nQ) (Q : nQ ≤ 1000) (S1 : S ≤ 100) : 0 ≤ b * (nQ : Int) ∧ b * (nQ : Int) + q < (nS : Int) ∧ b * (nQ : Int) + q ≤ 1000000 ∧ b * (nQ : Int) ≤ 1000000 := by
  have h1 : 0 ≤ b * (nQ : Int) := Int.mul_nonneg b0 (by omega)
  have h2 : (b + 1) * (nQ : Int) ≤ S * (nQ : Int) := Int.mul_le_mul_of_nonneg_right (by omega) (by omega)
  have h3 : (b + 1) * (nQ : Int) = b * (nQ : Int) + nQ := by rw [Int.add_mul, Int.one_mul]
  have h4 : S * (nQ : Int) ≤ 100 * 1000 := Int.mul_le_mul S1 (by omega) (by omega) (by omega)
  omega

set_option maxHeartbeats 1600000 in
set_option maxRecDepth 100000 in
theorem v1 (E : En) (ar al : Option Addr) (cr cs nr ns : Nat) (r s : List Int) (u : Int) (w : World) (hr : Li w ar r) (hs : Li w al s) (hnr : nr = r.length) (hns : ns = s.length) (lr : nr ≤ 1000) (ls : ns ≤ 100000) (Br : Bd r) (Bs : Bd s) (hE : EnOk E) (a : Int) (b c : Int) :
    Calls Tryz.prog 97 #[.agg #[.int .i64 1, .int .i64 a, .int .i64 b, .int .i64 c], .agg #[.slice ar nr cr, .slice al ns cs, .int .i64 E.tags, .int .i64 E.skills, .int .i64 E.q, .int .i64 (E.nQ : Int), .int .i64 u]] w fun e w' => e = .returned (.int .i64 (b)) ∧ Below w.heap.size w w' := by
  go_enter Tryz.func97, Tryz.ntmps97
  go_wp2
  go_ret
  exact ⟨rfl, by go_grown⟩
set_option maxHeartbeats 1600000 in
set_option maxRecDepth 100000 in
theorem v2 (E : En) (ar al : Option Addr) (cr cs nr ns : Nat) (r s : List Int) (u : Int) (w : World) (hr : Li w ar r) (hs : Li w al s) (hnr : nr = r.length) (hns : ns = s.length) (lr : nr ≤ 1000) (ls : ns ≤ 100000) (Br : Bd r) (Bs : Bd s) (hE : EnOk E) (a : Int) (m : Nat) (hm : m < nr) (c : Int) :
    Calls Tryz.prog 97 #[.agg #[.int .i64 2, .int .i64 a, .int .i64 (m : Int), .int .i64 c], .agg #[.slice ar nr cr, .slice al ns cs, .int .i64 E.tags, .int .i64 E.skills, .int .i64 E.q, .int .i64 (E.nQ : Int), .int .i64 u]] w fun e w' => e = .returned (.int .i64 (r.getD m 0)) ∧ Below w.heap.size w w' := by
  obtain ⟨g, o, rfl, e1⟩ := hr.at (i := m) (by omega)
  have g1 := lt_of_cell e1
  have m0 : (0 : Int) ≤ (m : Int) := by omega
  have m1 : (m : Int) < (nr : Int) := by omega
  have bd := Br m
  clear hr hs hnr hns Br Bs hE
  generalize r.getD m 0 = A at *
  go_enter Tryz.func97, Tryz.ntmps97
  go_wp2
  go_ret
  exact ⟨rfl, by go_grown⟩
set_option maxHeartbeats 1600000 in
set_option maxRecDepth 100000 in
theorem v3 (E : En) (ar al : Option Addr) (cr cs nr ns : Nat) (r s : List Int) (u : Int) (w : World) (hr : Li w ar r) (hs : Li w al s) (hnr : nr = r.length) (hns : ns = s.length) (lr : nr ≤ 1000) (ls : ns ≤ 100000) (Br : Bd r) (Bs : Bd s) (hE : EnOk E) (a : Int) (m : Nat) (hm : m < nr) (c : Int) :
    Calls Tryz.prog 97 #[.agg #[.int .i64 3, .int .i64 a, .int .i64 (m : Int), .int .i64 c], .agg #[.slice ar nr cr, .slice al ns cs, .int .i64 E.tags, .int .i64 E.skills, .int .i64 E.q, .int .i64 (E.nQ : Int), .int .i64 u]] w fun e w' => e = .returned (.int .i64 (-r.getD m 0)) ∧ Below w.heap.size w w' := by
  obtain ⟨g, o, rfl, e1⟩ := hr.at (i := m) (by omega)
  have g1 := lt_of_cell e1
  have m0 : (0 : Int) ≤ (m : Int) := by omega
  have m1 : (m : Int) < (nr : Int) := by omega
  have bd := Br m
  clear hr hs hnr hns Br Bs hE
  generalize r.getD m 0 = A at *
  go_enter Tryz.func97, Tryz.ntmps97
  go_wp2
  go_ret
  exact ⟨rfl, by go_grown⟩
set_option maxHeartbeats 1600000 in
set_option maxRecDepth 100000 in
theorem v4 (E : En) (ar al : Option Addr) (cr cs nr ns : Nat) (r s : List Int) (u : Int) (w : World) (hr : Li w ar r) (hs : Li w al s) (hnr : nr = r.length) (hns : ns = s.length) (lr : nr ≤ 1000) (ls : ns ≤ 100000) (Br : Bd r) (Bs : Bd s) (hE : EnOk E) (a : Int) (m : Nat) (hm : m < nr) (c : Int) :
    Calls Tryz.prog 97 #[.agg #[.int .i64 4, .int .i64 a, .int .i64 (m : Int), .int .i64 c], .agg #[.slice ar nr cr, .slice al ns cs, .int .i64 E.tags, .int .i64 E.skills, .int .i64 E.q, .int .i64 (E.nQ : Int), .int .i64 u]] w fun e w' => e = .returned (.int .i64 (bit (r.getD m 0 == 0))) ∧ Below w.heap.size w w' := by
  obtain ⟨g, o, rfl, e1⟩ := hr.at (i := m) (by omega)
  have g1 := lt_of_cell e1
  have m0 : (0 : Int) ≤ (m : Int) := by omega
  have m1 : (m : Int) < (nr : Int) := by omega
  have bd := Br m
  clear hr hs hnr hns Br Bs hE
  generalize r.getD m 0 = A at *
  go_enter Tryz.func97, Tryz.ntmps97
  go_wp2_with (go_at_call 96; refine (bitS _ _).mono ?_; rintro e w' ⟨rfl, rfl⟩)
  go_ret
  exact ⟨rfl, by go_grown⟩
set_option maxHeartbeats 1600000 in
set_option maxRecDepth 100000 in
theorem v13 (E : En) (ar al : Option Addr) (cr cs nr ns : Nat) (r s : List Int) (u : Int) (w : World) (hr : Li w ar r) (hs : Li w al s) (hnr : nr = r.length) (hns : ns = s.length) (lr : nr ≤ 1000) (ls : ns ≤ 100000) (Br : Bd r) (Bs : Bd s) (hE : EnOk E) (a : Int) (b c : Int) (b0 : 0 ≤ b) (b1 : b ≤ 15) :
    Calls Tryz.prog 97 #[.agg #[.int .i64 13, .int .i64 a, .int .i64 b, .int .i64 c], .agg #[.slice ar nr cr, .slice al ns cs, .int .i64 E.tags, .int .i64 E.skills, .int .i64 E.q, .int .i64 (E.nQ : Int), .int .i64 u]] w fun e w' => e = .returned (.int .i64 (if E.q < 0 then 0 else bit (hasB E.tags b))) ∧ Below w.heap.size w w' := by
  obtain ⟨q0, q1, hQ, t0, t1, s0, s1⟩ := hE
  clear hr hs hnr hns Br Bs
  by_cases hq : E.q < 0
  · rw [if_pos hq]
    have hd : decide (0 ≤ E.q) = false := by simp; omega
    go_enter Tryz.func97, Tryz.ntmps97
    go_wp2_with (go_at_call 96; refine (bitS _ _).mono ?_; rintro e w' ⟨rfl, rfl⟩)
    go_ret
    exact ⟨rfl, by go_grown⟩
  · rw [if_neg hq]
    have hd : 0 ≤ E.q := by omega
    go_enter Tryz.func97, Tryz.ntmps97
    go_wp2_with (first | (go_at_call 96; refine (bitS _ _).mono ?_; rintro e w' ⟨rfl, rfl⟩) | (go_at_call 131; refine (hasS _ _ _ t0 t1 b0 b1).mono ?_; rintro e w' ⟨rfl, rfl⟩))
    go_ret
    exact ⟨rfl, by go_grown⟩
set_option maxHeartbeats 1600000 in
set_option maxRecDepth 100000 in
theorem v14 (E : En) (ar al : Option Addr) (cr cs nr ns : Nat) (r s : List Int) (u : Int) (w : World) (hr : Li w ar r) (hs : Li w al s) (hnr : nr = r.length) (hns : ns = s.length) (lr : nr ≤ 1000) (ls : ns ≤ 100000) (Br : Bd r) (Bs : Bd s) (hE : EnOk E) (a : Int) (b c : Int) (b0 : 0 ≤ b) (b1 : b ≤ 15) :
    Calls Tryz.prog 97 #[.agg #[.int .i64 14, .int .i64 a, .int .i64 b, .int .i64 c], .agg #[.slice ar nr cr, .slice al ns cs, .int .i64 E.tags, .int .i64 E.skills, .int .i64 E.q, .int .i64 (E.nQ : Int), .int .i64 u]] w fun e w' => e = .returned (.int .i64 (bit (hasB E.skills b))) ∧ Below w.heap.size w w' := by
  obtain ⟨q0, q1, hQ, t0, t1, s0, s1⟩ := hE
  clear hr hs hnr hns Br Bs
  go_enter Tryz.func97, Tryz.ntmps97
  go_wp2_with (first | (go_at_call 96; refine (bitS _ _).mono ?_; rintro e w' ⟨rfl, rfl⟩) | (go_at_call 131; refine (hasS _ _ _ s0 s1 b0 b1).mono ?_; rintro e w' ⟨rfl, rfl⟩))
  go_ret
  exact ⟨rfl, by go_grown⟩
set_option maxHeartbeats 1600000 in
set_option maxRecDepth 100000 in
theorem v20 (E : En) (ar al : Option Addr) (cr cs nr ns : Nat) (r s : List Int) (u : Int) (w : World) (hr : Li w ar r) (hs : Li w al s) (hnr : nr = r.length) (hns : ns = s.length) (lr : nr ≤ 1000) (ls : ns ≤ 100000) (Br : Bd r) (Bs : Bd s) (hE : EnOk E) (a : Int) (b c S : Int) (hS : (ns : Int) = S * E.nQ) (S1 : S ≤ 100) (b0 : 0 ≤ b) (b1 : b ≤ S - 1) :
    Calls Tryz.prog 97 #[.agg #[.int .i64 20, .int .i64 a, .int .i64 b, .int .i64 c], .agg #[.slice ar nr cr, .slice al ns cs, .int .i64 E.tags, .int .i64 E.skills, .int .i64 E.q, .int .i64 (E.nQ : Int), .int .i64 u]] w fun e w' => e = .returned (.int .i64 (if E.q < 0 then 0 else gt s (b * E.nQ + E.q))) ∧ Below w.heap.size w w' := by
  obtain ⟨q0, q1, hQ, t0, t1, s0, s1⟩ := hE
  by_cases hq : E.q < 0
  · rw [if_pos hq]
    clear hr hs hnr hns Br Bs
    go_enter Tryz.func97, Tryz.ntmps97
    go_wp2
    go_ret
    exact ⟨rfl, by go_grown⟩
  · rw [if_neg hq]
    have hd : decide (E.q < 0) = false := by simpa using hq
    obtain ⟨k0, k1, k2, k3⟩ := slot_bd hS b0 b1 (by omega) q1 hQ S1
    have z1 : IntKind.i64.wrap (b * (E.nQ : Int)) = b * (E.nQ : Int) := by rw [IntKind.wrap_i64]; omega
    obtain ⟨m, hm⟩ : ∃ m : Nat, b * (E.nQ : Int) + E.q = (m : Int) := ⟨(b * (E.nQ : Int) + E.q).toNat, by omega⟩
    have z2 : IntKind.i64.wrap (b * (E.nQ : Int) + E.q) = (m : Int) := by rw [IntKind.wrap_i64]; omega
    rw [hm] at k1 ⊢
    rw [gt_nat]
    obtain ⟨g, o, rfl, e1⟩ := hs.at (i := m) (by omega)
    have g1 := lt_of_cell e1
    have m0 : (0 : Int) ≤ (m : Int) := by omega
    clear hr hs hnr hns Br Bs hm k2
    generalize s.getD m 0 = A at *
    go_enter Tryz.func97, Tryz.ntmps97
    go_wp2
    go_ret
    exact ⟨rfl, by go_grown⟩
set_option maxHeartbeats 1600000 in
set_option maxRecDepth 100000 in
theorem v12 (E : En) (ar al : Option Addr) (cr cs nr ns : Nat) (r s : List Int) (u : Int) (w : World) (hr : Li w ar r) (hs : Li w al s) (hnr : nr = r.length) (hns : ns = s.length) (lr : nr ≤ 1000) (ls : ns ≤ 100000) (Br : Bd r) (Bs : Bd s) (hE : EnOk E) (a : Int) (m m' : Nat) (hm : m < nr) (hm' : m' < nr) :
    Calls Tryz.prog 97 #[.agg #[.int .i64 12, .int .i64 a, .int .i64 (m : Int), .int .i64 (m' : Int)], .agg #[.slice ar nr cr, .slice al ns cs, .int .i64 E.tags, .int .i64 E.skills, .int .i64 E.q, .int .i64 (E.nQ : Int), .int .i64 u]] w fun e w' => e = .returned (.int .i64 (max (r.getD m 0) (r.getD m' 0))) ∧ Below w.heap.size w w' := by
  obtain ⟨g, o, rfl, e1⟩ := hr.at (i := m) (by omega)
  obtain ⟨g', o', hgo, e2⟩ := hr.at (i := m') (by omega)
  obtain ⟨rfl, rfl⟩ : g = g' ∧ o = o' := by simpa using hgo
  clear hgo
  have g1 := lt_of_cell e1
  have m0 : (0 : Int) ≤ (m : Int) := by omega
  have m1 : (m : Int) < (nr : Int) := by omega
  have n0 : (0 : Int) ≤ (m' : Int) := by omega
  have n1 : (m' : Int) < (nr : Int) := by omega
  have bd := Br m
  have bd' := Br m'
  clear hr hs hnr hns Br Bs hE
  generalize r.getD m 0 = A at *
  generalize r.getD m' 0 = A' at *
  go_enter Tryz.func97, Tryz.ntmps97
  go_wp2_with fail
  go_quiet ((go_at_call 116; exact Calls.quiet_of_same (maxS _ _ _)))
  go_wp2
  go_ret
  exact ⟨rfl, below_drewN' (by go_grown) _⟩
set_option maxHeartbeats 1600000 in
set_option maxRecDepth 100000 in
theorem v11 (E : En) (ar al : Option Addr) (cr cs nr ns : Nat) (r s : List Int) (u : Int) (w : World) (hr : Li w ar r) (hs : Li w al s) (hnr : nr = r.length) (hns : ns = s.length) (lr : nr ≤ 1000) (ls : ns ≤ 100000) (Br : Bd r) (Bs : Bd s) (hE : EnOk E) (a : Int) (m m' : Nat) (hm : m < nr) (hm' : m' < nr) :
    Calls Tryz.prog 97 #[.agg #[.int .i64 11, .int .i64 a, .int .i64 (m : Int), .int .i64 (m' : Int)], .agg #[.slice ar nr cr, .slice al ns cs, .int .i64 E.tags, .int .i64 E.skills, .int .i64 E.q, .int .i64 (E.nQ : Int), .int .i64 u]] w fun e w' => e = .returned (.int .i64 (min (r.getD m 0) (r.getD m' 0))) ∧ Below w.heap.size w w' := by
  obtain ⟨g, o, rfl, e1⟩ := hr.at (i := m) (by omega)
  obtain ⟨g', o', hgo, e2⟩ := hr.at (i := m') (by omega)
  obtain ⟨rfl, rfl⟩ : g = g' ∧ o = o' := by simpa using hgo
  clear hgo
  have g1 := lt_of_cell e1
  have m0 : (0 : Int) ≤ (m : Int) := by omega
  have m1 : (m : Int) < (nr : Int) := by omega
  have n0 : (0 : Int) ≤ (m' : Int) := by omega
  have n1 : (m' : Int) < (nr : Int) := by omega
  have bd := Br m
  have bd' := Br m'
  clear hr hs hnr hns Br Bs hE
  generalize r.getD m 0 = A at *
  generalize r.getD m' 0 = A' at *
  have hmn : IntKind.i64.wrap (-max (-A) (-A')) = min A A' := by rw [IntKind.wrap_i64]; omega
  go_enter Tryz.func97, Tryz.ntmps97
  go_wp2_with fail
  go_quiet ((go_at_call 116; exact Calls.quiet_of_same (maxS _ _ _)))
  go_wp2
  go_ret
  exact ⟨ret_int (by first | exact hmn | omega), below_drewN' (by go_grown) _⟩
set_option maxHeartbeats 1600000 in
set_option maxRecDepth 100000 in
theorem vbin (E : En) (ar al : Option Addr) (cr cs nr ns : Nat) (r s : List Int) (u : Int) (w : World) (hr : Li w ar r) (hs : Li w al s) (hnr : nr = r.length) (hns : ns = s.length) (lr : nr ≤ 1000) (ls : ns ≤ 100000) (Br : Bd r) (Bs : Bd s) (hE : EnOk E) (a : Int) (p : Int) (p0 : 5 ≤ p) (p1 : p ≤ 10) (m m' : Nat) (hm : m < nr) (hm' : m' < nr) :
    Calls Tryz.prog 97 #[.agg #[.int .i64 p, .int .i64 a, .int .i64 (m : Int), .int .i64 (m' : Int)], .agg #[.slice ar nr cr, .slice al ns cs, .int .i64 E.tags, .int .i64 E.skills, .int .i64 E.q, .int .i64 (E.nQ : Int), .int .i64 u]] w fun e w' => e = .returned (.int .i64 (if p - 5 = 0 then smul (r.getD m 0) (r.getD m' 0) else if p - 5 = 1 then sadd (r.getD m 0) (r.getD m' 0) else if p - 5 = 2 then sadd (r.getD m 0) (-r.getD m' 0) else if p - 5 = 3 then bit (decide (r.getD m 0 < r.getD m' 0)) else if p - 5 = 4 then bit (decide (r.getD m 0 ≤ r.getD m' 0)) else bit (r.getD m 0 == r.getD m' 0))) ∧ Below w.heap.size w w' := by
  obtain ⟨g, o, rfl, e1⟩ := hr.at (i := m) (by omega)
  obtain ⟨g', o', hgo, e2⟩ := hr.at (i := m') (by omega)
  obtain ⟨rfl, rfl⟩ : g = g' ∧ o = o' := by simpa using hgo
  clear hgo
  have g1 := lt_of_cell e1
  have m0 : (0 : Int) ≤ (m : Int) := by omega
  have m1 : (m : Int) < (nr : Int) := by omega
  have n0 : (0 : Int) ≤ (m' : Int) := by omega
  have n1 : (m' : Int) < (nr : Int) := by omega
  have bd := Br m
  have bd' := Br m'
  clear hr hs hnr hns Br Bs hE
  generalize r.getD m 0 = A at *
  generalize r.getD m' 0 = A' at *
  have hc : ∀ w : World, Calls Tryz.prog 132 #[.int .i64 (p - 5), .int .i64 A, .int .i64 A'] w fun e w' => e = .returned (.int .i64 (if p - 5 = 0 then smul A A' else if p - 5 = 1 then sadd A A' else if p - 5 = 2 then sadd A (-A') else if p - 5 = 3 then bit (decide (A < A')) else if p - 5 = 4 then bit (decide (A ≤ A')) else bit (A == A'))) ∧ w' = w := fun w => binS (p - 5) A A' w (by omega) (by omega) (by omega) (by omega) (by omega) (by omega)
  have : p = 5 ∨ p = 6 ∨ p = 7 ∨ p = 8 ∨ p = 9 ∨ p = 10 := by omega
  rcases this with rfl | rfl | rfl | rfl | rfl | rfl
  all_goals
    go_enter Tryz.func97, Tryz.ntmps97
    go_wp2_with fail
    go_quiet ((go_at_call 132; exact Calls.quiet_of_same (hc _)))
    go_wp2
    go_ret
    exact ⟨rfl, below_drewN' (by go_grown) _⟩
end Go.Proofs.YtgooegcmgejfpaaGreatDoor.Mac
