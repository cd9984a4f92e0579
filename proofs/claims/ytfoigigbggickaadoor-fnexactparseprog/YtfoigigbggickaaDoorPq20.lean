import Derived.Test.YtfoigigbggickaaDoorPq09
import Derived.Test.YtfoigigbggickaaDoorPq19
namespace Go.Proofs.YtfoigigbggickaaDoor.Par
open Go Go.RowKit Go.Proofs.YtfoigigbggickaaDoor.Mem Go.Proofs.YtfoigigbggickaaDoor.Syn Go.Proofs.YtfoigigbggickaaDoor.Parse
set_option linter.unusedVariables false
set_option linter.unusedSimpArgs false
attribute [local go_sem ↓] Go.wp_at_zero Go.wp_at_succ

/-- A token as the specification keeps it. -/
def kS (x : Tk) : Int := if x.k = 0 then 4 else if x.k = 1 then 2 else if x.k = 50 then 5 else if x.k = 51 then 6 else if x.n = [] then 3 else 1
def wS (x : Tk) : List UInt8 := if x.n = [] then twAt x.k else x.n
def tk4 (x : Tk) : List Value := [.int .i64 (kS x), .int .i64 x.v, .string ⟨(wS x).toArray⟩, .int .i64 (x.at' : Int)]
/-- The symbol as the specification looks for it. -/
def symR (c : UInt8) (r : List UInt8) : List UInt8 :=
  if c = 60 ∧ r.head? = some 61 then [60, 61] else if c = 46 ∧ r.head? = some 46 then [46, 46]
  else if c = 59 ∨ c = 44 ∨ c = 40 ∨ c = 41 ∨ c = 43 ∨ c = 45 ∨ c = 42 ∨ c = 61 ∨ c = 60 then [c] else []
theorem symR_eq (c : UInt8) (r : List UInt8) : symR c r = twAt (symL (c :: r)) := by
  have t0 : twAt 0 = [] := rfl
  have t3 : twAt 3 = [59] := rfl
  have t4 : twAt 4 = [44] := rfl
  have t5 : twAt 5 = [40] := rfl
  have t6 : twAt 6 = [41] := rfl
  have t7 : twAt 7 = [46, 46] := rfl
  have t8 : twAt 8 = [42] := rfl
  have t9 : twAt 9 = [43] := rfl
  have t10 : twAt 10 = [45] := rfl
  have t11 : twAt 11 = [60] := rfl
  have t12 : twAt 12 = [60, 61] := rfl
  have t13 : twAt 13 = [61] := rfl
  by_cases h : c = 59
  · subst h; simp [symR, symL, t0, t3, t4, t5, t6, t7, t8, t9, t10, t11, t12, t13]
  by_cases h : c = 44
  · subst h; simp [symR, symL, t0, t3, t4, t5, t6, t7, t8, t9, t10, t11, t12, t13]
  by_cases h : c = 40
  · subst h; simp [symR, symL, t0, t3, t4, t5, t6, t7, t8, t9, t10, t11, t12, t13]
  by_cases h : c = 41
  · subst h; simp [symR, symL, t0, t3, t4, t5, t6, t7, t8, t9, t10, t11, t12, t13]
  by_cases h : c = 42
  · subst h; simp [symR, symL, t0, t3, t4, t5, t6, t7, t8, t9, t10, t11, t12, t13]
  by_cases h : c = 43
  · subst h; simp [symR, symL, t0, t3, t4, t5, t6, t7, t8, t9, t10, t11, t12, t13]
  by_cases h : c = 45
  · subst h; simp [symR, symL, t0, t3, t4, t5, t6, t7, t8, t9, t10, t11, t12, t13]
  by_cases h : c = 61
  · subst h; simp [symR, symL, t0, t3, t4, t5, t6, t7, t8, t9, t10, t11, t12, t13]
  by_cases h : c = 46
  · subst h
    by_cases h : r.head? = some 46 <;> simp [symR, symL, t0, t7, h]
  by_cases h : c = 60
  · subst h
    by_cases h : r.head? = some 61 <;> simp [symR, symL, t11, t12, h]
  rename_i n1 n2 n3 n4 n5 n6 n7 n8 n9
  have e : ∀ k : UInt8, ¬ c = k → ¬ c.toNat = k.toNat := fun k hk e => hk (toNat_eq.1 e)
  have b1 := e _ n1
  have b2 := e _ n2
  have b3 := e _ n3
  have b4 := e _ n4
  have b5 := e _ n5
  have b6 := e _ n6
  have b7 := e _ n7
  have b8 := e _ n8
  have b9 := e _ n9
  have b0 := e _ h
  simp at b0 b1 b2 b3 b4 b5 b6 b7 b8 b9
  simp [symR, symL, t0, h, n1, n2, n3, n4, n5, n6, n7, n8, n9, b0, b1, b2, b3, b4, b5, b6, b7, b8, b9]

set_option maxHeartbeats 3200000 in
set_option maxRecDepth 1000000 in
theorem symbolS (g q n c0 i : Nat) (c : UInt8) (r : List UInt8) (t : List UInt8) (w : World) (hr : Rd w (some ⟨g, q, none⟩) t) (hn : n = t.length) (hc : n ≤ c0) (hl : n ≤ 65536) (hd : t.drop i = c :: r) :
    Calls Tryd.prog 23 #[.slice (some ⟨g, q, none⟩) n c0, .int .i64 (i : Int)] w fun e w' => e = .returned (.string ⟨(symR c r).toArray⟩) ∧ w' = w := by
  have hlen : (c :: r).length = t.length - i := by rw [← hd, List.length_drop]
  have hin : i < n := by simp only [List.length_cons] at hlen; omega
  have hR := hr.drop i
  rw [hd] at hR
  have h1 := hR.take 1
  rw [List.take_succ_cons, List.take_zero] at h1
  have cv1 := conv_rd (P := Tryd.prog) w 22 9 5 (some ⟨g, q + i, none⟩) 1 (c0 - i) [c] rfl h1 Tryd.underlying22 Tryd.underlying5 Tryd.underlying9
  have k0 : (0 : Int) ≤ (i : Int) := by omega
  have e1 : IntKind.i64.wrap ((i : Int) + 1) = (i : Int) + 1 := by rw [IntKind.wrap_i64]; omega
  have e2 : IntKind.i64.wrap ((i : Int) + 2) = (i : Int) + 2 := by rw [IntKind.wrap_i64]; omega
  have x1 : (i : Int) + 1 ≤ (n : Int) := by omega
  have x2 : (i : Int) ≤ (i : Int) + 1 := by omega
  have s1 : i + 1 - i = 1 := by omega
  have s2 : i + 2 - i = 2 := by omega
  cases r with
  | nil =>
    have hn1 : i + 1 = n := by simp at hlen; omega
    have k1 : decide ((i : Int) + 1 < (n : Int)) = false := by simp; omega
    have v1 : (([] : List UInt8) == [60, 61]) = false := rfl
    have v2 : (([] : List UInt8) == [46, 46]) = false := rfl
    obtain ⟨r, hr0⟩ : ∃ r : List UInt8, r = [] := ⟨_, rfl⟩
    rw [← hr0]
    have hA : ¬ (c = 60 ∧ r.head? = some 61) := by rw [hr0]; simp
    have hB : ¬ (c = 46 ∧ r.head? = some 46) := by rw [hr0]; simp
    clear hr0 hd hlen hr hR h1 hn hn1
    by_cases g0 : c = 59
    · have u0 : (([c] : List UInt8) == [59]) = true := by simp [g0]
      have HV : Hid (symR c r = [c]) := by unfold Hid symR; rw [if_neg hA, if_neg hB, if_pos (by simp [g0])]
      clear hA hB g0
      go_enter Tryd.func23, Tryd.ntmps23
      go_wp2
      go_ret
      rw [HV.out]
      exact ⟨rfl, rfl⟩
    by_cases g1 : c = 44
    · have u0 : (([c] : List UInt8) == [59]) = false := by simpa using g0
      have u1 : (([c] : List UInt8) == [44]) = true := by simp [g1]
      have HV : Hid (symR c r = [c]) := by unfold Hid symR; rw [if_neg hA, if_neg hB, if_pos (by simp [g1])]
      clear hA hB g0 g1
      go_enter Tryd.func23, Tryd.ntmps23
      go_wp2
      go_ret
      rw [HV.out]
      exact ⟨rfl, rfl⟩
    by_cases g2 : c = 40
    · have u0 : (([c] : List UInt8) == [59]) = false := by simpa using g0
      have u1 : (([c] : List UInt8) == [44]) = false := by simpa using g1
      have u2 : (([c] : List UInt8) == [40]) = true := by simp [g2]
      have HV : Hid (symR c r = [c]) := by unfold Hid symR; rw [if_neg hA, if_neg hB, if_pos (by simp [g2])]
      clear hA hB g0 g1 g2
      go_enter Tryd.func23, Tryd.ntmps23
      go_wp2
      go_ret
      rw [HV.out]
      exact ⟨rfl, rfl⟩
    by_cases g3 : c = 41
    · have u0 : (([c] : List UInt8) == [59]) = false := by simpa using g0
      have u1 : (([c] : List UInt8) == [44]) = false := by simpa using g1
      have u2 : (([c] : List UInt8) == [40]) = false := by simpa using g2
      have u3 : (([c] : List UInt8) == [41]) = true := by simp [g3]
      have HV : Hid (symR c r = [c]) := by unfold Hid symR; rw [if_neg hA, if_neg hB, if_pos (by simp [g3])]
      clear hA hB g0 g1 g2 g3
      go_enter Tryd.func23, Tryd.ntmps23
      go_wp2
      go_ret
      rw [HV.out]
      exact ⟨rfl, rfl⟩
    by_cases g4 : c = 43
    · have u0 : (([c] : List UInt8) == [59]) = false := by simpa using g0
      have u1 : (([c] : List UInt8) == [44]) = false := by simpa using g1
      have u2 : (([c] : List UInt8) == [40]) = false := by simpa using g2
      have u3 : (([c] : List UInt8) == [41]) = false := by simpa using g3
      have u4 : (([c] : List UInt8) == [43]) = true := by simp [g4]
      have HV : Hid (symR c r = [c]) := by unfold Hid symR; rw [if_neg hA, if_neg hB, if_pos (by simp [g4])]
      clear hA hB g0 g1 g2 g3 g4
      go_enter Tryd.func23, Tryd.ntmps23
      go_wp2
      go_ret
      rw [HV.out]
      exact ⟨rfl, rfl⟩
    by_cases g5 : c = 45
    · have u0 : (([c] : List UInt8) == [59]) = false := by simpa using g0
      have u1 : (([c] : List UInt8) == [44]) = false := by simpa using g1
      have u2 : (([c] : List UInt8) == [40]) = false := by simpa using g2
      have u3 : (([c] : List UInt8) == [41]) = false := by simpa using g3
      have u4 : (([c] : List UInt8) == [43]) = false := by simpa using g4
      have u5 : (([c] : List UInt8) == [45]) = true := by simp [g5]
      have HV : Hid (symR c r = [c]) := by unfold Hid symR; rw [if_neg hA, if_neg hB, if_pos (by simp [g5])]
      clear hA hB g0 g1 g2 g3 g4 g5
      go_enter Tryd.func23, Tryd.ntmps23
      go_wp2
      go_ret
      rw [HV.out]
      exact ⟨rfl, rfl⟩
    by_cases g6 : c = 42
    · have u0 : (([c] : List UInt8) == [59]) = false := by simpa using g0
      have u1 : (([c] : List UInt8) == [44]) = false := by simpa using g1
      have u2 : (([c] : List UInt8) == [40]) = false := by simpa using g2
      have u3 : (([c] : List UInt8) == [41]) = false := by simpa using g3
      have u4 : (([c] : List UInt8) == [43]) = false := by simpa using g4
      have u5 : (([c] : List UInt8) == [45]) = false := by simpa using g5
      have u6 : (([c] : List UInt8) == [42]) = true := by simp [g6]
      have HV : Hid (symR c r = [c]) := by unfold Hid symR; rw [if_neg hA, if_neg hB, if_pos (by simp [g6])]
      clear hA hB g0 g1 g2 g3 g4 g5 g6
      go_enter Tryd.func23, Tryd.ntmps23
      go_wp2
      go_ret
      rw [HV.out]
      exact ⟨rfl, rfl⟩
    by_cases g7 : c = 61
    · have u0 : (([c] : List UInt8) == [59]) = false := by simpa using g0
      have u1 : (([c] : List UInt8) == [44]) = false := by simpa using g1
      have u2 : (([c] : List UInt8) == [40]) = false := by simpa using g2
      have u3 : (([c] : List UInt8) == [41]) = false := by simpa using g3
      have u4 : (([c] : List UInt8) == [43]) = false := by simpa using g4
      have u5 : (([c] : List UInt8) == [45]) = false := by simpa using g5
      have u6 : (([c] : List UInt8) == [42]) = false := by simpa using g6
      have u7 : (([c] : List UInt8) == [61]) = true := by simp [g7]
      have HV : Hid (symR c r = [c]) := by unfold Hid symR; rw [if_neg hA, if_neg hB, if_pos (by simp [g7])]
      clear hA hB g0 g1 g2 g3 g4 g5 g6 g7
      go_enter Tryd.func23, Tryd.ntmps23
      go_wp2
      go_ret
      rw [HV.out]
      exact ⟨rfl, rfl⟩
    by_cases g8 : c = 60
    · have u0 : (([c] : List UInt8) == [59]) = false := by simpa using g0
      have u1 : (([c] : List UInt8) == [44]) = false := by simpa using g1
      have u2 : (([c] : List UInt8) == [40]) = false := by simpa using g2
      have u3 : (([c] : List UInt8) == [41]) = false := by simpa using g3
      have u4 : (([c] : List UInt8) == [43]) = false := by simpa using g4
      have u5 : (([c] : List UInt8) == [45]) = false := by simpa using g5
      have u6 : (([c] : List UInt8) == [42]) = false := by simpa using g6
      have u7 : (([c] : List UInt8) == [61]) = false := by simpa using g7
      have u8 : (([c] : List UInt8) == [60]) = true := by simp [g8]
      have HV : Hid (symR c r = [c]) := by unfold Hid symR; rw [if_neg hA, if_neg hB, if_pos (by simp [g8])]
      clear hA hB g0 g1 g2 g3 g4 g5 g6 g7 g8
      go_enter Tryd.func23, Tryd.ntmps23
      go_wp2
      go_ret
      rw [HV.out]
      exact ⟨rfl, rfl⟩
    have u0 : (([c] : List UInt8) == [59]) = false := by simpa using g0
    have u1 : (([c] : List UInt8) == [44]) = false := by simpa using g1
    have u2 : (([c] : List UInt8) == [40]) = false := by simpa using g2
    have u3 : (([c] : List UInt8) == [41]) = false := by simpa using g3
    have u4 : (([c] : List UInt8) == [43]) = false := by simpa using g4
    have u5 : (([c] : List UInt8) == [45]) = false := by simpa using g5
    have u6 : (([c] : List UInt8) == [42]) = false := by simpa using g6
    have u7 : (([c] : List UInt8) == [61]) = false := by simpa using g7
    have u8 : (([c] : List UInt8) == [60]) = false := by simpa using g8
    have HV : Hid (symR c r = []) := by unfold Hid symR; rw [if_neg hA, if_neg hB, if_neg (by simp [g0, g1, g2, g3, g4, g5, g6, g7, g8])]
    clear hA hB g0 g1 g2 g3 g4 g5 g6 g7 g8
    go_enter Tryd.func23, Tryd.ntmps23
    go_wp2
    go_ret
    rw [HV.out]
    exact ⟨rfl, rfl⟩
  | cons d r0 =>
    have hlt : i + 1 < n := by simp at hlen; omega
    have k1 : (i : Int) + 1 < (n : Int) := by omega
    have x3 : (i : Int) + 2 ≤ (n : Int) := by omega
    have h2 := hR.take 2
    rw [List.take_succ_cons, List.take_succ_cons, List.take_zero] at h2
    have cv2 := conv_rd (P := Tryd.prog) w 22 9 5 (some ⟨g, q + i, none⟩) 2 (c0 - i) [c, d] rfl h2 Tryd.underlying22 Tryd.underlying5 Tryd.underlying9
    obtain ⟨r, hr0⟩ : ∃ r : List UInt8, r = d :: r0 := ⟨_, rfl⟩
    rw [← hr0]
    by_cases hA : c = 60 ∧ r.head? = some 61
    · have hd61 : d = 61 := by have := hA.2; rw [hr0] at this; simpa using this
      have v1 : (([c, d] : List UInt8) == [60, 61]) = true := by simp [hA.1, hd61]
      have HV : Hid (symR c r = [c, d]) := by unfold Hid symR; rw [if_pos hA, hA.1, hd61]
      clear hA hd61 hr0 hd hlen hr hR h1 h2 hn
      go_enter Tryd.func23, Tryd.ntmps23
      go_wp2
      go_ret
      rw [HV.out]
      exact ⟨rfl, rfl⟩
    have v1 : (([c, d] : List UInt8) == [60, 61]) = false := by
      rw [hr0] at hA
      simp at hA ⊢
      exact hA
    by_cases hB : c = 46 ∧ r.head? = some 46
    · have hd46 : d = 46 := by have := hB.2; rw [hr0] at this; simpa using this
      have v2 : (([c, d] : List UInt8) == [46, 46]) = true := by simp [hB.1, hd46]
      have HV : Hid (symR c r = [c, d]) := by unfold Hid symR; rw [if_neg hA, if_pos hB, hB.1, hd46]
      clear hA hB hd46 hr0 hd hlen hr hR h1 h2 hn
      go_enter Tryd.func23, Tryd.ntmps23
      go_wp2
      go_ret
      rw [HV.out]
      exact ⟨rfl, rfl⟩
    have v2 : (([c, d] : List UInt8) == [46, 46]) = false := by
      rw [hr0] at hB
      simp at hB ⊢
      exact hB
    clear hr0 hd hlen hr hR h1 h2 hn
    by_cases g0 : c = 59
    · have u0 : (([c] : List UInt8) == [59]) = true := by simp [g0]
      have HV : Hid (symR c r = [c]) := by unfold Hid symR; rw [if_neg hA, if_neg hB, if_pos (by simp [g0])]
      clear hA hB g0
      go_enter Tryd.func23, Tryd.ntmps23
      go_wp2
      go_ret
      rw [HV.out]
      exact ⟨rfl, rfl⟩
    by_cases g1 : c = 44
    · have u0 : (([c] : List UInt8) == [59]) = false := by simpa using g0
      have u1 : (([c] : List UInt8) == [44]) = true := by simp [g1]
      have HV : Hid (symR c r = [c]) := by unfold Hid symR; rw [if_neg hA, if_neg hB, if_pos (by simp [g1])]
      clear hA hB g0 g1
      go_enter Tryd.func23, Tryd.ntmps23
      go_wp2
      go_ret
      rw [HV.out]
      exact ⟨rfl, rfl⟩
    by_cases g2 : c = 40
    · have u0 : (([c] : List UInt8) == [59]) = false := by simpa using g0
      have u1 : (([c] : List UInt8) == [44]) = false := by simpa using g1
      have u2 : (([c] : List UInt8) == [40]) = true := by simp [g2]
      have HV : Hid (symR c r = [c]) := by unfold Hid symR; rw [if_neg hA, if_neg hB, if_pos (by simp [g2])]
      clear hA hB g0 g1 g2
      go_enter Tryd.func23, Tryd.ntmps23
      go_wp2
      go_ret
      rw [HV.out]
      exact ⟨rfl, rfl⟩
    by_cases g3 : c = 41
    · have u0 : (([c] : List UInt8) == [59]) = false := by simpa using g0
      have u1 : (([c] : List UInt8) == [44]) = false := by simpa using g1
      have u2 : (([c] : List UInt8) == [40]) = false := by simpa using g2
      have u3 : (([c] : List UInt8) == [41]) = true := by simp [g3]
      have HV : Hid (symR c r = [c]) := by unfold Hid symR; rw [if_neg hA, if_neg hB, if_pos (by simp [g3])]
      clear hA hB g0 g1 g2 g3
      go_enter Tryd.func23, Tryd.ntmps23
      go_wp2
      go_ret
      rw [HV.out]
      exact ⟨rfl, rfl⟩
    by_cases g4 : c = 43
    · have u0 : (([c] : List UInt8) == [59]) = false := by simpa using g0
      have u1 : (([c] : List UInt8) == [44]) = false := by simpa using g1
      have u2 : (([c] : List UInt8) == [40]) = false := by simpa using g2
      have u3 : (([c] : List UInt8) == [41]) = false := by simpa using g3
      have u4 : (([c] : List UInt8) == [43]) = true := by simp [g4]
      have HV : Hid (symR c r = [c]) := by unfold Hid symR; rw [if_neg hA, if_neg hB, if_pos (by simp [g4])]
      clear hA hB g0 g1 g2 g3 g4
      go_enter Tryd.func23, Tryd.ntmps23
      go_wp2
      go_ret
      rw [HV.out]
      exact ⟨rfl, rfl⟩
    by_cases g5 : c = 45
    · have u0 : (([c] : List UInt8) == [59]) = false := by simpa using g0
      have u1 : (([c] : List UInt8) == [44]) = false := by simpa using g1
      have u2 : (([c] : List UInt8) == [40]) = false := by simpa using g2
      have u3 : (([c] : List UInt8) == [41]) = false := by simpa using g3
      have u4 : (([c] : List UInt8) == [43]) = false := by simpa using g4
      have u5 : (([c] : List UInt8) == [45]) = true := by simp [g5]
      have HV : Hid (symR c r = [c]) := by unfold Hid symR; rw [if_neg hA, if_neg hB, if_pos (by simp [g5])]
      clear hA hB g0 g1 g2 g3 g4 g5
      go_enter Tryd.func23, Tryd.ntmps23
      go_wp2
      go_ret
      rw [HV.out]
      exact ⟨rfl, rfl⟩
    by_cases g6 : c = 42
    · have u0 : (([c] : List UInt8) == [59]) = false := by simpa using g0
      have u1 : (([c] : List UInt8) == [44]) = false := by simpa using g1
      have u2 : (([c] : List UInt8) == [40]) = false := by simpa using g2
      have u3 : (([c] : List UInt8) == [41]) = false := by simpa using g3
      have u4 : (([c] : List UInt8) == [43]) = false := by simpa using g4
      have u5 : (([c] : List UInt8) == [45]) = false := by simpa using g5
      have u6 : (([c] : List UInt8) == [42]) = true := by simp [g6]
      have HV : Hid (symR c r = [c]) := by unfold Hid symR; rw [if_neg hA, if_neg hB, if_pos (by simp [g6])]
      clear hA hB g0 g1 g2 g3 g4 g5 g6
      go_enter Tryd.func23, Tryd.ntmps23
      go_wp2
      go_ret
      rw [HV.out]
      exact ⟨rfl, rfl⟩
    by_cases g7 : c = 61
    · have u0 : (([c] : List UInt8) == [59]) = false := by simpa using g0
      have u1 : (([c] : List UInt8) == [44]) = false := by simpa using g1
      have u2 : (([c] : List UInt8) == [40]) = false := by simpa using g2
      have u3 : (([c] : List UInt8) == [41]) = false := by simpa using g3
      have u4 : (([c] : List UInt8) == [43]) = false := by simpa using g4
      have u5 : (([c] : List UInt8) == [45]) = false := by simpa using g5
      have u6 : (([c] : List UInt8) == [42]) = false := by simpa using g6
      have u7 : (([c] : List UInt8) == [61]) = true := by simp [g7]
      have HV : Hid (symR c r = [c]) := by unfold Hid symR; rw [if_neg hA, if_neg hB, if_pos (by simp [g7])]
      clear hA hB g0 g1 g2 g3 g4 g5 g6 g7
      go_enter Tryd.func23, Tryd.ntmps23
      go_wp2
      go_ret
      rw [HV.out]
      exact ⟨rfl, rfl⟩
    by_cases g8 : c = 60
    · have u0 : (([c] : List UInt8) == [59]) = false := by simpa using g0
      have u1 : (([c] : List UInt8) == [44]) = false := by simpa using g1
      have u2 : (([c] : List UInt8) == [40]) = false := by simpa using g2
      have u3 : (([c] : List UInt8) == [41]) = false := by simpa using g3
      have u4 : (([c] : List UInt8) == [43]) = false := by simpa using g4
      have u5 : (([c] : List UInt8) == [45]) = false := by simpa using g5
      have u6 : (([c] : List UInt8) == [42]) = false := by simpa using g6
      have u7 : (([c] : List UInt8) == [61]) = false := by simpa using g7
      have u8 : (([c] : List UInt8) == [60]) = true := by simp [g8]
      have HV : Hid (symR c r = [c]) := by unfold Hid symR; rw [if_neg hA, if_neg hB, if_pos (by simp [g8])]
      clear hA hB g0 g1 g2 g3 g4 g5 g6 g7 g8
      go_enter Tryd.func23, Tryd.ntmps23
      go_wp2
      go_ret
      rw [HV.out]
      exact ⟨rfl, rfl⟩
    have u0 : (([c] : List UInt8) == [59]) = false := by simpa using g0
    have u1 : (([c] : List UInt8) == [44]) = false := by simpa using g1
    have u2 : (([c] : List UInt8) == [40]) = false := by simpa using g2
    have u3 : (([c] : List UInt8) == [41]) = false := by simpa using g3
    have u4 : (([c] : List UInt8) == [43]) = false := by simpa using g4
    have u5 : (([c] : List UInt8) == [45]) = false := by simpa using g5
    have u6 : (([c] : List UInt8) == [42]) = false := by simpa using g6
    have u7 : (([c] : List UInt8) == [61]) = false := by simpa using g7
    have u8 : (([c] : List UInt8) == [60]) = false := by simpa using g8
    have HV : Hid (symR c r = []) := by unfold Hid symR; rw [if_neg hA, if_neg hB, if_neg (by simp [g0, g1, g2, g3, g4, g5, g6, g7, g8])]
    clear hA hB g0 g1 g2 g3 g4 g5 g6 g7 g8
    go_enter Tryd.func23, Tryd.ntmps23
    go_wp2
    go_ret
    rw [HV.out]
    exact ⟨rfl, rfl⟩

set_option maxHeartbeats 3200000 in
set_option maxRecDepth 1000000 in
theorem runS (g q c0 : Nat) (n : List UInt8) (m : Nat) (i : Nat) (x : Tk) (w : World) (hr : Rd w (some ⟨g, q, none⟩) n) (hm : m = n.length) (hc : m ≤ c0) (hl : m ≤ 65536) (h0 : 0 < m)
    (hx : x = if 97 ≤ (n.getD 0 0).toNat then (if n.length ≤ 16 then ⟨wk n, i, n, 0⟩ else ⟨51, i, [], 0⟩) else if plain n = true then ⟨1, i, [], dec n⟩ else ⟨51, i, [], 0⟩) (h45 : n.head? ≠ some 45) :
    Calls Tryd.prog 22 #[.slice (some ⟨g, q, none⟩) m c0, .int .i64 (i : Int)] w fun e w' => e = .returned (.agg (tk4 x).toArray) ∧ Below w.heap.size w w' := by
  have y0 := hr.at 0 (by omega)
  rw [Nat.add_zero] at y0
  have hg0 : n[0]'(by omega) = n.getD 0 0 := by simp [List.getD, show 0 < n.length by omega]
  rw [hg0] at y0
  obtain ⟨u, hu⟩ : ∃ u, u = n.getD 0 0 := ⟨_, rfl⟩
  rw [← hu] at y0 hx
  have hglt := lt_of_cell y0
  have cv := conv_rd (P := Tryd.prog) (w.alloc (.cells #[.int .i64 0, .int .i64 0, .string ⟨#[]⟩, .int .i64 0] 40)) 22 9 5 (some ⟨g, q, none⟩) m c0 n hm (hr.below (below_alloc' (Below.refl _ _) _)) Tryd.underlying22 Tryd.underlying5 Tryd.underlying9
  have CI := Hid.mk (isNumS (some ⟨g, q, none⟩) n m c0 (w.alloc (.cells #[.int .i64 0, .int .i64 0, .string ⟨#[]⟩, .int .i64 0] 40)) hm hc (hr.below (below_alloc' (Below.refl _ _) _)) (by omega))
  have CN := Hid.mk (fun hv => numS (some ⟨g, q, none⟩) n m c0 (w.alloc (.cells #[.int .i64 0, .int .i64 0, .string ⟨#[]⟩, .int .i64 0] 40)) hm hc (hr.below (below_alloc' (Below.refl _ _) _)) hv)
  obtain ⟨hi1, hi2⟩ := isNum_pos h45
  rw [hi1] at CI
  rw [hi1, hi2] at CN
  have hnil : n ≠ [] := fun e => by rw [e] at hm; simp at hm; omega
  have z0 : (0 : Int) < (m : Int) := by omega
  have HM := Hid.mk hm
  clear hr hu hg0 h45 hi1 hi2
  by_cases h97 : 97 ≤ u.toNat
  · rw [if_pos h97] at hx
    have k1 : (97 : Int) ≤ (u.toNat : Int) := by omega
    by_cases h16 : n.length ≤ 16
    · rw [if_pos h16] at hx
      have k2 : decide ((16 : Int) < (m : Int)) = false := by have := HM.out; simp; omega
      have hwl := wk_le n
      have hwg := wk_ge n
      have HX : Hid (tk4 x = [.int .i64 1, .int .i64 0, .string ⟨n.toArray⟩, .int .i64 (i : Int)]) := by
        unfold Hid; rw [hx]; unfold tk4 kS wS; dsimp only
        rw [if_neg (by omega), if_neg (by omega), if_neg (by omega), if_neg (by omega), if_neg hnil, if_neg hnil]
      clear hx h16 hwl hwg h97 hnil hm
      go_enter Tryd.func22, Tryd.ntmps22
      go_wp2
      refine bodyPost_ret (by simp [results, Tryd.results22, go_sem]; try rfl) rfl ?_
      rw [HX.out]
      exact ⟨rfl, by go_grown⟩
    · rw [if_neg h16] at hx
      have k2 : (16 : Int) < (m : Int) := by have := HM.out; omega
      have HX : Hid (tk4 x = [.int .i64 6, .int .i64 0, .string ⟨#[]⟩, .int .i64 (i : Int)]) := by unfold Hid; rw [hx]; rfl
      clear hx h16 h97 hnil hm
      go_enter Tryd.func22, Tryd.ntmps22
      go_wp2
      refine bodyPost_ret (by simp [results, Tryd.results22, go_sem]; try rfl) rfl ?_
      rw [HX.out]
      exact ⟨rfl, by go_grown⟩
  · rw [if_neg h97] at hx
    have k1 : decide ((97 : Int) ≤ (u.toNat : Int)) = false := by simp; omega
    cases hp : plain n with
    | true =>
      rw [hp, if_pos rfl] at hx
      have CN := Hid.mk (CN.out hp)
      rw [hp] at CI
      obtain ⟨D, hD⟩ : ∃ D, D = dec n := ⟨_, rfl⟩
      rw [← hD] at CN hx
      have HX : Hid (tk4 x = [.int .i64 2, .int .i64 D, .string ⟨#[]⟩, .int .i64 (i : Int)]) := by unfold Hid; rw [hx]; rfl
      clear hx h97 hnil hm hp hD cv
      go_enter Tryd.func22, Tryd.ntmps22
      go_wp2_with (first | (go_at_call 37; go_must (refine CI.out.mono ?_; rintro e w' ⟨rfl, rfl⟩)) | (go_at_call 38; go_must (refine CN.out.mono ?_; rintro e w5 ⟨rfl, hb⟩; have RB := Hid.mk (blk_below (blk_new w (.cells #[.int .i64 0, .int .i64 0, .string ⟨#[]⟩, .int .i64 0] 40)) hb); have HB := Hid.mk (below_then (below_alloc' (Below.refl w.heap.size w) _) hb); have r0 := (blk_cell RB.out 0).trans rfl; have r1 := (blk_cell RB.out 1).trans rfl; have r2 := (blk_cell RB.out 2).trans rfl; have r3 := (blk_cell RB.out 3).trans rfl; have q0 := blk_unfrozen RB.out 0; have q1 := blk_unfrozen RB.out 1; have q2 := blk_unfrozen RB.out 2; have q3 := blk_unfrozen RB.out 3; clear hb)))
      refine bodyPost_ret (by simp [results, Tryd.results22, go_sem, r0, r1, r2, r3]; try rfl) rfl ?_
      rw [HX.out]
      exact ⟨rfl, (((HB.out.setCell (p := ⟨w.heap.size, 0, none⟩) (Nat.le_refl _) _).setCell (p := ⟨w.heap.size, 1, none⟩) (Nat.le_refl _) _).setCell (p := ⟨w.heap.size, 2, none⟩) (Nat.le_refl _) _).setCell (p := ⟨w.heap.size, 3, none⟩) (Nat.le_refl _) _⟩
    | false =>
      rw [hp] at hx CI
      rw [if_neg (by simp)] at hx
      have HX : Hid (tk4 x = [.int .i64 6, .int .i64 0, .string ⟨#[]⟩, .int .i64 (i : Int)]) := by unfold Hid; rw [hx]; rfl
      clear hx h97 hnil hm hp cv
      go_enter Tryd.func22, Tryd.ntmps22
      go_wp2_with (go_at_call 37; go_must (refine CI.out.mono ?_; rintro e w' ⟨rfl, rfl⟩))
      refine bodyPost_ret (by simp [results, Tryd.results22, go_sem]; try rfl) rfl ?_
      rw [HX.out]
      exact ⟨rfl, by go_grown⟩

end Go.Proofs.YtfoigigbggickaaDoor.Par
