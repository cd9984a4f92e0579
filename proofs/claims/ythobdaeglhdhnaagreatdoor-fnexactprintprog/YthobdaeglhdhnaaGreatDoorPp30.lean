import Derived.Test.YthobdaeglhdhnaaGreatDoorPp29
namespace Go.Proofs.YthobdaeglhdhnaaGreatDoor.Syn
open Go Go.RowKit Go.Proofs.YthobdaeglhdhnaaGreatDoor.Mem
set_option linter.unusedVariables false
set_option linter.unusedSimpArgs false
attribute [local go_sem ↓] Go.wp_at_zero Go.wp_at_succ

instance : Inhabited Tr := ⟨.leaf default⟩
theorem mk_op {o : Po} {l : List Tr} : (mk o l).op = o := by
  unfold mk
  split
  · rfl
  · split <;> rfl
  · rfl
  · rfl
theorem mk_nst {o : Po} {l : List Tr} (h : opB o = true) (hl : l.length = ar o) : (mk o l).nst = apN o (fun i => l.getD i default) l.length := by
  obtain ⟨k0, k1, v0, v1⟩ := opB_ar h
  clear h
  unfold ar at hl
  split at hl
  · rename_i hk
    match l, hl with
    | [a], _ =>
      have := nst_bd a
      have hw : wrp o 0 a.str = decide (a.str ≤ 5) := by unfold wrp; rw [if_pos hk]
      have e0 : wn o (fun i => [a].getD i default) 0 = opn a.nst a.str 6 := by
        show (if wrp o 0 a.str = true then a.nst + 1 else a.nst) = _
        rw [hw]
        unfold opn
        by_cases hs : a.str ≤ 5
        · rw [if_pos (by simpa using hs), if_pos (by omega)]
        · rw [if_neg (by simpa using hs), if_neg (by omega)]
      have p0 : 0 ≤ opn a.nst a.str 6 := by unfold opn; split <;> omega
      simp only [mk, Tr.nst, apN, mxw, List.length_singleton, e0]
      rw [if_neg (by omega), if_neg (by omega)]
      split <;> omega
  · rename_i hk
    split at hl
    · rename_i hk'
      match l, hl with
      | [a, b], _ =>
        have := nst_bd a
        have := nst_bd b
        have hw0 : wrp o 0 a.str = (decide (a.str < bstr o.v) || (a.str == 3 && bstr o.v == 3)) := by unfold wrp; rw [if_neg hk, if_pos hk', if_pos rfl]
        have hw1 : wrp o 1 b.str = decide (b.str ≤ bstr o.v) := by unfold wrp; rw [if_neg hk, if_pos hk', if_neg (by omega)]
        have e0 : wn o (fun i => [a, b].getD i default) 0 = opn a.nst a.str (lL (bstr o.v)) := by
          show (if wrp o 0 a.str = true then a.nst + 1 else a.nst) = _
          rw [hw0]
          unfold opn lL
          by_cases h3 : bstr o.v = 3
          · rw [if_pos h3, h3]
            by_cases hs : a.str < 4
            · rw [if_pos hs, if_pos (by simp; omega)]
            · rw [if_neg hs, if_neg (by simp; omega)]
          · rw [if_neg h3]
            by_cases hs : a.str < bstr o.v
            · rw [if_pos hs, if_pos (by simp [hs])]
            · rw [if_neg hs, if_neg (by simp [hs, h3])]
        have e1 : wn o (fun i => [a, b].getD i default) 1 = opn b.nst b.str (bstr o.v + 1) := by
          show (if wrp o 1 b.str = true then b.nst + 1 else b.nst) = _
          rw [hw1]
          unfold opn
          by_cases hs : b.str ≤ bstr o.v
          · rw [if_pos (by simpa using hs), if_pos (by omega)]
          · rw [if_neg (by simpa using hs), if_neg (by omega)]
        have p0 : 0 ≤ opn a.nst a.str (lL (bstr o.v)) := by unfold opn; split <;> omega
        have p1 : 0 ≤ opn b.nst b.str (bstr o.v + 1) := by unfold opn; split <;> omega
        simp only [mk]
        rw [if_pos hk']
        simp only [Tr.nst, apN, mxw, List.length_cons, List.length_nil, e0, e1]
        rw [if_neg (by omega), if_pos hk']
        split <;> split <;> omega
    · rename_i hk'
      split at hl
      · rename_i hk2
        have hw : ∀ i s, wrp o i s = false := fun i s => by unfold wrp; rw [if_neg hk, if_neg hk']
        split at hl
        · match l, hl with
          | [a, b, c], _ =>
            have := nst_bd a
            have := nst_bd b
            have := nst_bd c
            have e : ∀ i, wn o (fun i => [a, b, c].getD i default) i = ([a, b, c].getD i default).nst := fun i => by unfold wn; rw [hw]; rfl
            simp only [mk, Tr.nst, apN, mxw, List.length_cons, List.length_nil, e, List.getD_cons_zero, List.getD_cons_succ]
            rw [if_neg (by omega), if_neg hk']
            split <;> split <;> split <;> omega
        · match l, hl with
          | [a, b], _ =>
            have := nst_bd a
            have := nst_bd b
            have e : ∀ i, wn o (fun i => [a, b].getD i default) i = ([a, b].getD i default).nst := fun i => by unfold wn; rw [hw]; rfl
            simp only [mk]
            rw [if_neg hk']
            simp only [Tr.nst, apN, mxw, List.length_cons, List.length_nil, e, List.getD_cons_zero, List.getD_cons_succ]
            rw [if_neg (by omega), if_neg hk']
            split <;> split <;> omega
      · match l, hl with
        | [], _ => rfl
theorem mk_cells {o : Po} {l : List Tr} (h : opB o = true) (hl : l.length = ar o) : vcells (mk o l) = [.int .i64 (pstr o), .int .i64 (apN o (fun i => l.getD i default) l.length), .slice none 0 0] := by
  unfold vcells
  rw [mk_nst h hl, Tr.str, mk_op]
def vrow (s : List Tr) : List Value := s.flatMap vcells
theorem vrow_len (s : List Tr) : (vrow s).length = s.length * 3 := by
  induction s with
  | nil => rfl
  | cons t r ih => unfold vrow at *; rw [List.flatMap_cons, List.length_append, ih]; simp [vcells]; omega
theorem vrow_app (a b : List Tr) : vrow (a ++ b) = vrow a ++ vrow b := by simp [vrow]
theorem vrow_take (s : List Tr) (m : Nat) : (vrow s).take (m * 3) = vrow (s.take m) := by
  induction s generalizing m with
  | nil => simp [vrow]
  | cons t r ih =>
    cases m with
    | zero => simp [vrow]
    | succ m =>
      have : vrow (t :: r) = vcells t ++ vrow r := by simp [vrow]
      rw [this, List.take_succ_cons]
      have h2 : vrow (t :: r.take m) = vcells t ++ vrow (r.take m) := by simp [vrow]
      rw [h2, ← ih m, show (m + 1) * 3 = (vcells t).length + m * 3 by simp [vcells]; omega, List.take_length_add_append]
theorem vrow_drop (s : List Tr) (m : Nat) : (vrow s).drop (m * 3) = vrow (s.drop m) := by
  induction s generalizing m with
  | nil => simp [vrow]
  | cons t r ih =>
    cases m with
    | zero => simp
    | succ m =>
      have : vrow (t :: r) = vcells t ++ vrow r := by simp [vrow]
      rw [this, List.drop_succ_cons, ← ih m, show (m + 1) * 3 = (vcells t).length + m * 3 by simp [vcells]; omega, List.drop_length_add_append]
theorem vrow_at (s : List Tr) (i : Nat) (hi : i < s.length) (q : Nat) (hq : q < 3) : (vrow s)[i * 3 + q]? = (vcells (s.getD i default))[q]? := by
  induction s generalizing i with
  | nil => simp at hi
  | cons t r ih =>
    have : vrow (t :: r) = vcells t ++ vrow r := by simp [vrow]
    rw [this]
    have hl : (vcells t).length = 3 := rfl
    cases i with
    | zero => rw [List.getElem?_append_left (by omega)]; simp
    | succ i =>
      rw [List.getElem?_append_right (by omega), hl, show (i + 1) * 3 + q - 3 = i * 3 + q by omega, ih i (by simpa using hi)]
      simp
theorem vrow_one (s : List Tr) : ∀ u ∈ vrow s, u.oneCell' = true := by
  intro u hu
  unfold vrow at hu
  obtain ⟨t, -, ht⟩ := List.mem_flatMap.1 hu
  simp only [vcells, List.mem_cons, List.not_mem_nil, or_false] at ht
  rcases ht with rfl | rfl | rfl <;> rfl
/-- The operands of the last row lie in a row of values. -/
theorem vrow_slice {w : World} {g off : Nat} {s : List Tr} (h : ∀ j u, (vrow s)[j]? = some u → w.cell? ⟨g, off + j, none⟩ = some u) : SliceAt w (some ⟨g, off, none⟩) s.length 3 (fun i => vcells (s.getD i default)) := by
  refine Or.inr ⟨g, off, rfl, fun i hi => ?_⟩
  intro q u hu
  have hq : q < 3 := by have := (List.getElem?_eq_some_iff.1 hu).1; exact this
  have := h (i * 3 + q) u (by rw [vrow_at s i hi q hq]; exact hu)
  rw [← Nat.add_assoc] at this
  exact this
end Go.Proofs.YthobdaeglhdhnaaGreatDoor.Syn
