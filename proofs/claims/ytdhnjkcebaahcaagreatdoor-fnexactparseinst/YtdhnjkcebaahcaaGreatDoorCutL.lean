import Derived.Test.YtdhnjkcebaahcaaGreatDoorSplitS
import Derived.Lib.IndexLaws
import Derived.Lib.Bytealg
namespace Go.Proofs.YtdhnjkcebaahcaaGreatDoor.Parse
open Go Go.RowKit Go.Proofs.YtdhnjkcebaahcaaGreatDoor.Mem
set_option linter.unusedVariables false
set_option linter.unusedSimpArgs false

theorem stp_add (sep : UInt8) : ∀ (bs : List UInt8) (L : List (List UInt8)) (c : List UInt8), bs.foldl (stp sep) (L, c) = (L ++ (bs.foldl (stp sep) ([], c)).1, (bs.foldl (stp sep) ([], c)).2)
  | [], L, c => by simp
  | b :: bs, L, c => by
    simp only [List.foldl_cons]
    by_cases h : b = sep
    · simp only [stp, h, if_true]
      rw [stp_add sep bs (L ++ [c]) [], stp_add sep bs ([] ++ [c]) []]
      simp
    · simp only [stp, h, if_false]
      rw [stp_add sep bs L (c ++ [b])]
theorem spl_no (sep : UInt8) : ∀ (bs : List UInt8) (c : List UInt8), sep ∉ bs → bs.foldl (stp sep) ([], c) = ([], c ++ bs)
  | [], c, _ => by simp
  | b :: bs, c, h => by
    have hb : b ≠ sep := fun e => h (by simp [e])
    rw [List.foldl_cons]
    simp only [stp, hb, if_false]
    rw [spl_no sep bs (c ++ [b]) (fun hm => h (by simp [hm]))]
    simp
theorem split_no {sep : UInt8} {bs : List UInt8} (h : sep ∉ bs) : split sep bs = [bs] := by
  unfold split spl
  rw [spl_no sep bs [] h]; simp
theorem split_cut {sep : UInt8} {f r : List UInt8} (h : sep ∉ f) : split sep (f ++ sep :: r) = f :: split sep r := by
  unfold split spl
  rw [List.foldl_append, spl_no sep f [] h, List.foldl_cons]
  simp only [stp, if_true]
  rw [stp_add]
  simp
theorem stp_count (sep : UInt8) : ∀ (bs : List UInt8) (L : List (List UInt8)) (c : List UInt8), (bs.foldl (stp sep) (L, c)).1.length = L.length + bs.count sep
  | [], L, c => by simp
  | b :: bs, L, c => by
    rw [List.foldl_cons, List.count_cons]
    by_cases h : b = sep
    · simp only [stp, h, if_true]
      rw [stp_count sep bs]; simp; omega
    · simp only [stp, h, if_false]
      rw [stp_count sep bs]; simp [h]
theorem split_count (sep : UInt8) (bs : List UInt8) : (split sep bs).length = bs.count sep + 1 := by
  unfold split spl
  rw [List.length_append, stp_count]; simp
/-- Where a byte stands first, and the parts around it. -/
theorem at_index {bs : List UInt8} {sep : UInt8} {k : Nat} (h : Lib.indexByte bs sep = k) : ∃ hk : k < bs.length, bs = bs.take k ++ sep :: bs.drop (k + 1) ∧ sep ∉ bs.take k := by
  obtain ⟨h1, h2⟩ := Lib.indexByte_some h
  obtain ⟨hk, e⟩ := List.getElem?_eq_some_iff.1 h1
  refine ⟨hk, ?_, ?_⟩
  · have := List.drop_eq_getElem_cons hk
    rw [e] at this
    rw [← this, List.take_append_drop]
  · intro hm
    obtain ⟨j, hj, e'⟩ := List.mem_iff_getElem.1 hm
    rw [List.length_take] at hj
    rw [List.getElem_take] at e'
    exact h2 j (by omega) (List.getElem?_eq_some_iff.2 ⟨by omega, e'⟩)
theorem index_none {bs : List UInt8} {sep : UInt8} (h : Lib.indexByte bs sep = -1) : sep ∉ bs := by
  intro hm
  obtain ⟨j, hj, e'⟩ := List.mem_iff_getElem.1 hm
  exact Lib.indexByte_none h j (List.getElem?_eq_some_iff.2 ⟨hj, e'⟩)

/-- Digits without a sign, in the program's words. -/
def plain (d : List UInt8) : Bool := decide (1 ≤ d.length) && decide (d.length ≤ 9) && !(decide (1 < d.length) && (d.head? == some 48)) && d.all digit
theorem dec_ge : ∀ (r : List UInt8), r.all digit = true → ∀ (b : UInt8), 49 ≤ b.toNat → 1 ≤ dec (b :: r) := by
  refine snoc_ind ?_ ?_
  · intro _ b hb
    simp [dec]; omega
  · intro l x ih h b hb
    rw [List.all_append] at h
    simp only [List.all_cons, List.all_nil, Bool.and_true, Bool.and_eq_true] at h
    have := ih h.1 b hb
    have h2 := h.2
    unfold digit at h2
    simp only [Bool.and_eq_true, decide_eq_true_eq] at h2
    rw [← List.cons_append, dec_snoc]
    omega
theorem plain_one {d : List UInt8} (h : plain d = true) : d = [48] ∨ (isDigs d = true ∧ 1 ≤ dec d) := by
  match d, h with
  | [], h => simp [plain] at h
  | [x], h =>
    by_cases e : x = 48
    · exact Or.inl (by rw [e])
    · refine Or.inr ⟨by simpa [plain, isDigs, e] using h, ?_⟩
      have hx : digit x = true := by simpa [plain] using h
      unfold digit at hx
      simp only [Bool.and_eq_true, decide_eq_true_eq] at hx
      have : x.toNat ≠ 48 := fun e' => e (UInt8.toNat_inj.1 e')
      simp [dec]; omega
  | x :: y :: r, h =>
    simp only [plain, Bool.and_eq_true] at h
    obtain ⟨⟨⟨h1, h2⟩, h3⟩, h4⟩ := h
    have e : x ≠ 48 := by intro e; subst e; simp at h3
    refine Or.inr ⟨by simp only [isDigs, Bool.and_eq_true]; exact ⟨⟨⟨h1, h2⟩, by simpa using e⟩, h4⟩, ?_⟩
    rw [List.all_cons, Bool.and_eq_true] at h4
    have hx := h4.1
    unfold digit at hx
    simp only [Bool.and_eq_true, decide_eq_true_eq] at hx
    have : x.toNat ≠ 48 := fun e' => e (UInt8.toNat_inj.1 e')
    exact dec_ge _ h4.2 x (by omega)
theorem digs_plain {d : List UInt8} (h : isDigs d = true) : plain d = true := by
  simp only [isDigs, Bool.and_eq_true] at h
  obtain ⟨⟨⟨h1, h2⟩, h3⟩, h4⟩ := h
  simp only [plain, Bool.and_eq_true]
  refine ⟨⟨⟨h1, h2⟩, ?_⟩, h4⟩
  have e : (d.head? == some 48) = false := by simpa using h3
  simp [e]
theorem isNum_pos {f : List UInt8} (h : f.head? ≠ some 45) : isNum f = plain f ∧ num f = dec f := by
  refine ⟨?_, by simp [num, h]⟩
  unfold isNum
  rw [if_neg h]
  cases hp : plain f with
  | true =>
    rcases plain_one hp with rfl | ⟨h1, -⟩
    · rfl
    · rw [h1]; simp
  | false =>
    have h1 : isDigs f = false := by
      cases hd : isDigs f with
      | false => rfl
      | true => rw [digs_plain hd] at hp; cases hp
    rw [h1]
    have : f ≠ [48] := by intro e; rw [e] at hp; revert hp; decide
    simpa using this
theorem isNum_neg {f : List UInt8} (h : f.head? = some 45) : isNum f = (plain f.tail && !(dec f.tail == 0)) ∧ num f = - dec f.tail := by
  refine ⟨?_, by simp [num, h]⟩
  have hne : (f == [48]) = false := by
    cases f with
    | nil => rfl
    | cons x r => simp at h; subst h; simp
  unfold isNum
  rw [if_pos h, hne, Bool.false_or]
  cases hp : plain f.tail with
  | true =>
    rcases plain_one hp with e | ⟨h1, h2⟩
    · rw [e]; rfl
    · rw [h1]; simp; omega
  | false =>
    cases hd : isDigs f.tail with
    | false => rfl
    | true => rw [digs_plain hd] at hp; cases hp
end Go.Proofs.YtdhnjkcebaahcaaGreatDoor.Parse
