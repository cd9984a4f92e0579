import Derived.Test.YthobdaeglhdhnaaGreatDoorPp07
import Derived.Test.YthobdaeglhdhnaaGreatDoorPp09
import Derived.Test.YthobdaeglhdhnaaGreatDoorPp10
namespace Go.Proofs.YthobdaeglhdhnaaGreatDoor.Syn
open Go Go.RowKit Go.Proofs.YthobdaeglhdhnaaGreatDoor.Mem
open Go.Proofs.YthobdaeglhdhnaaGreatDoor.Print (dec_len)
set_option linter.unusedVariables false
set_option linter.unusedSimpArgs false

/-- The letter of a tag. -/
def tagB (z : Int) : UInt8 := UInt8.ofNat (97 + z.toNat)
/-- The text of an Op that takes no operand. -/
def leafT (o : Po) : List UInt8 :=
  if o.k = 1 then Lib.itoa o.v else if o.k = 2 then o.n else if o.k = 4 then [104, 97, 115, 32, tagB o.v] else if o.k = 5 then [115, 107, 105, 108, 108, 32, tagB o.v]
  else if o.k = 6 then twAt (28 + o.v.toNat) else twAt (30 + o.v.toNat)
/-- A text in parentheses, or bare. -/
def par (b : Bool) (t : List UInt8) : List UInt8 := if b = true then [40] ++ t ++ [41] else t
def preT (o : Po) : List UInt8 := if o.k = 7 then [45] else [110, 111, 116, 32]
/-- The text of an expression. -/
def Tr.txt : Tr → List UInt8
  | .leaf o => leafT o
  | .pre o a => preT o ++ par (decide (a.str < 6)) a.txt
  | .bin o a b => par (decide (a.str < lL (bstr o.v))) a.txt ++ [32] ++ twAt (8 + o.v.toNat) ++ [32] ++ par (decide (b.str < bstr o.v + 1)) b.txt
  | .two o a b => twAt (25 + o.v.toNat) ++ [40] ++ a.txt ++ [44, 32] ++ b.txt ++ [41]
  | .three o a b c => twAt (25 + o.v.toNat) ++ [40] ++ a.txt ++ [44, 32] ++ b.txt ++ [44, 32] ++ c.txt ++ [41]
/-- Every Op of a tree is one. -/
def Tr.ops : Tr → Prop
  | .leaf o => opB o = true
  | .pre o a => opB o = true ∧ a.ops
  | .bin o a b => opB o = true ∧ a.ops ∧ b.ops
  | .two o a b => opB o = true ∧ a.ops ∧ b.ops
  | .three o a b c => opB o = true ∧ a.ops ∧ b.ops ∧ c.ops
theorem tw_len (m : Nat) : (twAt m).length ≤ 6 := by
  by_cases h : m < 50
  · have : ∀ i : Fin 50, (twAt i.val).length ≤ 6 := by decide
    exact this ⟨m, h⟩
  · unfold twAt
    rw [List.getD_eq_getElem?_getD, List.getElem?_eq_none (by have : tw.length = 50 := by decide
                                                              omega)]
    simp
theorem par_len (b : Bool) (t : List UInt8) : (par b t).length ≤ t.length + 2 := by
  unfold par; split <;> simp <;> omega
theorem itoa_len {z : Int} (h0 : 0 ≤ z) (h1 : z ≤ 999999999) : (Lib.itoa z).length ≤ 20 := by
  have e : Lib.itoa z = Lib.decDigits z.toNat := by
    unfold Lib.itoa
    rw [if_neg (by omega)]
  rw [e]
  have := dec_len 10 z.toNat (by omega) (by omega)
  omega
theorem name_len {n : List UInt8} (h : nameB n = true) : n.length ≤ 16 := by
  unfold nameB at h
  simp at h
  omega
theorem leaf_len {o : Po} (h : opB o = true) (hk : o.k ≤ 6) : (leafT o).length ≤ 20 := by
  obtain ⟨h1, h2, h3, h4⟩ := opB_ar h
  unfold leafT
  by_cases e1 : o.k = 1
  · rw [if_pos e1]
    exact itoa_len h3 (by rw [e1] at h4; simpa [opMax] using h4)
  rw [if_neg e1]
  by_cases e2 : o.k = 2
  · rw [if_pos e2]
    have : nameB o.n = true := by
      unfold opB at h
      simp only [Bool.and_eq_true] at h
      have := h.2
      rwa [if_pos e2] at this
    have := name_len this
    omega
  rw [if_neg e2]
  split
  · simp
  · split
    · simp
    · split <;> exact Nat.le_trans (tw_len _) (by omega)
theorem txt_len {t : Tr} (hw : t.wf) (ho : t.ops) : t.txt.length ≤ 40 * t.sz := by
  induction t with
  | leaf o =>
    have := leaf_len ho hw.2
    simp only [Tr.txt, Tr.sz]
    omega
  | pre o a ih =>
    have := ih hw.2 ho.2
    have h1 := par_len (decide (a.str < 6)) a.txt
    have h2 : (preT o).length ≤ 4 := by unfold preT; split <;> simp
    simp only [Tr.txt, Tr.sz, List.length_append]
    omega
  | bin o a b ih ih' =>
    have := ih hw.2.1 ho.2.1
    have := ih' hw.2.2 ho.2.2
    have h1 := par_len (decide (a.str < lL (bstr o.v))) a.txt
    have h2 := par_len (decide (b.str < bstr o.v + 1)) b.txt
    have h3 := tw_len (8 + o.v.toNat)
    simp only [Tr.txt, Tr.sz, List.length_append, List.length_cons, List.length_nil]
    omega
  | two o a b ih ih' =>
    have := ih hw.2.1 ho.2.1
    have := ih' hw.2.2 ho.2.2
    have h3 := tw_len (25 + o.v.toNat)
    simp only [Tr.txt, Tr.sz, List.length_append, List.length_cons, List.length_nil]
    omega
  | three o a b c ih ih' ih'' =>
    have := ih hw.2.1 ho.2.1
    have := ih' hw.2.2.1 ho.2.2.1
    have := ih'' hw.2.2.2 ho.2.2.2
    have h3 := tw_len (25 + o.v.toNat)
    simp only [Tr.txt, Tr.sz, List.length_append, List.length_cons, List.length_nil]
    omega
theorem mk_ops {o : Po} {l : List Tr} (h : opB o = true) (hl : ∀ t ∈ l, t.ops) : (mk o l).ops := by
  match l, hl with
  | [], _ => exact h
  | [a], hl => exact ⟨h, hl a (by simp)⟩
  | [a, b], hl =>
    show (if o.k = 9 then Tr.bin o a b else Tr.two o a b).ops
    by_cases e : o.k = 9
    · rw [if_pos e]; exact ⟨h, hl a (by simp), hl b (by simp)⟩
    · rw [if_neg e]; exact ⟨h, hl a (by simp), hl b (by simp)⟩
  | [a, b, c], hl => exact ⟨h, hl a (by simp), hl b (by simp), hl c (by simp)⟩
  | _ :: _ :: _ :: _ :: _, _ => exact h
theorem stk_ops {E : Nat → Po} : ∀ {n : Nat} {s : List Tr}, stk E n = some s → ∀ t ∈ s, t.ops := by
  intro n
  induction n with
  | zero => intro s h; simp [stk] at h; subst h; intro t ht; cases ht
  | succ n ih =>
    intro s h
    unfold stk at h
    cases hs : stk E n with
    | none => rw [hs] at h; cases h
    | some s0 =>
      rw [hs] at h
      simp only [Option.bind_some] at h
      split at h
      · rename_i hc
        cases h
        intro t ht
        rcases List.mem_append.1 ht with h1 | h1
        · exact ih hs t (List.mem_of_mem_take h1)
        · simp at h1
          subst h1
          exact mk_ops hc.1 fun t ht => ih hs t (List.mem_of_mem_drop ht)
      · cases h
end Go.Proofs.YthobdaeglhdhnaaGreatDoor.Syn
