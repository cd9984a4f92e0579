import Derived.Test.YtdhnjkcebaahcaaGreatDoorLineI5
import Derived.Test.YtdhnjkcebaahcaaGreatDoorParseD
namespace Go.Proofs.YtdhnjkcebaahcaaGreatDoor.Parse
open Go Go.RowKit Go.Proofs.YtdhnjkcebaahcaaGreatDoor.Mem Go.Proofs.YtdhnjkcebaahcaaGreatDoor.Valid
set_option linter.unusedVariables false
set_option linter.unusedSimpArgs false

/-- The fields of a line, one after the other. -/
theorem fld_fN : ∀ (k : Nat) (bs : List UInt8), fld (split 32 bs) k = fN bs k := by
  have key : ∀ (k : Nat) (bs : List UInt8), fN bs (k + 1) = fN (tl 32 bs) k := by
    intro k bs
    have : ∀ k, nxt (k + 1) bs = nxt k (tl 32 bs) := by
      intro k
      induction k with
      | zero => rfl
      | succ m ih => rw [nxt, ih]; rfl
    unfold fN
    rw [this]
  intro k
  induction k with
  | zero =>
    intro bs
    rw [split_hd]
    rfl
  | succ m ih =>
    intro bs
    rw [key, ← ih, split_hd 32 bs]
    by_cases h : (32 : UInt8) ∈ bs
    · rw [if_pos h]
      simp [fld]
    · rw [if_neg h, (hd_none h).2]
      have e : split 32 [] = [[]] := rfl
      rw [e]
      cases m <;> simp [fld]
theorem kind_kI (f : List UInt8) : (kindOf f = 0 ∧ kI f = 3) ∨ (kindOf f = 1 ∧ kI f = 0 ∧ wI f = 8) ∨ (kindOf f = 2 ∧ kI f = 1 ∧ wI f = 13) ∨ (kindOf f = 3 ∧ kI f = 2 ∧ wI f = 4) := by
  unfold kindOf kI wI
  split
  · simp
  · split
    · simp
    · split <;> simp
theorem numV_ok {f : List UInt8} (h : isNum f = true) : numV f = num f := by unfold numV; rw [h]; rfl
theorem tgsV_ok {f : List UInt8} (h : isTags f = true) : tgsV f = tagsOf f := by unfold tgsV tagsOf; rw [h]; rfl
theorem okV {ln : List UInt8} (h : (split 32 ln).length = 8) : okFlds 1 (split 32 ln) = !badV (tl 32 ln) ∧ (badV (tl 32 ln) = false → vehOf (split 32 ln) = vehR (tl 32 ln)) := by
  have e : ∀ k, fld (split 32 ln) k = fN ln k := fun k => fld_fN k ln
  have hok : okFlds 1 (split 32 ln) = !badV (tl 32 ln) := by
    unfold okFlds
    rw [h]
    simp only [allB, okFld, e, badV, bads, fN, nxt, Nat.reduceAdd, Nat.reduceSub, Nat.reduceEqDiff, Int.reduceLT, and_true, and_false, false_and, if_true, if_false, Bool.true_and, Bool.false_or]
    simp only [Bool.not_or, Bool.not_not]
  refine ⟨hok, fun hb => ?_⟩
  unfold badV at hb
  simp only [bads, Bool.or_eq_false_iff, Bool.not_eq_false', true_and] at hb
  obtain ⟨⟨⟨⟨⟨⟨h0, h1⟩, h2⟩, h3⟩, h4⟩, h5⟩, h6⟩ := hb
  unfold vehOf vehR
  simp only [e]
  rw [numV_ok (show isNum (fN (tl 32 ln) 0) = true from h0), tgsV_ok (show isTags (fN (tl 32 ln) 1) = true from h1), numV_ok (show isNum (fN (tl 32 ln) 2) = true from h2), numV_ok (show isNum (fN (tl 32 ln) 3) = true from h3), numV_ok (show isNum (fN (tl 32 ln) 4) = true from h4), numV_ok (show isNum (fN (tl 32 ln) 5) = true from h5), numV_ok (show isNum (fN (tl 32 ln) 6) = true from h6)]
  rfl
theorem okQ {ln : List UInt8} (h : (split 32 ln).length = 13) : okFlds 2 (split 32 ln) = !badQ (tl 32 ln) ∧ (badQ (tl 32 ln) = false → reqOf (split 32 ln) = reqR (tl 32 ln)) := by
  have e : ∀ k, fld (split 32 ln) k = fN ln k := fun k => fld_fN k ln
  have hok : okFlds 2 (split 32 ln) = !badQ (tl 32 ln) := by
    unfold okFlds
    rw [h]
    simp only [allB, okFld, e, badQ, bads, fN, nxt, Nat.reduceAdd, Nat.reduceSub, Nat.reduceEqDiff, Int.reduceLT, and_true, and_false, false_and, if_true, if_false, Bool.true_and, Bool.false_or]
    simp only [Bool.not_or, Bool.not_not]
  refine ⟨hok, fun hb => ?_⟩
  unfold badQ at hb
  simp only [bads, Bool.or_eq_false_iff, Bool.not_eq_false', true_and] at hb
  obtain ⟨⟨⟨⟨⟨⟨⟨⟨⟨⟨⟨h0, h1⟩, h2⟩, h3⟩, h4⟩, h5⟩, h6⟩, h7⟩, h8⟩, h9⟩, h10⟩, h11⟩ := hb
  unfold reqOf reqR
  simp only [e]
  rw [numV_ok (show isNum (fN (tl 32 ln) 0) = true from h0), tgsV_ok (show isTags (fN (tl 32 ln) 1) = true from h1), numV_ok (show isNum (fN (tl 32 ln) 2) = true from h2), numV_ok (show isNum (fN (tl 32 ln) 3) = true from h3), numV_ok (show isNum (fN (tl 32 ln) 4) = true from h4), numV_ok (show isNum (fN (tl 32 ln) 5) = true from h5), numV_ok (show isNum (fN (tl 32 ln) 6) = true from h6), numV_ok (show isNum (fN (tl 32 ln) 7) = true from h7), numV_ok (show isNum (fN (tl 32 ln) 8) = true from h8), numV_ok (show isNum (fN (tl 32 ln) 9) = true from h9), numV_ok (show isNum (fN (tl 32 ln) 10) = true from h10), numV_ok (show isNum (fN (tl 32 ln) 11) = true from h11)]
  rfl
theorem okR {ln : List UInt8} (h : (split 32 ln).length = 4) : okFlds 3 (split 32 ln) = !badR (tl 32 ln) ∧ (badR (tl 32 ln) = false → rdOf (split 32 ln) = rdR (tl 32 ln)) := by
  have e : ∀ k, fld (split 32 ln) k = fN ln k := fun k => fld_fN k ln
  have hok : okFlds 3 (split 32 ln) = !badR (tl 32 ln) := by
    unfold okFlds
    rw [h]
    simp only [allB, okFld, e, badR, bads, fN, nxt, Nat.reduceAdd, Nat.reduceSub, Nat.reduceEqDiff, Int.reduceLT, and_true, and_false, false_and, if_true, if_false, Bool.true_and, Bool.false_or]
    simp only [Bool.not_or, Bool.not_not]
  refine ⟨hok, fun hb => ?_⟩
  unfold badR at hb
  simp only [bads, Bool.or_eq_false_iff, Bool.not_eq_false', true_and] at hb
  obtain ⟨⟨h0, h1⟩, h2⟩ := hb
  unfold rdOf rdR
  simp only [e]
  rw [numV_ok (show isNum (fN (tl 32 ln) 0) = true from h0), numV_ok (show isNum (fN (tl 32 ln) 1) = true from h1), numV_ok (show isNum (fN (tl 32 ln) 2) = true from h2)]
  rfl

/-- The kind of the last line, as the rows tell it. -/
def kd (s : Acc) : Int := if 0 < s.R.length then 2 else if 0 < s.Q.length then 1 else 0
theorem addV_ok {s : Acc} {v : Veh} (h : (addV s v).1 = 0) : (addV s v).2 = { s with V := s.V ++ [v] } ∧ ¬ s.V.length = 64 := by
  unfold addV at h ⊢
  split at h
  · simp at h
  · rename_i h1
    rw [if_neg h1]
    split at h
    · simp at h
    · rename_i h2
      rw [if_neg h2]
      exact ⟨rfl, h2⟩
theorem addQ_ok {s : Acc} {v : Req} (h : (addQ s v).1 = 0) : (addQ s v).2 = { s with Q := s.Q ++ [v] } ∧ ¬ s.Q.length = 1000 := by
  unfold addQ at h ⊢
  split at h
  · simp at h
  · rename_i h1
    rw [if_neg h1]
    split at h
    · simp at h
    · rename_i h2
      rw [if_neg h2]
      exact ⟨rfl, h2⟩
theorem addR_ok {s : Acc} {v : Mem.Rd} (h : (addR s v).1 = 0) : (addR s v).2 = { s with R := s.R ++ [v] } ∧ ¬ s.R.length = 4000 := by
  unfold addR at h ⊢
  split at h
  · simp at h
  · rename_i h1
    rw [if_neg h1]
    split at h
    · simp at h
    · rename_i h2
      rw [if_neg h2]
      split at h
      · simp at h
      · rename_i h3
        rw [if_neg h3]
        exact ⟨rfl, h3⟩
theorem order_iff {s : Acc} {a b : Int} (hk : (a = 1 ∧ b = 0) ∨ (a = 2 ∧ b = 1) ∨ (a = 3 ∧ b = 2)) : ((0 < s.R.length ∧ a < 3) ∨ (0 < s.Q.length ∧ a < 2)) ↔ b < kd s := by
  unfold kd
  split
  · rcases hk with ⟨rfl, rfl⟩ | ⟨rfl, rfl⟩ | ⟨rfl, rfl⟩ <;> omega
  · split
    · rcases hk with ⟨rfl, rfl⟩ | ⟨rfl, rfl⟩ | ⟨rfl, rfl⟩ <;> omega
    · rcases hk with ⟨rfl, rfl⟩ | ⟨rfl, rfl⟩ | ⟨rfl, rfl⟩ <;> omega
/-- The program's line is the document's line. -/
theorem line_eq (s : Acc) (ln : List UInt8) (hs : Small s) : (lineC (kd s) ln s).1 = (lineF s ln).1 ∧ ((lineC (kd s) ln s).1 = 0 → (lineC (kd s) ln s).2 = (lineF s ln).2 ∧ Small (lineC (kd s) ln s).2 ∧ kI (hd 32 ln) = kd (lineC (kd s) ln s).2) := by
  have hf0 : fld (split 32 ln) 0 = hd 32 ln := fld_fN 0 ln
  unfold lineF lineK
  rw [hf0]
  unfold lineC headC
  rcases kind_kI (hd 32 ln) with ⟨h1, h2⟩ | ⟨h1, h2, h3⟩ | ⟨h1, h2, h3⟩ | ⟨h1, h2, h3⟩
  · rw [h1, h2]; simp
  · rw [h1, h2, h3]
    have ho := order_iff (s := s) (a := 1) (b := 0) (by simp)
    by_cases hlt : 0 < kd s
    · rw [if_pos (ho.2 hlt)]; simp [hlt]
    · rw [if_neg (fun h => hlt (ho.1 h))]
      by_cases hlen : (split 32 ln).length = 8
      · obtain ⟨o1, o2⟩ := okV hlen
        have hw : ¬ ((split 32 ln).length ≠ want 1) := by rw [hlen]; decide
        rw [if_neg hw, o1]
        simp only [hlt, hlen]
        simp only [Int.reduceEq, if_false, if_true, ne_eq, not_true_eq_false, Int.cast_ofNat_Int, valC]
        unfold codeV
        cases hb : badV (tl 32 ln) with
        | true => simp
        | false =>
          rw [o2 hb]
          simp
          intro h0
          obtain ⟨e1, e2⟩ := addV_ok h0
          rw [e1]
          refine ⟨⟨by simp; have := hs.v; omega, hs.q, hs.r⟩, ?_⟩
          unfold kd at hlt ⊢
          simp only
          split
          · rename_i hr; rw [if_pos hr] at hlt; omega
          · rename_i hr; rw [if_neg hr] at hlt
            split
            · rename_i hq; rw [if_pos hq] at hlt; omega
            · rfl
      · have hw : (split 32 ln).length ≠ want 1 := by rw [show want 1 = 8 from rfl]; exact hlen
        rw [if_pos hw]
        have hw' : ((split 32 ln).length : Int) ≠ 8 := by omega
        simp [hlt, hw']
  · rw [h1, h2, h3]
    have ho := order_iff (s := s) (a := 2) (b := 1) (by simp)
    by_cases hlt : 1 < kd s
    · rw [if_pos (ho.2 hlt)]; simp [hlt]
    · rw [if_neg (fun h => hlt (ho.1 h))]
      by_cases hlen : (split 32 ln).length = 13
      · obtain ⟨o1, o2⟩ := okQ hlen
        have hw : ¬ ((split 32 ln).length ≠ want 2) := by rw [hlen]; decide
        rw [if_neg hw, o1]
        simp only [hlt, hlen]
        simp only [Int.reduceEq, if_false, if_true, ne_eq, not_true_eq_false, Int.cast_ofNat_Int, valC]
        unfold codeQ
        cases hb : badQ (tl 32 ln) with
        | true => simp
        | false =>
          rw [o2 hb]
          simp
          intro h0
          obtain ⟨e1, e2⟩ := addQ_ok h0
          rw [e1]
          refine ⟨⟨hs.v, by simp; have := hs.q; omega, hs.r⟩, ?_⟩
          unfold kd at hlt ⊢
          simp only
          split
          · rename_i hr; rw [if_pos hr] at hlt; omega
          · rw [if_pos (by simp)]
      · have hw : (split 32 ln).length ≠ want 2 := by rw [show want 2 = 13 from rfl]; exact hlen
        rw [if_pos hw]
        have hw' : ((split 32 ln).length : Int) ≠ 13 := by omega
        simp [hlt, hw']
  · rw [h1, h2, h3]
    have ho := order_iff (s := s) (a := 3) (b := 2) (by simp)
    by_cases hlt : 2 < kd s
    · rw [if_pos (ho.2 hlt)]; simp [hlt]
    · rw [if_neg (fun h => hlt (ho.1 h))]
      by_cases hlen : (split 32 ln).length = 4
      · obtain ⟨o1, o2⟩ := okR hlen
        have hw : ¬ ((split 32 ln).length ≠ want 3) := by rw [hlen]; decide
        rw [if_neg hw, o1]
        simp only [hlt, hlen]
        simp only [Int.reduceEq, if_false, if_true, ne_eq, not_true_eq_false, Int.cast_ofNat_Int, valC]
        unfold codeR
        cases hb : badR (tl 32 ln) with
        | true => simp
        | false =>
          rw [o2 hb]
          simp
          intro h0
          obtain ⟨e1, e2⟩ := addR_ok h0
          rw [e1]
          refine ⟨⟨hs.v, hs.q, by simp; have := hs.r; omega⟩, ?_⟩
          unfold kd
          rw [if_pos (by simp)]
      · have hw : (split 32 ln).length ≠ want 3 := by rw [show want 3 = 4 from rfl]; exact hlen
        rw [if_pos hw]
        have hw' : ((split 32 ln).length : Int) ≠ 4 := by omega
        simp [hlt, hw']
end Go.Proofs.YtdhnjkcebaahcaaGreatDoor.Parse
