import Derived.Test.YtefkdpppcjlflaaGreatDoorIt38
import Derived.Test.YtefkdpppcjlflaaGreatDoorProg
import Derived.WalkKit
import Derived.LaidEql
import Derived.Stop.Asserts
import Derived.RowKitTokens
namespace Go.Proofs.YtefkdpppcjlflaaGreatDoor.Parse
open Go Go.RowKit Go.Proofs.YtefkdpppcjlflaaGreatDoor.Mem Go.Proofs.YtefkdpppcjlflaaGreatDoor.Valid
set_option linter.unusedVariables false
set_option linter.unusedSimpArgs false

/-- The fields of a line, one after the other. -/
theorem fld_fN : ∀ (k : Nat) (bs : List UInt8), fld (split 32 bs) k = fN bs k := by
  have key : ∀ (k : Nat) (bs : List UInt8), fN bs (k + 1) = fN (tl 32 bs) k := by
    intro k bs
    have : ∀ k, nxt (k + 1) bs = nxt k (tl 32 bs) := by
      intro k
      induction k with
      | zero => rfl
      | succ m ih => rw [nxt, ih]; rfl
    unfold fN
    rw [this]
  intro k
  induction k with
  | zero =>
    intro bs
    rw [split_hd]
    rfl
  | succ m ih =>
    intro bs
    rw [key, ← ih, split_hd 32 bs]
    by_cases h : (32 : UInt8) ∈ bs
    · rw [if_pos h]
      simp [fld]
    · rw [if_neg h, (hd_none h).2]
      have e : split 32 [] = [[]] := rfl
      rw [e]
      cases m <;> simp [fld]
theorem kind_kI (f : List UInt8) : (kindOf f = 0 ∧ kI f = 3) ∨ (kindOf f = 1 ∧ kI f = 0 ∧ wI f = 8) ∨ (kindOf f = 2 ∧ kI f = 1 ∧ wI f = 13) ∨ (kindOf f = 3 ∧ kI f = 2 ∧ wI f = 4) := by
  unfold kindOf kI wI
  split
  · simp
  · split
    · simp
    · split <;> simp
theorem numV_ok {f : List UInt8} (h : isNum f = true) : numV f = num f := by unfold numV; rw [h]; rfl
theorem tgsV_ok {f : List UInt8} (h : isTags f = true) : tgsV f = tagsOf f := by unfold tgsV tagsOf; rw [h]; rfl
theorem okV {ln : List UInt8} (h : (split 32 ln).length = 8) : okFlds 1 (split 32 ln) = !badV (tl 32 ln) ∧ (badV (tl 32 ln) = false → vehOf (split 32 ln) = vehR (tl 32 ln)) := by
  have e : ∀ k, fld (split 32 ln) k = fN ln k := fun k => fld_fN k ln
  have hok : okFlds 1 (split 32 ln) = !badV (tl 32 ln) := by
    unfold okFlds
    rw [h]
    simp only [allB, okFld, e, badV, bads, fN, nxt, Nat.reduceAdd, Nat.reduceSub, Nat.reduceEqDiff, Int.reduceLT, and_true, and_false, false_and, if_true, if_false, Bool.true_and, Bool.false_or]
    simp only [Bool.not_or, Bool.not_not]
  refine ⟨hok, fun hb => ?_⟩
  unfold badV at hb
  simp only [bads, Bool.or_eq_false_iff, Bool.not_eq_false', true_and] at hb
  obtain ⟨⟨⟨⟨⟨⟨h0, h1⟩, h2⟩, h3⟩, h4⟩, h5⟩, h6⟩ := hb
  unfold vehOf vehR
  simp only [e]
  rw [numV_ok (show isNum (fN (tl 32 ln) 0) = true from h0), tgsV_ok (show isTags (fN (tl 32 ln) 1) = true from h1), numV_ok (show isNum (fN (tl 32 ln) 2) = true from h2), numV_ok (show isNum (fN (tl 32 ln) 3) = true from h3), numV_ok (show isNum (fN (tl 32 ln) 4) = true from h4), numV_ok (show isNum (fN (tl 32 ln) 5) = true from h5), numV_ok (show isNum (fN (tl 32 ln) 6) = true from h6)]
  rfl
theorem okQ {ln : List UInt8} (h : (split 32 ln).length = 13) : okFlds 2 (split 32 ln) = !badQ (tl 32 ln) ∧ (badQ (tl 32 ln) = false → reqOf (split 32 ln) = reqR (tl 32 ln)) := by
  have e : ∀ k, fld (split 32 ln) k = fN ln k := fun k => fld_fN k ln
  have hok : okFlds 2 (split 32 ln) = !badQ (tl 32 ln) := by
    unfold okFlds
    rw [h]
    simp only [allB, okFld, e, badQ, bads, fN, nxt, Nat.reduceAdd, Nat.reduceSub, Nat.reduceEqDiff, Int.reduceLT, and_true, and_false, false_and, if_true, if_false, Bool.true_and, Bool.false_or]
    simp only [Bool.not_or, Bool.not_not]
  refine ⟨hok, fun hb => ?_⟩
  unfold badQ at hb
  simp only [bads, Bool.or_eq_false_iff, Bool.not_eq_false', true_and] at hb
  obtain ⟨⟨⟨⟨⟨⟨⟨⟨⟨⟨⟨h0, h1⟩, h2⟩, h3⟩, h4⟩, h5⟩, h6⟩, h7⟩, h8⟩, h9⟩, h10⟩, h11⟩ := hb
  unfold reqOf reqR
  simp only [e]
  rw [numV_ok (show isNum (fN (tl 32 ln) 0) = true from h0), tgsV_ok (show isTags (fN (tl 32 ln) 1) = true from h1), numV_ok (show isNum (fN (tl 32 ln) 2) = true from h2), numV_ok (show isNum (fN (tl 32 ln) 3) = true from h3), numV_ok (show isNum (fN (tl 32 ln) 4) = true from h4), numV_ok (show isNum (fN (tl 32 ln) 5) = true from h5), numV_ok (show isNum (fN (tl 32 ln) 6) = true from h6), numV_ok (show isNum (fN (tl 32 ln) 7) = true from h7), numV_ok (show isNum (fN (tl 32 ln) 8) = true from h8), numV_ok (show isNum (fN (tl 32 ln) 9) = true from h9), numV_ok (show isNum (fN (tl 32 ln) 10) = true from h10), numV_ok (show isNum (fN (tl 32 ln) 11) = true from h11)]
  rfl
theorem okR {ln : List UInt8} (h : (split 32 ln).length = 4) : okFlds 3 (split 32 ln) = !badR (tl 32 ln) ∧ (badR (tl 32 ln) = false → rdOf (split 32 ln) = rdR (tl 32 ln)) := by
  have e : ∀ k, fld (split 32 ln) k = fN ln k := fun k => fld_fN k ln
  have hok : okFlds 3 (split 32 ln) = !badR (tl 32 ln) := by
    unfold okFlds
    rw [h]
    simp only [allB, okFld, e, badR, bads, fN, nxt, Nat.reduceAdd, Nat.reduceSub, Nat.reduceEqDiff, Int.reduceLT, and_true, and_false, false_and, if_true, if_false, Bool.true_and, Bool.false_or]
    simp only [Bool.not_or, Bool.not_not]
  refine ⟨hok, fun hb => ?_⟩
  unfold badR at hb
  simp only [bads, Bool.or_eq_false_iff, Bool.not_eq_false', true_and] at hb
  obtain ⟨⟨h0, h1⟩, h2⟩ := hb
  unfold rdOf rdR
  simp only [e]
  rw [numV_ok (show isNum (fN (tl 32 ln) 0) = true from h0), numV_ok (show isNum (fN (tl 32 ln) 1) = true from h1), numV_ok (show isNum (fN (tl 32 ln) 2) = true from h2)]
  rfl

/-- The kind of the last line, as the rows tell it. -/
def kd (s : Acc) : Int := if 0 < s.R.length then 2 else if 0 < s.Q.length then 1 else 0
theorem addV_ok {s : Acc} {v : Veh} (h : (addV s v).1 = 0) : (addV s v).2 = { s with V := s.V ++ [v] } ∧ ¬ s.V.length = 64 := by
  unfold addV at h ⊢
  split at h
  · simp at h
  · rename_i h1
    rw [if_neg h1]
    split at h
    · simp at h
    · rename_i h2
      rw [if_neg h2]
      exact ⟨rfl, h2⟩
theorem addQ_ok {s : Acc} {v : Req} (h : (addQ s v).1 = 0) : (addQ s v).2 = { s with Q := s.Q ++ [v] } ∧ ¬ s.Q.length = 1000 := by
  unfold addQ at h ⊢
  split at h
  · simp at h
  · rename_i h1
    rw [if_neg h1]
    split at h
    · simp at h
    · rename_i h2
      rw [if_neg h2]
      exact ⟨rfl, h2⟩
theorem addR_ok {s : Acc} {v : Mem.Rd} (h : (addR s v).1 = 0) : (addR s v).2 = { s with R := s.R ++ [v] } ∧ ¬ s.R.length = 4000 := by
  unfold addR at h ⊢
  split at h
  · simp at h
  · rename_i h1
    rw [if_neg h1]
    split at h
    · simp at h
    · rename_i h2
      rw [if_neg h2]
      split at h
      · simp at h
      · rename_i h3
        rw [if_neg h3]
        exact ⟨rfl, h3⟩
theorem order_iff {s : Acc} {a b : Int} (hk : (a = 1 ∧ b = 0) ∨ (a = 2 ∧ b = 1) ∨ (a = 3 ∧ b = 2)) : ((0 < s.R.length ∧ a < 3) ∨ (0 < s.Q.length ∧ a < 2)) ↔ b < kd s := by
  unfold kd
  split
  · rcases hk with ⟨rfl, rfl⟩ | ⟨rfl, rfl⟩ | ⟨rfl, rfl⟩ <;> omega
  · split
    · rcases hk with ⟨rfl, rfl⟩ | ⟨rfl, rfl⟩ | ⟨rfl, rfl⟩ <;> omega
    · rcases hk with ⟨rfl, rfl⟩ | ⟨rfl, rfl⟩ | ⟨rfl, rfl⟩ <;> omega
/-- The program's line is the document's line. -/
theorem line_eq (s : Acc) (ln : List UInt8) (hs : Small s) : (lineC (kd s) ln s).1 = (lineF s ln).1 ∧ ((lineC (kd s) ln s).1 = 0 → (lineC (kd s) ln s).2 = (lineF s ln).2 ∧ Small (lineC (kd s) ln s).2 ∧ kI (hd 32 ln) = kd (lineC (kd s) ln s).2) := by
  have hf0 : fld (split 32 ln) 0 = hd 32 ln := fld_fN 0 ln
  unfold lineF lineK
  rw [hf0]
  unfold lineC headC
  rcases kind_kI (hd 32 ln) with ⟨h1, h2⟩ | ⟨h1, h2, h3⟩ | ⟨h1, h2, h3⟩ | ⟨h1, h2, h3⟩
  · rw [h1, h2]; simp
  · rw [h1, h2, h3]
    have ho := order_iff (s := s) (a := 1) (b := 0) (by simp)
    by_cases hlt : 0 < kd s
    · rw [if_pos (ho.2 hlt)]; simp [hlt]
    · rw [if_neg (fun h => hlt (ho.1 h))]
      by_cases hlen : (split 32 ln).length = 8
      · obtain ⟨o1, o2⟩ := okV hlen
        have hw : ¬ ((split 32 ln).length ≠ want 1) := by rw [hlen]; decide
        rw [if_neg hw, o1]
        simp only [hlt, hlen]
        simp only [Int.reduceEq, if_false, if_true, ne_eq, not_true_eq_false, Int.cast_ofNat_Int, valC]
        unfold codeV
        cases hb : badV (tl 32 ln) with
        | true => simp
        | false =>
          rw [o2 hb]
          simp
          intro h0
          obtain ⟨e1, e2⟩ := addV_ok h0
          rw [e1]
          refine ⟨⟨by simp; have := hs.v; omega, hs.q, hs.r⟩, ?_⟩
          unfold kd at hlt ⊢
          simp only
          split
          · rename_i hr; rw [if_pos hr] at hlt; omega
          · rename_i hr; rw [if_neg hr] at hlt
            split
            · rename_i hq; rw [if_pos hq] at hlt; omega
            · rfl
      · have hw : (split 32 ln).length ≠ want 1 := by rw [show want 1 = 8 from rfl]; exact hlen
        rw [if_pos hw]
        have hw' : ((split 32 ln).length : Int) ≠ 8 := by omega
        simp [hlt, hw']
  · rw [h1, h2, h3]
    have ho := order_iff (s := s) (a := 2) (b := 1) (by simp)
    by_cases hlt : 1 < kd s
    · rw [if_pos (ho.2 hlt)]; simp [hlt]
    · rw [if_neg (fun h => hlt (ho.1 h))]
      by_cases hlen : (split 32 ln).length = 13
      · obtain ⟨o1, o2⟩ := okQ hlen
        have hw : ¬ ((split 32 ln).length ≠ want 2) := by rw [hlen]; decide
        rw [if_neg hw, o1]
        simp only [hlt, hlen]
        simp only [Int.reduceEq, if_false, if_true, ne_eq, not_true_eq_false, Int.cast_ofNat_Int, valC]
        unfold codeQ
        cases hb : badQ (tl 32 ln) with
        | true => simp
        | false =>
          rw [o2 hb]
          simp
          intro h0
          obtain ⟨e1, e2⟩ := addQ_ok h0
          rw [e1]
          refine ⟨⟨hs.v, by simp; have := hs.q; omega, hs.r⟩, ?_⟩
          unfold kd at hlt ⊢
          simp only
          split
          · rename_i hr; rw [if_pos hr] at hlt; omega
          · rw [if_pos (by simp)]
      · have hw : (split 32 ln).length ≠ want 2 := by rw [show want 2 = 13 from rfl]; exact hlen
        rw [if_pos hw]
        have hw' : ((split 32 ln).length : Int) ≠ 13 := by omega
        simp [hlt, hw']
  · rw [h1, h2, h3]
    have ho := order_iff (s := s) (a := 3) (b := 2) (by simp)
    by_cases hlt : 2 < kd s
    · rw [if_pos (ho.2 hlt)]; simp [hlt]
    · rw [if_neg (fun h => hlt (ho.1 h))]
      by_cases hlen : (split 32 ln).length = 4
      · obtain ⟨o1, o2⟩ := okR hlen
        have hw : ¬ ((split 32 ln).length ≠ want 3) := by rw [hlen]; decide
        rw [if_neg hw, o1]
        simp only [hlt, hlen]
        simp only [Int.reduceEq, if_false, if_true, ne_eq, not_true_eq_false, Int.cast_ofNat_Int, valC]
        unfold codeR
        cases hb : badR (tl 32 ln) with
        | true => simp
        | false =>
          rw [o2 hb]
          simp
          intro h0
          obtain ⟨e1, e2⟩ := addR_ok h0
          rw [e1]
          refine ⟨⟨hs.v, hs.q, by simp; have := hs.r; omega⟩, ?_⟩
          unfold kd
          rw [if_pos (by simp)]
      · have hw : (split 32 ln).length ≠ want 3 := by rw [show want 3 = 4 from rfl]; exact hlen
        rw [if_pos hw]
        have hw' : ((split 32 ln).length : Int) ≠ 4 := by omega
        simp [hlt, hw']
end Go.Proofs.YtefkdpppcjlflaaGreatDoor.Parse
namespace Go.Proofs.YtefkdpppcjlflaaGreatDoor.Parse
open Go Go.RowKit Go.Extern.Stop Go.Stop Go.Extern Go.Proofs.YtefkdpppcjlflaaGreatDoor.Mem
set_option linter.unusedVariables false
set_option linter.unusedSimpArgs false

/-! errors.As at a target of the struct type lineError: the entries that it comes to, at this program's types. -/
def hL : Value := .pointer (some ⟨5, 64, none⟩)
def hP : Value := .pointer (some ⟨5, 66, none⟩)
theorem as_none (t : Value) (w : World) : Calls Tryz.prog 23 #[.nilIface, t] w fun e w' => e = .returned (.bool false) ∧ w' = w := by
  go_enter Tryz.func23, Tryz.ntmps23
  go_wp2
  go_ret
  exact ⟨rfl, rfl⟩
theorem valueP (t : Addr) (w : World) : (ReflectliteValue.unpack (.iface 66 (.pointer (some t)))).run Tryz.prog w = .ok (.agg #[hP, .pointer (some ⟨w.heap.size, 0, none⟩), .int .u64 150]) (w.alloc (.cells #[.pointer (some t)] 66)) := by kernel_rfl
theorem typeP (a : Addr) (w : World) : (ReflectliteValue.methodAny (ReflectliteValue.valueError "reflectlite.Value.Type" 0) (fun t _ _ _ => ReflectliteType.toType t) #[.agg #[hP, .pointer (some a), .int .u64 150]]).run Tryz.prog w = .ok (.iface 107 (.agg #[hP])) w := by kernel_rfl
theorem methodKind (h : Value) (w : World) : (Go.method 287 107 (.agg #[h]) "Kind").run Tryz.prog w = .ok (112, h) w := by kernel_rfl
theorem kindP (w : World) : ((ReflectliteType.abiMethod fun t => (fun a : Nat => Value.int IntKind.u8 (a : Int)) <$> Rtype.kind t) #[hP]).run Tryz.prog w = .ok (.int .u8 22) w := by kernel_rfl
theorem kindL (w : World) : ((ReflectliteType.abiMethod fun t => (fun a : Nat => Value.int IntKind.u8 (a : Int)) <$> Rtype.kind t) #[hL]).run Tryz.prog w = .ok (.int .u8 25) w := by kernel_rfl
theorem methodElem (h : Value) (w : World) : (Go.method 287 107 (.agg #[h]) "Elem").run Tryz.prog w = .ok (122, .agg #[h]) w := by kernel_rfl
theorem methodImpl (h : Value) (w : World) : (Go.method 287 107 (.agg #[h]) "Implements").run Tryz.prog w = .ok (123, .agg #[h]) w := by kernel_rfl
theorem methodAsgn (h : Value) (w : World) : (Go.method 287 107 (.agg #[h]) "AssignableTo").run Tryz.prog w = .ok (120, .agg #[h]) w := by kernel_rfl
theorem elemP (w : World) : (ReflectliteType.method ReflectliteType.elem #[.agg #[hP]]).run Tryz.prog w = .ok (.iface 107 (.agg #[hL])) w := by kernel_rfl
theorem implL (w : World) : (ReflectliteType.relation "Implements" ReflectliteType.implements_ #[.agg #[hL], .iface 107 (.agg #[.pointer (some ⟨5, 60, none⟩)])]).run Tryz.prog w = .ok (.bool true) w := by kernel_rfl
theorem typeOfL (v : Value) (w : World) : (ReflectliteType.typeOf #[.iface 64 v]).run Tryz.prog w = .ok (.iface 107 (.agg #[hL])) w := by kernel_rfl
theorem asgnL (w : World) : (ReflectliteType.relation "AssignableTo" ReflectliteType.assignableTo #[.agg #[hL], .iface 107 (.agg #[hL])]).run Tryz.prog w = .ok (.bool true) w := by kernel_rfl
theorem valueL (c : Int) (w : World) : (ReflectliteValue.unpack (.iface 64 (.agg #[.int .i64 c]))).run Tryz.prog w = .ok (.agg #[hL, .pointer (some ⟨w.heap.size, 0, none⟩), .int .u64 153]) (w.alloc (.cells #[.int .i64 c] 64)) := by kernel_rfl
theorem meth1 (z : Sem Value) (f : TypeId → Addr → Nat → Nat → Sem Value) (v : Value) : ReflectliteValue.method z f #[v] = (ReflectliteValue.parts v >>= fun o => match o with | none => z | some (t, a, fl) => f t a fl (fl % 32)) := rfl
theorem partsP (a : Addr) (w : World) : (ReflectliteValue.parts (.agg #[hP, .pointer (some a), .int .u64 150])).run Tryz.prog w = .ok (some (66, a, 150)) w := by kernel_rfl
theorem isNilP (a p : Addr) (W : World) (ha : W.cell? a = some (.pointer (some p))) : (ReflectliteValue.method (ReflectliteValue.valueError "reflectlite.Value.IsNil" 0) ReflectliteValue.isNil #[.agg #[hP, .pointer (some a), .int .u64 150]]).run Tryz.prog W = .ok (.bool false) W := by
  rw [meth1]
  simp only [Sem.run_bind, partsP, Result.andThen]
  simp [ReflectliteValue.isNil, loadVar, isAgg, underlying, Tryz.underlying66, ha, Result.andThen]
theorem elemOfP (w : World) : (Rtype.elem? 66).run Tryz.prog w = .ok (some 64) w := by kernel_rfl
theorem mkL (p : Addr) (w : World) : (ReflectliteValue.mk 64 p ReflectliteValue.flagAddr).run Tryz.prog w = .ok (.agg #[hL, .pointer (some p), .int .u64 409]) w := by kernel_rfl
theorem elemVP (a p : Addr) (W : World) (ha : W.cell? a = some (.pointer (some p))) : (ReflectliteValue.method (ReflectliteValue.valueError "reflectlite.Value.Elem" 0) ReflectliteValue.elem #[.agg #[hP, .pointer (some a), .int .u64 150]]).run Tryz.prog W = .ok (.agg #[hL, .pointer (some p), .int .u64 409]) W := by
  rw [meth1]
  simp only [Sem.run_bind, partsP, Result.andThen]
  simp [ReflectliteValue.elem, loadVar, isAgg, underlying, Tryz.underlying66, ha, Result.andThen, elemOfP, mkL]
theorem partsLa (a : Addr) (w : World) : (ReflectliteValue.parts (.agg #[hL, .pointer (some a), .int .u64 409])).run Tryz.prog w = .ok (some (64, a, 409)) w := by kernel_rfl
theorem partsL (a : Addr) (w : World) : (ReflectliteValue.parts (.agg #[hL, .pointer (some a), .int .u64 153])).run Tryz.prog w = .ok (some (64, a, 153)) w := by kernel_rfl
theorem directL (w : World) : (Rtype.directlyAssignable 64 64).run Tryz.prog w = .ok true w := by kernel_rfl
theorem sizeL (w : World) : (sizeOf 64).run Tryz.prog w = .ok 1 w := by kernel_rfl
end Go.Proofs.YtefkdpppcjlflaaGreatDoor.Parse
namespace Go.Proofs.YtefkdpppcjlflaaGreatDoor.Parse
open Go Go.RowKit Go.Extern.Stop Go.Stop Go.Extern Go.Proofs.YtefkdpppcjlflaaGreatDoor.Mem
set_option linter.unusedVariables false
set_option linter.unusedSimpArgs false

theorem setL (ta b : Addr) (c : Int) (old : Value) (W : World) (hb : W.cell? b = some (.int .i64 c)) (ht : W.cell? ta = some old) (hf : W.frozen? ta = false) :
    (ReflectliteValue.set #[.agg #[hL, .pointer (some ta), .int .u64 409], .agg #[hL, .pointer (some b), .int .u64 153]]).run Tryz.prog W = .ok (.tuple #[]) (W.setCell ta (.int .i64 c)) := by
  delta ReflectliteValue.set ReflectliteValue.set.match_3
  simp only [List.size_toArray, List.length_cons, List.length_nil, Nat.reduceAdd, dite_true, Array.getLit, List.getElem_toArray, List.getElem_cons_zero, List.getElem_cons_succ]
  simp only [Sem.run_bind, partsLa, partsL, Result.andThen]
  simp [ReflectliteValue.flagAddr, loadVar, isAgg, underlying, Tryz.underlying64, hb, Result.andThen, directL, storeVar, Value.cells, storeCells, Addr.add]
  have hlc : (loadCells b 1).run Tryz.prog W = .ok #[.int .i64 c] W := by simp [loadCells, loadCellsFrom, hb, Result.andThen, Addr.add]
  rw [hlc]
  simp [storeCells, Addr.add]
  rw [run_store Tryz.prog W ta _ _ (by rfl)]
  simp [ht, hf]

set_option maxHeartbeats 4000000 in
set_option maxRecDepth 1000000 in
theorem as_hit (c : Int) (t : Addr) (old : Value) (w : World) (hg : w.cell? ⟨0, 0, none⟩ = some (.iface 107 (.agg #[.pointer (some ⟨5, 60, none⟩)]))) (ht0 : w.cell? t = some old) (hf0 : w.frozen? t = false) :
    Calls Tryz.prog 23 #[.iface 64 (.agg #[.int .i64 c]), .iface 66 (.pointer (some t))] w fun ev w' => ev = .returned (.bool true) ∧ w' = ((((w.alloc (.cells #[.pointer (some t)] 66)).alloc (.cells #[hP, .pointer (some ⟨w.heap.size, 0, none⟩), .int .u64 150] 90)).alloc (.cells #[hP, .pointer (some ⟨w.heap.size, 0, none⟩), .int .u64 150] 90)).alloc (.cells #[.int .i64 c] 64)).setCell t (.int .i64 c) := by
  have h6 := @run_callFunc_extern Tryz.prog 41 _ (fun args => ReflectliteValue.unpack (args.getD 0 (.tuple #[]))) Tryz.func41 (by kernel_rfl) (by kernel_rfl) (by kernel_rfl) (by kernel_rfl)
  have h7 := @run_callFunc_extern Tryz.prog 42 _ (ReflectliteValue.methodAny (ReflectliteValue.valueError "reflectlite.Value.Type" 0) (fun t _ _ _ => ReflectliteType.toType t)) Tryz.func42 (by kernel_rfl) (by kernel_rfl) (by kernel_rfl) (by kernel_rfl)
  have h8 := @run_callFunc_extern Tryz.prog 43 _ (ReflectliteValue.method (ReflectliteValue.valueError "reflectlite.Value.IsNil" 0) ReflectliteValue.isNil) Tryz.func43 (by kernel_rfl) (by kernel_rfl) (by kernel_rfl) (by kernel_rfl)
  have h27 := @run_callFunc_extern Tryz.prog 112 _ (ReflectliteType.abiMethod fun t => do pure (.int .u8 (← Rtype.kind t))) Tryz.func112 (by kernel_rfl) (by kernel_rfl) (by kernel_rfl) (by kernel_rfl)
  have h37 := @run_callFunc_extern Tryz.prog 122 _ (ReflectliteType.method ReflectliteType.elem) Tryz.func122 (by kernel_rfl) (by kernel_rfl) (by kernel_rfl) (by kernel_rfl)
  have h38 := @run_callFunc_extern Tryz.prog 123 _ (ReflectliteType.relation "Implements" ReflectliteType.implements_) Tryz.func123 (by kernel_rfl) (by kernel_rfl) (by kernel_rfl) (by kernel_rfl)
  have h10 := @run_callFunc_extern Tryz.prog 58 _ ReflectliteType.typeOf Tryz.func58 (by kernel_rfl) (by kernel_rfl) (by kernel_rfl) (by kernel_rfl)
  have h35 := @run_callFunc_extern Tryz.prog 120 _ (ReflectliteType.relation "AssignableTo" ReflectliteType.assignableTo) Tryz.func120 (by kernel_rfl) (by kernel_rfl) (by kernel_rfl) (by kernel_rfl)
  have h11 := @run_callFunc_extern Tryz.prog 59 _ (ReflectliteValue.method (ReflectliteValue.valueError "reflectlite.Value.Elem" 0) ReflectliteValue.elem) Tryz.func59 (by kernel_rfl) (by kernel_rfl) (by kernel_rfl) (by kernel_rfl)
  have h12 := @run_callFunc_extern Tryz.prog 60 _ ReflectliteValue.set Tryz.func60 (by kernel_rfl) (by kernel_rfl) (by kernel_rfl) (by kernel_rfl)
  have f1 := typeOfL
  have f2 := methodAsgn
  have f3 := asgnL
  have f4 := valueL
  have f5 := valueP
  have f6 := typeP
  have f7 := methodKind
  have f8 := methodElem
  have f9 := methodImpl
  have f10 := kindP
  have f11 := kindL
  have f12 := elemP
  have f13 := implL
  have hlt : 0 < w.heap.size := World.block_lt_of_cell? w _ hg
  have htl : t.block < w.heap.size := World.block_lt_of_cell? w _ ht0
  have n8 := isNilP ⟨w.heap.size, 0, none⟩ t ((w.alloc (.cells #[.pointer (some t)] 66)).alloc (.cells #[hP, .pointer (some ⟨w.heap.size, 0, none⟩), .int .u64 150] 90)) (by simp)
  have hg2 : ((w.alloc (.cells #[.pointer (some t)] 66)).alloc (.cells #[hP, .pointer (some ⟨w.heap.size, 0, none⟩), .int .u64 150] 90)).cell? ⟨0, 0, none⟩ = some (.iface 107 (.agg #[.pointer (some ⟨5, 60, none⟩)])) := cell_alloc' (cell_alloc' hg _) _
  have el := elemVP ⟨w.heap.size, 0, none⟩ t (((w.alloc (.cells #[.pointer (some t)] 66)).alloc (.cells #[hP, .pointer (some ⟨w.heap.size, 0, none⟩), .int .u64 150] 90)).alloc (.cells #[hP, .pointer (some ⟨w.heap.size, 0, none⟩), .int .u64 150] 90)) (by rw [World.cell?_alloc_lt _ _ ⟨w.heap.size, 0, none⟩ (by simp; omega)]; simp)
  have st := setL t ⟨w.heap.size + 1 + 1 + 1, 0, none⟩ c old ((((w.alloc (.cells #[.pointer (some t)] 66)).alloc (.cells #[hP, .pointer (some ⟨w.heap.size, 0, none⟩), .int .u64 150] 90)).alloc (.cells #[hP, .pointer (some ⟨w.heap.size, 0, none⟩), .int .u64 150] 90)).alloc (.cells #[.int .i64 c] 64))
    (by rw [World.cell?_alloc_at _ _ _ _ (by simp)]; rfl)
    (cell_alloc' (cell_alloc' (cell_alloc' (cell_alloc' ht0 _) _) _) _)
    (by rw [World.frozen?_alloc_old _ _ t (by simp; omega), World.frozen?_alloc_old _ _ t (by simp; omega), World.frozen?_alloc_old _ _ t (by simp; omega), World.frozen?_alloc_old _ _ t (Nat.ne_of_lt htl)]; exact hf0)
  unfold hP hL at *
  go_enter Tryz.func23, Tryz.ntmps23
  go_wp2
  refine wp_loop_rounds 1 ?_
  rw [rounds_succ]
  go_wp2
  go_ret
  exact ⟨rfl, rfl⟩
end Go.Proofs.YtefkdpppcjlflaaGreatDoor.Parse
