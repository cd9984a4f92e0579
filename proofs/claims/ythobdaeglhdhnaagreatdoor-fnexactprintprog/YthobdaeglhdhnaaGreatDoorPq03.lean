import Derived.Test.YthobdaeglhdhnaaGreatDoorProg
import Derived.WalkKit
import Derived.ProofKit
import Derived.OpenShut
import Derived.ChangeOld
import Derived.ChangeVars
import Derived.WalkSmall
import Derived.WideKeyArgs
import Derived.Below
import Derived.Carry
import Derived.Test.YthobdaeglhdhnaaGreatDoorCards
import Derived.Test.YthobdaeglhdhnaaGreatDoorTie
import Derived.Test.YthobdaeglhdhnaaGreatDoorPq01
import Derived.Test.YthobdaeglhdhnaaGreatDoorPq02
import Derived.ShutString
import Derived.Deep.DeepHandedRow
import Derived.Lib.LaidTab
import Derived.Stop.LaidErr
namespace Go.Proofs.YthobdaeglhdhnaaGreatDoor.RowV
open Go.ChangeShapes Go.WideShapes Go.ChangeAt Go.RowKit
set_option linter.unusedVariables false

/-- A named variable's type can be read. -/
def varOk (P : Program) (n : String) : Bool :=
  match P.globalNamed n with
  | none => true
  | some g => match (P.globals[g]?).map (·.type) with
    | none => true
    | some t => P.readableRec t && decide (t < P.types.size)
theorem var_lt {P : Program} {W : World} {n : String} {g : Nat} {cs : Array Value} (hg : P.globalNamed n = some g) (hv : W.var? P n = some cs) : g < W.heap.size := by
  unfold World.var? at hv
  simp only [hg, Option.bind_some] at hv
  split at hv
  · rename_i h; exact (Array.getElem?_eq_some_iff.1 h).1
  · cases hv
/-- What a call that writes nothing old leaves of the named variables. -/
theorem vars_stay {H : Type} {enc : TypeId × Value → H} {P : Program} (hl : laidOutB P = true) {W W' : World} (hb : Below W.heap.size W W') : ∀ {ns : List String} {gs : List (DataW H)} {q : List MemPlace}, DataW.TrodVars enc P W (fun _ => true) ns gs q → ns.all (varOk P) = true → DataW.TrodVars enc P W' (fun b => decide (b < W.heap.size)) ns gs q
  | [], [], q, h, _ => h
  | [], _ :: _, q, h, _ => by simp [DataW.TrodVars] at h
  | _ :: _, [], q, h, _ => by simp [DataW.TrodVars] at h
  | n :: ns, d :: ds, q, h, ha => by
    obtain ⟨g, t, cs, fuel, p, q', h1, h2, h3, h4, h5, h6⟩ := h
    rw [List.all_cons, Bool.and_eq_true] at ha
    have ok := ha.1
    unfold varOk at ok
    rw [h1] at ok
    simp only [h2, Bool.and_eq_true, decide_eq_true_eq] at ok
    have hlt := DataW.trod_lt fuel _ _ _ h4
    refine ⟨g, t, cs, fuel, p, q', h1, h2, var?_below hb h1 (var_lt h1 h3) h3, ?_, vars_stay hl hb h5 ha.2, h6⟩
    exact DataW.trod_stays (Go.kids_book hl ok.1) (Go.book_sized ok.1) (fun h => by cases h) ⟨ok.2, Go.book_self t⟩ h4 (fun x hx => hb.same (hlt x hx)) (fun x hx => by simpa using hlt x hx)
theorem vars_len {H : Type} {enc : TypeId × Value → H} {P : Program} {W : World} {sp : Nat → Bool} : ∀ {ns : List String} {gs : List (DataW H)} {q : List MemPlace}, DataW.TrodVars enc P W sp ns gs q → gs.length = ns.length
  | [], [], q, h => rfl
  | [], _ :: _, q, h => by simp [DataW.TrodVars] at h
  | _ :: _, [], q, h => by simp [DataW.TrodVars] at h
  | n :: ns, d :: ds, q, h => by
    obtain ⟨g, t, cs, fuel, p, q', h1, h2, h3, h4, h5, h6⟩ := h
    simp [vars_len h5]
end Go.Proofs.YthobdaeglhdhnaaGreatDoor.RowV
namespace Go.Proofs.YthobdaeglhdhnaaGreatDoor.fnExactPrintProg
open Go.ChangeShapes Go.WideShapes Go.ChangeAt Go.RowKit
set_option linter.unusedVariables false

theorem own : ownKnob Tryz.prog.godebug = none := by kernel_rfl
theorem laidOut : laidOutB Tryz.prog = true := by kernel_rfl
set_option maxRecDepth 100000 in
theorem contract (H : Type) (enc : TypeId × Value → H) (W : World) (base : Nat) (args : Array Value) (ds gs : List (DataW H)) (before : List MemPlace)
    (hval : ∀ (j : Nat) t v, Tryz.f3.params[j]? = some t → args[j]? = some v → Value.okWide Tryz.prog W .any base t v)
    (hW : DataW.Whole enc Tryz.prog Tryz.f3.params.toList Rows.fnExactPrintProgSpec.vars false W args.toList ds gs before) (hL : laidMetH Tryz.prog Rows.fnExactPrintProgRow.laid W) :
    Calls Tryz.prog 3 args W fun e W' => ∃ v, e = .returned v ∧ Rows.fnExactPrintProgSpec.post enc Tryz.prog Tryz.f3 false true false false W args v W' := by
  have hW' := hW
  obtain ⟨p, q, hA0, hV, rfl, hfz, hnd⟩ := hW
  have hA : DataW.TrodAll enc Tryz.prog W 0 (fun _ => true) true Tryz.f3.params.toList args.toList ds p := hA0
  rw [Tryz.params3] at hA hval
  obtain ⟨v0, vs0, d0, ds0, p0, q0, hargs, rfl, rfl, h0, r0⟩ := trodAll_cons hA
  obtain ⟨rfl, rfl, rfl⟩ := trodAll_nil r0
  obtain rfl : args = #[v0] := by cases args; simp_all
  obtain ⟨g1, g2, g3, g4, hgs⟩ : ∃ g1 g2 g3 g4, gs = [g1, g2, g3, g4] := by
    match gs, RowV.vars_len hV with
    | [g1, g2, g3, g4], _ => exact ⟨g1, g2, g3, g4, rfl⟩
  subst hgs
  have k0 := h0
  have lt0 : ∀ x ∈ p0, x.block < W.heap.size := by obtain ⟨m, hm⟩ := k0; exact DataW.trod_lt m _ _ _ hm
  obtain ⟨a, c, P, L, rfl, hI, hbd⟩ := OpenP.prog (hval 0 24 v0 rfl rfl) h0
  clear hA0
  refine (LawPP.law P a c L W hI hbd (LawPP.tables hL)).mono fun e W' ⟨he, bel⟩ => ?_
  subst he
  exact ⟨_, rfl, _, _, _, [], _, _, hW', trodAll_mk1 (shut_bool Tryz.underlying4 _), (trodAll_cons_mk (Below.trod laidOut (by kernel_rfl) (of_decide_eq_true (by kernel_rfl)) k0 bel lt0) trodAll_mk0), RowV.vars_stay laidOut bel hV (by kernel_rfl), bel.frame _, fun h => by cases h⟩

def litVal : DataW Unit → Value
  | .lit (.int k z) => Value.int k z
  | .lit (.bool b) => Value.bool b
  | .lit (.string l) => Value.string ⟨l.toArray⟩
  | _ => Value.bool false
def litCells : DataW Unit → Array Value
  | .agg l => (l.flatMap fun
    | .agg m => m.map litVal
    | d => [litVal d]).toArray
  | _ => #[]
def setB (h : Array Obj) (i : Nat) (c : Array Value) : Array Obj := h.modify i fun
  | .cells _ t frozen => .cells c t frozen
  | o => o
/-- A world for the witness: the settled one, the tables holding what their initialisers lay. -/
noncomputable def laidWorld (os : Os) : World :=
  { World.holding Tryz.prog os ⟨#[], #[], []⟩ with heap := (setB (setB (setB (setB (setB (setB (setB (World.holding Tryz.prog os ⟨#[], #[], []⟩).heap 5 (litCells Rows.laid_math_bits_deBruijn32tab)) 6 (litCells Rows.laid_math_bits_deBruijn64tab)) 4 (litCells Rows.laid_internal_strconv_uint64pow10)) 0 (litCells Rows.laid_loop_example_s0023_impl_tokenWords)) 3 (litCells Rows.laid_loop_example_s0023_impl_binStrengths)) 2 (litCells Rows.laid_loop_example_s0023_impl_opValMax)) 1 (litCells Rows.laid_loop_example_s0023_impl_itemShapes)) }
theorem laid_met (os : Os) : laidMet Tryz.prog Rows.fnExactPrintProgRow.laid ((laidWorld os).forCall (fun _ _ => 0) ⟨#[], #[.agg #[.slice none 0 0]], []⟩).memory :=
  laidMet_of_run' 8 (by kernel_rfl) (by kernel_rfl)
theorem reads (os : Os) {H : Type} (enc : TypeId × Value → H) : ∃ x, DataW.whole enc Tryz.prog ((laidWorld os).forCall (fun _ _ => 0) ⟨#[], #[.agg #[.slice none 0 0]], []⟩).memory Tryz.f3.params.toList Rows.fnExactPrintProgSpec.vars false #[Value.agg #[.slice none 0 0]].toList 8 = some x :=
  Option.isSome_iff_exists.1 (by kernel_rfl)

set_option maxRecDepth 100000 in
theorem lifted (os : Os) (started : os.Started) (H : Type) (enc : TypeId × Value → H) (F : Stop.Interp) :
    ReturnsInHanded {} Tryz.checked os 3 .any ((OpenSpec.ofChange Rows.fnExactPrintProgSpec).preRow enc Tryz.prog Tryz.f3 Rows.fnExactPrintProgRow.domain false Rows.fnExactPrintProgRow.laid) (((OpenSpec.ofChange Rows.fnExactPrintProgSpec).at F).post enc Tryz.prog Tryz.f3 false true false false) := by
  obtain ⟨x, hx⟩ := reads os enc
  refine returnsInHanded_of_row (C := Tryz.checked) (s := OpenSpec.ofChange Rows.fnExactPrintProgSpec) own started (by kernel_rfl) Tryz.func3
    (witness_row_at (enc := enc) (C := Tryz.checked) false (laidWorld os) #[.agg #[.slice none 0 0]] rfl (by kernel_rfl) (by kernel_rfl) (by kernel_rfl)
      (OpenSpec.preRow_of_cond 8 hx (by kernel_rfl) (fun k hk => by cases hk) (by kernel_rfl) (laid_met os))) ?_
  intro W base args ds gs before hval hW _ _ _ hL _ _
  exact contract H enc W base args ds gs before hval hW hL

theorem said : Rows.FnExactPrintProgSaid :=
  OpenClaim.holds_of_cond 3 Tryz.f3 rfl rfl rfl rfl rfl rfl rfl ⟨rfl, rfl, rfl, rfl, rfl⟩ rfl rfl rfl rfl rfl (by kernel_rfl) Tryz.func3 (by kernel_rfl)
    (of_decide_eq_true (by kernel_rfl)) (by unfold Func.isWrapper; first | (rw [if_pos (by decide +kernel)]; kernel_rfl) | (rw [if_neg (by decide +kernel)]; exact ⟨rfl, rfl⟩))
    (fun os started H enc _ F => by rw [OpenClaim.pre_eq_preRow]; exact lifted os started H enc F)

/-- No parameter wants a stand-in; the program's own looks. -/
theorem plain (f : FuncId) (fn : Func) (hf : Tryz.pinned.checked.prog.funcNamed "loop.example/s0023/laws.FnExactPrintProg" = some f) (hfn : Tryz.pinned.checked.prog.funcs[f]? = some fn) :
    true = Tryz.pinned.checked.prog.looks [] ∧ ∀ (j : Nat) t, fn.params[j]? = some t → Tryz.pinned.checked.prog.wantsStandIn t = false := by
  obtain rfl : f = 3 := Option.some.inj ((show Tryz.prog.funcNamed "loop.example/s0023/laws.FnExactPrintProg" = some 3 by kernel_rfl).symm.trans hf) |>.symm
  obtain rfl : fn = Tryz.f3 := (Option.some.inj (Tryz.func3.symm.trans hfn)).symm
  refine ⟨by kernel_rfl, fun j t ht => ?_⟩
  rw [Tryz.params3] at ht
  obtain rfl : t = 24 := by simpa using Array.mem_of_getElem? ht
  exact (show Tryz.prog.wantsStandIn 24 = false by kernel_rfl)
end Go.Proofs.YthobdaeglhdhnaaGreatDoor.fnExactPrintProg
namespace Go.Proofs.YthobdaeglhdhnaaGreatDoor
theorem fnExactPrintProg_card : Rows.FnExactPrintProgCardSaid :=
  Claim7.holds_tied_plain_at .later [] _ _ _ _ fnExactPrintProg.said (fun _ h => by cases h) (by kernel_rfl) (fun _ h => by cases h) fnExactPrintProg_row_tie rfl ⟨rfl, rfl⟩ (by kernel_rfl) rfl fnExactPrintProg.plain (by kernel_rfl)
#print axioms fnExactPrintProg_card
end Go.Proofs.YthobdaeglhdhnaaGreatDoor
