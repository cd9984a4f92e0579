import Derived.Test.YtdhnjkcebaahcaaDoorProg
import Derived.WalkKit
import Derived.ProofKit
import Derived.OpenShut
import Derived.ChangeOld
import Derived.ChangeVars
import Derived.WalkSmall
import Derived.WideKeyArgs
import Derived.Below
import Derived.Carry
namespace Go.Proofs.YtdhnjkcebaahcaaDoor.RowV
open Go.ChangeShapes Go.WideShapes Go.ChangeAt Go.RowKit
set_option linter.unusedVariables false

/-- A named variable's type can be read. -/
def varOk (P : Program) (n : String) : Bool :=
  match P.globalNamed n with
  | none => true
  | some g => match (P.globals[g]?).map (·.type) with
    | none => true
    | some t => P.readableRec t && decide (t < P.types.size)
theorem var_lt {P : Program} {W : World} {n : String} {g : Nat} {cs : Array Value} (hg : P.globalNamed n = some g) (hv : W.var? P n = some cs) : g < W.heap.size := by
  unfold World.var? at hv
  simp only [hg, Option.bind_some] at hv
  split at hv
  · rename_i h; exact (Array.getElem?_eq_some_iff.1 h).1
  · cases hv
/-- What a call that writes nothing old leaves of the named variables. -/
theorem vars_stay {H : Type} {enc : TypeId × Value → H} {P : Program} (hl : laidOutB P = true) {W W' : World} (hb : Below W.heap.size W W') : ∀ {ns : List String} {gs : List (DataW H)} {q : List MemPlace}, DataW.TrodVars enc P W (fun _ => true) ns gs q → ns.all (varOk P) = true → DataW.TrodVars enc P W' (fun b => decide (b < W.heap.size)) ns gs q
  | [], [], q, h, _ => h
  | [], _ :: _, q, h, _ => by simp [DataW.TrodVars] at h
  | _ :: _, [], q, h, _ => by simp [DataW.TrodVars] at h
  | n :: ns, d :: ds, q, h, ha => by
    obtain ⟨g, t, cs, fuel, p, q', h1, h2, h3, h4, h5, h6⟩ := h
    rw [List.all_cons, Bool.and_eq_true] at ha
    have ok := ha.1
    unfold varOk at ok
    rw [h1] at ok
    simp only [h2, Bool.and_eq_true, decide_eq_true_eq] at ok
    have hlt := DataW.trod_lt fuel _ _ _ h4
    refine ⟨g, t, cs, fuel, p, q', h1, h2, var?_below hb h1 (var_lt h1 h3) h3, ?_, vars_stay hl hb h5 ha.2, h6⟩
    exact DataW.trod_stays (Go.kids_book hl ok.1) (Go.book_sized ok.1) (fun h => by cases h) ⟨ok.2, Go.book_self t⟩ h4 (fun x hx => hb.same (hlt x hx)) (fun x hx => by simpa using hlt x hx)
theorem vars_len {H : Type} {enc : TypeId × Value → H} {P : Program} {W : World} {sp : Nat → Bool} : ∀ {ns : List String} {gs : List (DataW H)} {q : List MemPlace}, DataW.TrodVars enc P W sp ns gs q → gs.length = ns.length
  | [], [], q, h => rfl
  | [], _ :: _, q, h => by simp [DataW.TrodVars] at h
  | _ :: _, [], q, h => by simp [DataW.TrodVars] at h
  | n :: ns, d :: ds, q, h => by
    obtain ⟨g, t, cs, fuel, p, q', h1, h2, h3, h4, h5, h6⟩ := h
    simp [vars_len h5]
end Go.Proofs.YtdhnjkcebaahcaaDoor.RowV
