import Derived.Test.YtgooegcmgejfpaaGreatDoorProg
import Derived.Test.YtgooegcmgejfpaaGreatDoorGs01
import Derived.ProofKit
import Derived.OpenShut
import Derived.Deep.Slices
import Derived.Lib.SmallJoins
import Derived.WalkKit
import Derived.ChangeOld
import Derived.ChangeVars
import Derived.WalkSmall
import Derived.WideKeyArgs
import Derived.Below
import Derived.Carry
import Derived.Test.YtgooegcmgejfpaaGreatDoorCards
import Derived.Test.YtgooegcmgejfpaaGreatDoorTie
import Derived.Test.YtgooegcmgejfpaaGreatDoorGs48
import Derived.Test.YtgooegcmgejfpaaGreatDoorGs49
import Derived.ShutString
import Derived.Deep.DeepHandedRow
import Derived.Lib.LaidTab
import Derived.Stop.LaidErr
namespace Go.Proofs.YtgooegcmgejfpaaGreatDoor.Open
open Go Go.RowKit Go.Deep Go.Proofs.YtgooegcmgejfpaaGreatDoor.Mem
set_option linter.unusedVariables false

theorem len3 {α : Type} {cs : List α} (h : cs.length = 3) : ∃ v0 v1 v2, cs = [v0, v1, v2] := by
  match cs, h with
  | [v0, v1, v2], _ => exact ⟨v0, v1, v2, rfl⟩
theorem len5 {α : Type} {cs : List α} (h : cs.length = 5) : ∃ v0 v1 v2 v3 v4, cs = [v0, v1, v2, v3, v4] := by
  match cs, h with
  | [v0, v1, v2, v3, v4], _ => exact ⟨v0, v1, v2, v3, v4, rfl⟩
theorem len7 {α : Type} {cs : List α} (h : cs.length = 7) : ∃ v0 v1 v2 v3 v4 v5 v6, cs = [v0, v1, v2, v3, v4, v5, v6] := by
  match cs, h with
  | [v0, v1, v2, v3, v4, v5, v6], _ => exact ⟨v0, v1, v2, v3, v4, v5, v6, rfl⟩
theorem len12 {α : Type} {cs : List α} (h : cs.length = 12) : ∃ v0 v1 v2 v3 v4 v5 v6 v7 v8 v9 v10 v11, cs = [v0, v1, v2, v3, v4, v5, v6, v7, v8, v9, v10, v11] := by
  match cs, h with
  | [v0, v1, v2, v3, v4, v5, v6, v7, v8, v9, v10, v11], _ => exact ⟨v0, v1, v2, v3, v4, v5, v6, v7, v8, v9, v10, v11, rfl⟩

theorem place {H : Type} {enc : TypeId × Value → H} {w : World} {base : Nat} {spare : Nat → Bool} {held : Bool} {fuel : Nat} {cs : List Value} {x : DataW H × List MemPlace} (h : DataW.trod enc Tryz.prog w base spare held fuel 138 cs = some x) :
    ∃ z0 z1 z2 z3 z4 : Int, cs = [.int .i64 z0, .int .i64 z1, .int .i64 z2, .int .i64 z3, .int .i64 z4] := by
  obtain ⟨xs, m, -, -, hl, hn, hf⟩ := DataW.trod_struct Tryz.underlying138 h
  rw [show Tryz.prog.cellsOf 138 = 5 from by kernel_rfl] at hl
  obtain ⟨v0, v1, v2, v3, v4, rfl⟩ := len5 hl
  have c1 : Tryz.prog.cellsOf 2 = 1 := by kernel_rfl
  have h0 := hf 0 _ rfl
  have h1 := hf 1 _ rfl
  have h2 := hf 2 _ rfl
  have h3 := hf 3 _ rfl
  have h4 := hf 4 _ rfl
  obtain ⟨z0, hz0, -, -⟩ := DataW.trod_int Tryz.underlying2 (h0.trans (List.getElem?_eq_getElem (show 0 < xs.length by rw [hn]; simp)))
  obtain ⟨z1, hz1, -, -⟩ := DataW.trod_int Tryz.underlying2 (h1.trans (List.getElem?_eq_getElem (show 1 < xs.length by rw [hn]; simp)))
  obtain ⟨z2, hz2, -, -⟩ := DataW.trod_int Tryz.underlying2 (h2.trans (List.getElem?_eq_getElem (show 2 < xs.length by rw [hn]; simp)))
  obtain ⟨z3, hz3, -, -⟩ := DataW.trod_int Tryz.underlying2 (h3.trans (List.getElem?_eq_getElem (show 3 < xs.length by rw [hn]; simp)))
  obtain ⟨z4, hz4, -, -⟩ := DataW.trod_int Tryz.underlying2 (h4.trans (List.getElem?_eq_getElem (show 4 < xs.length by rw [hn]; simp)))
  simp [c1] at hz0
  subst hz0
  simp [c1] at hz1
  subst hz1
  simp [c1] at hz2
  subst hz2
  simp [c1] at hz3
  subst hz3
  simp [c1] at hz4
  subst hz4
  exact ⟨z0, z1, z2, z3, z4, rfl⟩

theorem road {H : Type} {enc : TypeId × Value → H} {w : World} {base : Nat} {spare : Nat → Bool} {held : Bool} {fuel : Nat} {cs : List Value} {x : DataW H × List MemPlace} (h : DataW.trod enc Tryz.prog w base spare held fuel 145 cs = some x) :
    ∃ z0 z1 z2 : Int, cs = [.int .i64 z0, .int .i64 z1, .int .i64 z2] := by
  obtain ⟨xs, m, -, -, hl, hn, hf⟩ := DataW.trod_struct Tryz.underlying145 h
  rw [show Tryz.prog.cellsOf 145 = 3 from by kernel_rfl] at hl
  obtain ⟨v0, v1, v2, rfl⟩ := len3 hl
  have c1 : Tryz.prog.cellsOf 2 = 1 := by kernel_rfl
  have h0 := hf 0 _ rfl
  have h1 := hf 1 _ rfl
  have h2 := hf 2 _ rfl
  obtain ⟨z0, hz0, -, -⟩ := DataW.trod_int Tryz.underlying2 (h0.trans (List.getElem?_eq_getElem (show 0 < xs.length by rw [hn]; simp)))
  obtain ⟨z1, hz1, -, -⟩ := DataW.trod_int Tryz.underlying2 (h1.trans (List.getElem?_eq_getElem (show 1 < xs.length by rw [hn]; simp)))
  obtain ⟨z2, hz2, -, -⟩ := DataW.trod_int Tryz.underlying2 (h2.trans (List.getElem?_eq_getElem (show 2 < xs.length by rw [hn]; simp)))
  simp [c1] at hz0
  subst hz0
  simp [c1] at hz1
  subst hz1
  simp [c1] at hz2
  subst hz2
  exact ⟨z0, z1, z2, rfl⟩

theorem vehicle {H : Type} {enc : TypeId × Value → H} {w : World} {base : Nat} {spare : Nat → Bool} {held : Bool} {fuel : Nat} {cs : List Value} {x : DataW H × List MemPlace} (h : DataW.trod enc Tryz.prog w base spare held fuel 140 cs = some x) :
    ∃ z0 z1 z2 z3 z4 z5 z6 : Int, cs = [.int .i64 z0, .int .i64 z1, .int .i64 z2, .int .i64 z3, .int .i64 z4, .int .i64 z5, .int .i64 z6] := by
  obtain ⟨xs, m, -, -, hl, hn, hf⟩ := DataW.trod_struct Tryz.underlying140 h
  rw [show Tryz.prog.cellsOf 140 = 7 from by kernel_rfl] at hl
  obtain ⟨v0, v1, v2, v3, v4, v5, v6, rfl⟩ := len7 hl
  have c1 : Tryz.prog.cellsOf 2 = 1 := by kernel_rfl
  have c5 : Tryz.prog.cellsOf 138 = 5 := by kernel_rfl
  obtain ⟨z0, hz0, -, -⟩ := DataW.trod_int Tryz.underlying2 ((hf 0 _ rfl).trans (List.getElem?_eq_getElem (show 0 < xs.length by rw [hn]; simp)))
  simp [c1] at hz0
  subst hz0
  obtain ⟨z1, hz1, -, -⟩ := DataW.trod_int Tryz.underlying2 ((hf 1 _ rfl).trans (List.getElem?_eq_getElem (show 1 < xs.length by rw [hn]; simp)))
  simp [c1] at hz1
  subst hz1
  obtain ⟨y00, y01, y02, y03, y04, hp0⟩ := place ((hf 2 _ rfl).trans (List.getElem?_eq_getElem (show 2 < xs.length by rw [hn]; simp)))
  simp [c5] at hp0
  obtain ⟨rfl, rfl, rfl, rfl, rfl⟩ := hp0
  exact ⟨z0, z1, y00, y01, y02, y03, y04, rfl⟩

theorem request {H : Type} {enc : TypeId × Value → H} {w : World} {base : Nat} {spare : Nat → Bool} {held : Bool} {fuel : Nat} {cs : List Value} {x : DataW H × List MemPlace} (h : DataW.trod enc Tryz.prog w base spare held fuel 143 cs = some x) :
    ∃ z0 z1 z2 z3 z4 z5 z6 z7 z8 z9 z10 z11 : Int, cs = [.int .i64 z0, .int .i64 z1, .int .i64 z2, .int .i64 z3, .int .i64 z4, .int .i64 z5, .int .i64 z6, .int .i64 z7, .int .i64 z8, .int .i64 z9, .int .i64 z10, .int .i64 z11] := by
  obtain ⟨xs, m, -, -, hl, hn, hf⟩ := DataW.trod_struct Tryz.underlying143 h
  rw [show Tryz.prog.cellsOf 143 = 12 from by kernel_rfl] at hl
  obtain ⟨v0, v1, v2, v3, v4, v5, v6, v7, v8, v9, v10, v11, rfl⟩ := len12 hl
  have c1 : Tryz.prog.cellsOf 2 = 1 := by kernel_rfl
  have c5 : Tryz.prog.cellsOf 138 = 5 := by kernel_rfl
  obtain ⟨z0, hz0, -, -⟩ := DataW.trod_int Tryz.underlying2 ((hf 0 _ rfl).trans (List.getElem?_eq_getElem (show 0 < xs.length by rw [hn]; simp)))
  simp [c1] at hz0
  subst hz0
  obtain ⟨z1, hz1, -, -⟩ := DataW.trod_int Tryz.underlying2 ((hf 1 _ rfl).trans (List.getElem?_eq_getElem (show 1 < xs.length by rw [hn]; simp)))
  simp [c1] at hz1
  subst hz1
  obtain ⟨y00, y01, y02, y03, y04, hp0⟩ := place ((hf 2 _ rfl).trans (List.getElem?_eq_getElem (show 2 < xs.length by rw [hn]; simp)))
  simp [c5] at hp0
  obtain ⟨rfl, rfl, rfl, rfl, rfl⟩ := hp0
  obtain ⟨y10, y11, y12, y13, y14, hp1⟩ := place ((hf 3 _ rfl).trans (List.getElem?_eq_getElem (show 3 < xs.length by rw [hn]; simp)))
  simp [c5] at hp1
  obtain ⟨rfl, rfl, rfl, rfl, rfl⟩ := hp1
  exact ⟨z0, z1, y00, y01, y02, y03, y04, y10, y11, y12, y13, y14, rfl⟩

theorem slice_open {w : World} {a : Addr} {len k : Nat} {C : Nat → List Value} (hk : 0 < k) (h : ∀ i, i < len → w.cells? 0 (a.add (i * k)) k = some (C i)) : SliceAt w (some a) len k C := by
  by_cases h0 : len = 0
  · exact Or.inl h0
  right
  obtain ⟨b, off, spot⟩ := a
  obtain ⟨-, hl, hc⟩ := World.cells?_some (h 0 (by omega))
  have e0 := hc 0 hk
  rw [List.getElem?_eq_getElem (by omega)] at e0
  have hs : spot = none := by simpa [Addr.add] using World.cell?_spot e0
  subst hs
  refine ⟨b, off, rfl, fun i hi j v hv => ?_⟩
  obtain ⟨-, hl, hc⟩ := World.cells?_some (h i hi)
  have hj : j < k := by rw [← hl]; exact (List.getElem?_eq_some_iff.1 hv).1
  have := hc j hj
  rw [Deep.add_add, Addr.add_mid, ← Nat.add_assoc] at this
  rw [this]; exact hv


theorem vehicles {H : Type} {enc : TypeId × Value → H} {w : World} {spare : Nat → Bool} {held : Bool} {fuel : Nat} {v : Value} {y : DataW H × List MemPlace} (h : DataW.trod enc Tryz.prog w 0 spare held fuel 25 [v] = some y) :
    ∃ (a : Option Addr) (n c : Nat) (V : Nat → Veh), v = .slice a n c ∧ n ≤ 9223372036854775807 ∧ SliceAt w a n 7 (fun i => (V i).cells) := by
  rcases open_slice Tryz.underlying25 h with ⟨hcs, -⟩ | ⟨a, len, cap, m, n, D, Pl, hcs, -, hl, hm, hmm, -, hx⟩
  · simp at hcs
    exact ⟨none, 0, 0, fun _ => ⟨0, 0, 0, 0, 0, 0, 0⟩, hcs, by omega, Or.inl rfl⟩
  · simp at hcs
    have hlm : len ≤ m := by rw [hmm]; split <;> omega
    rw [show Tryz.prog.cellsOf 140 = 7 from by kernel_rfl] at hx
    have hq : ∀ i, i < len → ∃ V : Veh, w.cells? 0 (a.add (i * 7)) 7 = some V.cells := fun i hi => by
      obtain ⟨cs', h1, h2⟩ := hx i (by omega)
      obtain ⟨z0, z1, z2, z3, z4, z5, z6, rfl⟩ := vehicle h2
      exact ⟨⟨z0, z1, z2, z3, z4, z5, z6⟩, h1⟩
    have : Inhabited Veh := ⟨⟨0, 0, 0, 0, 0, 0, 0⟩⟩
    obtain ⟨V, hV⟩ := choose_lt hq
    unfold maxLen at hm
    exact ⟨some a, len, cap, V, hcs, by omega, slice_open (by omega) hV⟩

theorem requests {H : Type} {enc : TypeId × Value → H} {w : World} {spare : Nat → Bool} {held : Bool} {fuel : Nat} {v : Value} {y : DataW H × List MemPlace} (h : DataW.trod enc Tryz.prog w 0 spare held fuel 26 [v] = some y) :
    ∃ (a : Option Addr) (n c : Nat) (V : Nat → Req), v = .slice a n c ∧ n ≤ 9223372036854775807 ∧ SliceAt w a n 12 (fun i => (V i).cells) := by
  rcases open_slice Tryz.underlying26 h with ⟨hcs, -⟩ | ⟨a, len, cap, m, n, D, Pl, hcs, -, hl, hm, hmm, -, hx⟩
  · simp at hcs
    exact ⟨none, 0, 0, fun _ => ⟨0, 0, 0, 0, 0, 0, 0, 0, 0, 0, 0, 0⟩, hcs, by omega, Or.inl rfl⟩
  · simp at hcs
    have hlm : len ≤ m := by rw [hmm]; split <;> omega
    rw [show Tryz.prog.cellsOf 143 = 12 from by kernel_rfl] at hx
    have hq : ∀ i, i < len → ∃ V : Req, w.cells? 0 (a.add (i * 12)) 12 = some V.cells := fun i hi => by
      obtain ⟨cs', h1, h2⟩ := hx i (by omega)
      obtain ⟨z0, z1, z2, z3, z4, z5, z6, z7, z8, z9, z10, z11, rfl⟩ := request h2
      exact ⟨⟨z0, z1, z2, z3, z4, z5, z6, z7, z8, z9, z10, z11⟩, h1⟩
    have : Inhabited Req := ⟨⟨0, 0, 0, 0, 0, 0, 0, 0, 0, 0, 0, 0⟩⟩
    obtain ⟨V, hV⟩ := choose_lt hq
    unfold maxLen at hm
    exact ⟨some a, len, cap, V, hcs, by omega, slice_open (by omega) hV⟩

theorem roads {H : Type} {enc : TypeId × Value → H} {w : World} {spare : Nat → Bool} {held : Bool} {fuel : Nat} {v : Value} {y : DataW H × List MemPlace} (h : DataW.trod enc Tryz.prog w 0 spare held fuel 27 [v] = some y) :
    ∃ (a : Option Addr) (n c : Nat) (V : Nat → Rd), v = .slice a n c ∧ n ≤ 9223372036854775807 ∧ SliceAt w a n 3 (fun i => (V i).cells) := by
  rcases open_slice Tryz.underlying27 h with ⟨hcs, -⟩ | ⟨a, len, cap, m, n, D, Pl, hcs, -, hl, hm, hmm, -, hx⟩
  · simp at hcs
    exact ⟨none, 0, 0, fun _ => ⟨0, 0, 0⟩, hcs, by omega, Or.inl rfl⟩
  · simp at hcs
    have hlm : len ≤ m := by rw [hmm]; split <;> omega
    rw [show Tryz.prog.cellsOf 145 = 3 from by kernel_rfl] at hx
    have hq : ∀ i, i < len → ∃ V : Rd, w.cells? 0 (a.add (i * 3)) 3 = some V.cells := fun i hi => by
      obtain ⟨cs', h1, h2⟩ := hx i (by omega)
      obtain ⟨z0, z1, z2, rfl⟩ := road h2
      exact ⟨⟨z0, z1, z2⟩, h1⟩
    have : Inhabited Rd := ⟨⟨0, 0, 0⟩⟩
    obtain ⟨V, hV⟩ := choose_lt hq
    unfold maxLen at hm
    exact ⟨some a, len, cap, V, hcs, by omega, slice_open (by omega) hV⟩

set_option maxRecDepth 100000 in
/-- An argument that is an instance. -/
theorem inst {H : Type} {enc : TypeId × Value → H} {w : World} {spare : Nat → Bool} {held : Bool} {r : Reach} {b0 : Nat} {v : Value} {d : DataW H} {p : List MemPlace} (hv : Value.okWide Tryz.prog w r b0 29 v) (h : DataW.Trod enc Tryz.prog w 0 spare held 29 v d p) :
    ∃ (a1 a2 a3 : Option Addr) (c1 c2 c3 : Nat) (I : In), v = .agg #[.slice a1 I.nV c1, .slice a2 I.nQ c2, .slice a3 I.nR c3] ∧ InAt w a1 a2 a3 I ∧ I.nV ≤ 9223372036854775807 ∧ I.nQ ≤ 9223372036854775807 ∧ I.nR ≤ 9223372036854775807 := by
  obtain ⟨u0, u1, u2, y0, y1, y2, n, rfl, -, -, t0, t1, t2⟩ := Joins.open_agg3 Tryz.underlying29 (by kernel_rfl) (show Tryz.prog.cellsOf 29 = 3 from by kernel_rfl) hv h
  obtain ⟨a1, n1, c1, V, rfl, b1, s1⟩ := vehicles t0
  obtain ⟨a2, n2, c2, Q, rfl, b2, s2⟩ := requests t1
  obtain ⟨a3, n3, c3, R, rfl, b3, s3⟩ := roads t2
  exact ⟨a1, a2, a3, c1, c2, c3, ⟨n1, n2, n3, V, Q, R⟩, rfl, ⟨s1, s2, s3⟩, b1, b2, b3⟩
end Go.Proofs.YtgooegcmgejfpaaGreatDoor.Open
namespace Go.Proofs.YtgooegcmgejfpaaGreatDoor.RowV
open Go.ChangeShapes Go.WideShapes Go.ChangeAt Go.RowKit
set_option linter.unusedVariables false

/-- A named variable's type can be read. -/
def varOk (P : Program) (n : String) : Bool :=
  match P.globalNamed n with
  | none => true
  | some g => match (P.globals[g]?).map (·.type) with
    | none => true
    | some t => P.readableRec t && decide (t < P.types.size)
theorem var_lt {P : Program} {W : World} {n : String} {g : Nat} {cs : Array Value} (hg : P.globalNamed n = some g) (hv : W.var? P n = some cs) : g < W.heap.size := by
  unfold World.var? at hv
  simp only [hg, Option.bind_some] at hv
  split at hv
  · rename_i h; exact (Array.getElem?_eq_some_iff.1 h).1
  · cases hv
/-- What a call that writes nothing old leaves of the named variables. -/
theorem vars_stay {H : Type} {enc : TypeId × Value → H} {P : Program} (hl : laidOutB P = true) {W W' : World} (hb : Below W.heap.size W W') : ∀ {ns : List String} {gs : List (DataW H)} {q : List MemPlace}, DataW.TrodVars enc P W (fun _ => true) ns gs q → ns.all (varOk P) = true → DataW.TrodVars enc P W' (fun b => decide (b < W.heap.size)) ns gs q
  | [], [], q, h, _ => h
  | [], _ :: _, q, h, _ => by simp [DataW.TrodVars] at h
  | _ :: _, [], q, h, _ => by simp [DataW.TrodVars] at h
  | n :: ns, d :: ds, q, h, ha => by
    obtain ⟨g, t, cs, fuel, p, q', h1, h2, h3, h4, h5, h6⟩ := h
    rw [List.all_cons, Bool.and_eq_true] at ha
    have ok := ha.1
    unfold varOk at ok
    rw [h1] at ok
    simp only [h2, Bool.and_eq_true, decide_eq_true_eq] at ok
    have hlt := DataW.trod_lt fuel _ _ _ h4
    refine ⟨g, t, cs, fuel, p, q', h1, h2, var?_below hb h1 (var_lt h1 h3) h3, ?_, vars_stay hl hb h5 ha.2, h6⟩
    exact DataW.trod_stays (Go.kids_book hl ok.1) (Go.book_sized ok.1) (fun h => by cases h) ⟨ok.2, Go.book_self t⟩ h4 (fun x hx => hb.same (hlt x hx)) (fun x hx => by simpa using hlt x hx)
theorem vars_len {H : Type} {enc : TypeId × Value → H} {P : Program} {W : World} {sp : Nat → Bool} : ∀ {ns : List String} {gs : List (DataW H)} {q : List MemPlace}, DataW.TrodVars enc P W sp ns gs q → gs.length = ns.length
  | [], [], q, h => rfl
  | [], _ :: _, q, h => by simp [DataW.TrodVars] at h
  | _ :: _, [], q, h => by simp [DataW.TrodVars] at h
  | n :: ns, d :: ds, q, h => by
    obtain ⟨g, t, cs, fuel, p, q', h1, h2, h3, h4, h5, h6⟩ := h
    simp [vars_len h5]
end Go.Proofs.YtgooegcmgejfpaaGreatDoor.RowV
namespace Go.Proofs.YtgooegcmgejfpaaGreatDoor.fnExactStepState
open Go.ChangeShapes Go.WideShapes Go.ChangeAt Go.RowKit
set_option linter.unusedVariables false

theorem own : ownKnob Tryz.prog.godebug = none := by kernel_rfl
theorem laidOut : laidOutB Tryz.prog = true := by kernel_rfl
set_option maxRecDepth 100000 in
theorem contract (H : Type) (enc : TypeId × Value → H) (W : World) (base : Nat) (args : Array Value) (ds gs : List (DataW H)) (before : List MemPlace)
    (hval : ∀ (j : Nat) t v, Tryz.f4.params[j]? = some t → args[j]? = some v → Value.okWide Tryz.prog W .any base t v)
    (hW : DataW.Whole enc Tryz.prog Tryz.f4.params.toList Rows.fnExactStepStateSpec.vars false W args.toList ds gs before) (hL : laidMetH Tryz.prog Rows.fnExactStepStateRow.laid W) :
    Calls Tryz.prog 4 args W fun e W' => ∃ v, e = .returned v ∧ Rows.fnExactStepStateSpec.post enc Tryz.prog Tryz.f4 false true false false W args v W' := by
  have hW' := hW
  obtain ⟨p, q, hA0, hV, rfl, hfz, hnd⟩ := hW
  have hA : DataW.TrodAll enc Tryz.prog W 0 (fun _ => true) true Tryz.f4.params.toList args.toList ds p := hA0
  rw [Tryz.params4] at hA hval
  obtain ⟨v0, vs0, d0, ds0, p0, q0, hargs, rfl, rfl, h0, r0⟩ := trodAll_cons hA
  obtain ⟨v1, vs1, d1, ds1, p1, q1, rfl, rfl, rfl, h1, r1⟩ := trodAll_cons r0
  obtain ⟨v2, vs2, d2, ds2, p2, q2, rfl, rfl, rfl, h2, r2⟩ := trodAll_cons r1
  obtain ⟨v3, vs3, d3, ds3, p3, q3, rfl, rfl, rfl, h3, r3⟩ := trodAll_cons r2
  obtain ⟨v4, vs4, d4, ds4, p4, q4, rfl, rfl, rfl, h4, r4⟩ := trodAll_cons r3
  obtain ⟨rfl, rfl, rfl⟩ := trodAll_nil r4
  obtain rfl : args = #[v0, v1, v2, v3, v4] := by cases args; simp_all
  obtain ⟨g1, hgs⟩ : ∃ g1, gs = [g1] := by
    match gs, RowV.vars_len hV with
    | [g1], _ => exact ⟨g1, rfl⟩
  subst hgs
  have k0 := h0
  have k1 := h1
  have k3 := h3
  have lt0 : ∀ x ∈ p0, x.block < W.heap.size := by obtain ⟨m, hm⟩ := k0; exact DataW.trod_lt m _ _ _ hm
  have lt1 : ∀ x ∈ p1, x.block < W.heap.size := by obtain ⟨m, hm⟩ := k1; exact DataW.trod_lt m _ _ _ hm
  have lt3 : ∀ x ∈ p3, x.block < W.heap.size := by obtain ⟨m, hm⟩ := k3; exact DataW.trod_lt m _ _ _ hm
  obtain ⟨a1, a2, a3, c1, c2, c3, C, rfl, hC, g1, g2, g3⟩ := OpenC.code (hval 0 24 v0 rfl rfl) h0
  obtain ⟨b1, b2, b3, e1, e2, e3, I, rfl, hI, g4, g5, g6⟩ := Open.inst (hval 1 29 v1 rfl rfl) h1
  obtain ⟨z, rfl, rfl, rfl, wz⟩ := open_int Tryz.underlying2 (hval 2 2 v2 rfl rfl) h2
  obtain ⟨s1, s2, s3, t1, t2, t3, S, rfl, hS, g7, g8, g9⟩ := OpenS.state (hval 3 53 v3 rfl rfl) h3
  obtain ⟨y, rfl, rfl, rfl, wy⟩ := open_int Tryz.underlying2 (hval 4 2 v4 rfl rfl) h4
  clear hA0
  refine (LawStep.law a1 a2 a3 b1 b2 b3 s1 s2 s3 c1 c2 c3 e1 e2 e3 t1 t2 t3 C I z S y W hC hI hS g1 g2 g3 g4 g5 g6 g7 g8 g9 (ValC.tabC hL)).mono fun e W' ⟨he, bel⟩ => ?_
  subst he
  exact ⟨_, rfl, _, _, _, [], _, _, hW', trodAll_mk1 (shut_bool Tryz.underlying4 _), (trodAll_cons_mk (Below.trod laidOut (by kernel_rfl) (of_decide_eq_true (by kernel_rfl)) k0 bel lt0) (trodAll_cons_mk (Below.trod laidOut (by kernel_rfl) (of_decide_eq_true (by kernel_rfl)) k1 bel lt1) (trodAll_cons_mk (shut_int Tryz.underlying2 wz) (trodAll_cons_mk (Below.trod laidOut (by kernel_rfl) (of_decide_eq_true (by kernel_rfl)) k3 bel lt3) (trodAll_cons_mk (shut_int Tryz.underlying2 wy) trodAll_mk0))))), RowV.vars_stay laidOut bel hV (by kernel_rfl), bel.frame _, fun h => by cases h⟩

def litCells : DataW Unit → Array Value
  | .agg l => (l.flatMap fun
    | .agg m => m.map fun
      | .lit (.int k z) => Value.int k z
      | _ => Value.bool false
    | _ => []).toArray
  | _ => #[]
def setB (h : Array Obj) (i : Nat) (c : Array Value) : Array Obj := h.modify i fun
  | .cells _ t frozen => .cells c t frozen
  | o => o
/-- A world for the witness: the settled one, the table holding what its initialiser lays. -/
noncomputable def laidWorld (os : Os) : World :=
  { World.holding Tryz.prog os ⟨#[], #[], []⟩ with heap := setB (World.holding Tryz.prog os ⟨#[], #[], []⟩).heap 0 (litCells Rows.laid_loop_example_s0023_impl_insShapes) }
theorem laid_met (os : Os) : laidMet Tryz.prog Rows.fnExactStepStateRow.laid ((laidWorld os).forCall (fun _ _ => 0) ⟨#[], #[.agg #[.int .i64 0, .int .i64 0, .slice none 0 0, .slice none 0 0, .slice none 0 0], .agg #[.slice none 0 0, .slice none 0 0, .slice none 0 0], .int .i64 0, .agg #[.int .i64 0, .int .i64 0, .int .i64 0, .int .i64 0, .int .i64 0, .int .i64 0, .slice none 0 0, .slice none 0 0, .slice none 0 0], .int .i64 0], []⟩).memory :=
  laidMet_of_run' 8 (by kernel_rfl) (by kernel_rfl)
theorem reads (os : Os) {H : Type} (enc : TypeId × Value → H) : ∃ x, DataW.whole enc Tryz.prog ((laidWorld os).forCall (fun _ _ => 0) ⟨#[], #[.agg #[.int .i64 0, .int .i64 0, .slice none 0 0, .slice none 0 0, .slice none 0 0], .agg #[.slice none 0 0, .slice none 0 0, .slice none 0 0], .int .i64 0, .agg #[.int .i64 0, .int .i64 0, .int .i64 0, .int .i64 0, .int .i64 0, .int .i64 0, .slice none 0 0, .slice none 0 0, .slice none 0 0], .int .i64 0], []⟩).memory Tryz.f4.params.toList Rows.fnExactStepStateSpec.vars false #[Value.agg #[.int .i64 0, .int .i64 0, .slice none 0 0, .slice none 0 0, .slice none 0 0], .agg #[.slice none 0 0, .slice none 0 0, .slice none 0 0], .int .i64 0, .agg #[.int .i64 0, .int .i64 0, .int .i64 0, .int .i64 0, .int .i64 0, .int .i64 0, .slice none 0 0, .slice none 0 0, .slice none 0 0], .int .i64 0].toList 8 = some x :=
  Option.isSome_iff_exists.1 (by kernel_rfl)

set_option maxRecDepth 100000 in
theorem lifted (os : Os) (started : os.Started) (H : Type) (enc : TypeId × Value → H) (F : Stop.Interp) :
    ReturnsInHanded {} Tryz.checked os 4 .any ((OpenSpec.ofChange Rows.fnExactStepStateSpec).preRow enc Tryz.prog Tryz.f4 Rows.fnExactStepStateRow.domain false Rows.fnExactStepStateRow.laid) (((OpenSpec.ofChange Rows.fnExactStepStateSpec).at F).post enc Tryz.prog Tryz.f4 false true false false) := by
  obtain ⟨x, hx⟩ := reads os enc
  refine returnsInHanded_of_row (C := Tryz.checked) (s := OpenSpec.ofChange Rows.fnExactStepStateSpec) own started (by kernel_rfl) Tryz.func4
    (witness_row_at (enc := enc) (C := Tryz.checked) false (laidWorld os) #[.agg #[.int .i64 0, .int .i64 0, .slice none 0 0, .slice none 0 0, .slice none 0 0], .agg #[.slice none 0 0, .slice none 0 0, .slice none 0 0], .int .i64 0, .agg #[.int .i64 0, .int .i64 0, .int .i64 0, .int .i64 0, .int .i64 0, .int .i64 0, .slice none 0 0, .slice none 0 0, .slice none 0 0], .int .i64 0] rfl (by kernel_rfl) (by kernel_rfl) (by kernel_rfl)
      (OpenSpec.preRow_of_cond 8 hx (by kernel_rfl) (fun k hk => by cases hk) (by kernel_rfl) (laid_met os))) ?_
  intro W base args ds gs before hval hW _ _ _ hL _ _
  exact contract H enc W base args ds gs before hval hW hL

theorem said : Rows.FnExactStepStateSaid :=
  OpenClaim.holds_of_cond 4 Tryz.f4 rfl rfl rfl rfl rfl rfl rfl ⟨rfl, rfl, rfl, rfl, rfl⟩ rfl rfl rfl rfl rfl (by kernel_rfl) Tryz.func4 (by kernel_rfl)
    (of_decide_eq_true (by kernel_rfl)) (by unfold Func.isWrapper; first | (rw [if_pos (by decide +kernel)]; kernel_rfl) | (rw [if_neg (by decide +kernel)]; exact ⟨rfl, rfl⟩))
    (fun os started H enc _ F => by rw [OpenClaim.pre_eq_preRow]; exact lifted os started H enc F)

/-- No parameter wants a stand-in; the program's own looks. -/
theorem plain (f : FuncId) (fn : Func) (hf : Tryz.pinned.checked.prog.funcNamed "loop.example/s0023/laws.FnExactStepState" = some f) (hfn : Tryz.pinned.checked.prog.funcs[f]? = some fn) :
    false = Tryz.pinned.checked.prog.looks [] ∧ ∀ (j : Nat) t, fn.params[j]? = some t → Tryz.pinned.checked.prog.wantsStandIn t = false := by
  obtain rfl : f = 4 := Option.some.inj ((show Tryz.prog.funcNamed "loop.example/s0023/laws.FnExactStepState" = some 4 by kernel_rfl).symm.trans hf) |>.symm
  obtain rfl : fn = Tryz.f4 := (Option.some.inj (Tryz.func4.symm.trans hfn)).symm
  refine ⟨by kernel_rfl, fun j t ht => ?_⟩
  rw [Tryz.params4] at ht
  have := Array.mem_of_getElem? ht
  simp at this
  rcases this with rfl | rfl | rfl | rfl | rfl
  · exact (show Tryz.prog.wantsStandIn 24 = false by kernel_rfl)
  · exact (show Tryz.prog.wantsStandIn 29 = false by kernel_rfl)
  · exact (show Tryz.prog.wantsStandIn 2 = false by kernel_rfl)
  · exact (show Tryz.prog.wantsStandIn 53 = false by kernel_rfl)
  · exact (show Tryz.prog.wantsStandIn 2 = false by kernel_rfl)
end Go.Proofs.YtgooegcmgejfpaaGreatDoor.fnExactStepState
namespace Go.Proofs.YtgooegcmgejfpaaGreatDoor
theorem fnExactStepState_card : Rows.FnExactStepStateCardSaid :=
  Claim7.holds_tied_plain_at .later [] _ _ _ _ fnExactStepState.said (fun _ h => by cases h) (by kernel_rfl) (fun _ h => by cases h) fnExactStepState_row_tie rfl ⟨rfl, rfl⟩ (by kernel_rfl) rfl fnExactStepState.plain (by kernel_rfl)
#print axioms fnExactStepState_card
end Go.Proofs.YtgooegcmgejfpaaGreatDoor
