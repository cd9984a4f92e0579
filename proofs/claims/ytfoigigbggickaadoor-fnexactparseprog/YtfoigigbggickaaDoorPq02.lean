import Derived.Test.YtfoigigbggickaaDoorPq01
namespace Go.Proofs.YtfoigigbggickaaDoor.Par
open Go Go.Proofs.YtfoigigbggickaaDoor.Syn
set_option linter.unusedVariables false

/-- A token as the parser meets it: 0 the text's end, 1 a number, 2 a name, 3 .. 49 the table's words, 50 a bad byte, 51 a bad form. -/
structure Tk where
  k : Nat
  at' : Nat
  n : List UInt8
  v : Int
/-- What a reader answers: no fuel, a fault, or something. -/
inductive Rs (α : Type) where
  | out
  | bad (c : Int) (at' : Nat)
  | ok (x : α)
def Rs.bnd {α β : Type} (r : Rs α) (f : α → Rs β) : Rs β := match r with
  | .out => .out
  | .bad c a => .bad c a
  | .ok x => f x
/-- The postfix list of a tree. -/
def _root_.Go.Proofs.YtfoigigbggickaaDoor.Syn.Tr.pf : Tr → List Po
  | .leaf o => [o]
  | .pre o a => a.pf ++ [o]
  | .bin o a b => a.pf ++ b.pf ++ [o]
  | .two o a b => a.pf ++ b.pf ++ [o]
  | .three o a b c => a.pf ++ b.pf ++ c.pf ++ [o]
section
variable (T : Nat → Tk)
/-- The next token, which may be a fault of its own. -/
def adv (i : Nat) : Rs Nat := if (T (i + 1)).k = 50 then .bad 2 (T (i + 1)).at' else if (T (i + 1)).k = 51 then .bad 3 (T (i + 1)).at' else .ok (i + 1)
def exp (k i : Nat) : Rs Nat := if (T i).k = k then adv T i else .bad 4 (T i).at'
def cnt (i o : Nat) : Rs Nat := if o = 2000 then .bad 6 (T i).at' else .ok (o + 1)
def opn' (i d : Nat) : Rs Unit := if d = 64 then .bad 5 (T i).at' else .ok ()
def tagT (t : Tk) : Bool := t.n.length == 1 && decide ((t.n.getD 0 0).toNat < 113)
def tagP (i : Nat) : Rs (Int × Nat) := if tagT (T i) = true then (adv T i).bnd fun j => .ok ((((T i).n.getD 0 0).toNat : Int) - 97, j) else .bad 4 (T i).at'
/-- The Op of a leaf that is one token. -/
def wop (t : Tk) : Option Po :=
  if t.k = 1 then some ⟨1, t.v, []⟩ else if t.k = 2 then some ⟨2, 0, t.n⟩ else if t.k = 28 ∨ t.k = 29 then some ⟨6, (t.k : Int) - 28, []⟩
  else if 30 ≤ t.k ∧ t.k ≤ 42 then some ⟨3, (t.k : Int) - 30, []⟩ else none
def isB (k : Nat) : Bool := decide (8 ≤ k) && decide (k ≤ 15)
def atB (s i : Nat) : Bool := isB (T i).k && decide (bstr ((T i).k - 8 : Int) = s)
def bo (k : Nat) : Po := ⟨9, (k : Int) - 8, []⟩
def unop (k : Nat) : Po := if k = 10 then ⟨7, 0, []⟩ else ⟨8, 0, []⟩
def callT (v : Nat) : List Tr → Tr
  | [a, b] => .two ⟨10, v, []⟩ a b
  | [a, b, c] => .three ⟨10, v, []⟩ a b c
  | _ => .leaf ⟨10, v, []⟩
mutual
/-- An expression whose bare operators are at least as strong as s. -/
def ex : Nat → Nat → Nat → Nat → Nat → Rs (Tr × Nat × Nat)
  | 0, _, _, _, _ => .out
  | f + 1, s, i, o, d => if s = 6 then un f i o d else (ex f (s + 1) i o d).bnd fun x => lp f s x.1 x.2.1 x.2.2 d
/-- Its further operands. -/
def lp : Nat → Nat → Tr → Nat → Nat → Nat → Rs (Tr × Nat × Nat)
  | 0, _, _, _, _, _ => .out
  | f + 1, s, l, i, o, d =>
    if atB T s i = true then (cnt T i o).bnd fun o1 => (adv T i).bnd fun j => (ex f (s + 1) j o1 d).bnd fun x =>
      if s = 3 then .ok (.bin (bo (T i).k) l x.1, x.2.1, x.2.2) else lp f s (.bin (bo (T i).k) l x.1) x.2.1 x.2.2 d
    else .ok (l, i, o)
def un : Nat → Nat → Nat → Nat → Rs (Tr × Nat × Nat)
  | 0, _, _, _ => .out
  | f + 1, i, o, d =>
    if (T i).k = 10 ∨ (T i).k = 47 then (cnt T i o).bnd fun o1 => (opn' T i d).bnd fun _ => (adv T i).bnd fun j => (un f j o1 (d + 1)).bnd fun x => .ok (.pre (unop (T i).k) x.1, x.2.1, x.2.2)
    else pr f i o d
def pr : Nat → Nat → Nat → Nat → Rs (Tr × Nat × Nat)
  | 0, _, _, _ => .out
  | f + 1, i, o, d =>
    if (T i).k = 5 then (og f 1 i o d).bnd fun x => .ok (x.1.headD (.leaf ⟨0, 0, []⟩), x.2.1, x.2.2)
    else if 25 ≤ (T i).k ∧ (T i).k ≤ 27 then (cnt T i o).bnd fun o1 => (adv T i).bnd fun j => (og f (if (T i).k = 27 then 3 else 2) j o1 d).bnd fun x => .ok (callT ((T i).k - 25) x.1, x.2.1, x.2.2)
    else if (T i).k = 48 ∨ (T i).k = 49 then (cnt T i o).bnd fun o1 => (adv T i).bnd fun j => (tagP T j).bnd fun x => .ok (.leaf ⟨((T i).k : Int) - 44, x.1, []⟩, x.2, o1)
    else match wop (T i) with
      | none => .bad 4 (T i).at'
      | some p => (cnt T i o).bnd fun o1 => (adv T i).bnd fun j => .ok (.leaf p, j, o1)
/-- Operands in their parentheses. -/
def og : Nat → Nat → Nat → Nat → Nat → Rs (List Tr × Nat × Nat)
  | 0, _, _, _, _ => .out
  | f + 1, m, i, o, d =>
    if (T i).k = 5 then (opn' T i d).bnd fun _ => (adv T i).bnd fun j => (ex f 1 j o (d + 1)).bnd fun x => (ol f (m - 1) [x.1] x.2.1 x.2.2 (d + 1)).bnd fun y => (exp T 6 y.2.1).bnd fun j' => .ok (y.1, j', y.2.2)
    else .bad 4 (T i).at'
def ol : Nat → Nat → List Tr → Nat → Nat → Nat → Rs (List Tr × Nat × Nat)
  | 0, _, _, _, _, _ => .out
  | f + 1, 0, L, i, o, d => .ok (L, i, o)
  | f + 1, m + 1, L, i, o, d => (exp T 4 i).bnd fun j => (ex f 1 j o d).bnd fun x => ol f m (L ++ [x.1]) x.2.1 x.2.2 d
end
end
theorem bnd_ok {α β : Type} (x : α) (f : α → Rs β) : (Rs.ok x).bnd f = f x := rfl
theorem bnd_bad {α β : Type} (c : Int) (a : Nat) (f : α → Rs β) : (Rs.bad c a : Rs α).bnd f = .bad c a := rfl
/-- What is open or waits in an expression: 1 neg, 2 not, 3 binary, 4 group, 5 call. -/
structure Ent where
  k : Nat
  v : Int
  l : Nat
def eop (e : Ent) : Po := if e.k = 1 then ⟨7, 0, []⟩ else if e.k = 2 then ⟨8, 0, []⟩ else if e.k = 3 then ⟨9, e.v, []⟩ else ⟨10, e.v, []⟩
def pops (s : Nat) (e : Ent) : Bool := if s = 6 then (e.k == 1 || e.k == 2) else (e.k == 3 && decide ((s : Int) ≤ bstr e.v))
/-- The waiting entries (the top first) that are written out. -/
def dr (s : Nat) : List Ent → List Po → List Ent × List Po
  | [], out => ([], out)
  | e :: r, out => if pops s e = true then dr s r (out ++ [eop e]) else (e :: r, out)
def opens : List Ent → Nat
  | [] => 0
  | e :: r => if e.k = 3 then opens r else opens r + 1
def inn : List Ent → Option Ent
  | [] => none
  | e :: r => if 4 ≤ e.k then some e else inn r
structure MS where
  i : Nat
  o : Nat
  st : List Ent
  out : List Po
  want : Bool
def cmpTop : List Ent → Bool
  | [] => false
  | e :: _ => e.k == 3 && decide (bstr e.v = 3)
def decL : List Ent → List Ent
  | [] => []
  | e :: r => ⟨e.k, e.v, e.l - 1⟩ :: r
def fin (e : Ent) : List Po := if e.k = 5 then [eop e] else []
section
variable (T : Nat → Tk)
def flt (c : Int) (i : Nat) : Rs (List Po × Nat × Nat) := if (T i).k = 50 then .bad 2 (T i).at' else if (T i).k = 51 then .bad 3 (T i).at' else .bad c (T i).at'
/-- The specification's loop over an expression: a step. -/
def stp (S : MS) : MS ⊕ Rs (List Po × Nat × Nat) :=
  if 50 ≤ (T S.i).k then .inr (flt T 4 S.i)
  else if S.want = true then
    if (T S.i).k = 48 ∨ (T S.i).k = 49 then
      if S.o = 2000 then .inr (.bad 6 (T S.i).at')
      else if tagT (T (S.i + 1)) = true then .inl ⟨S.i + 2, S.o + 1, (dr 6 S.st (S.out ++ [⟨((T S.i).k : Int) - 44, (((T (S.i + 1)).n.getD 0 0).toNat : Int) - 97, []⟩])).1, (dr 6 S.st (S.out ++ [⟨((T S.i).k : Int) - 44, (((T (S.i + 1)).n.getD 0 0).toNat : Int) - 97, []⟩])).2, false⟩
      else .inr (flt T 4 (S.i + 1))
    else match wop (T S.i) with
      | some p => if S.o = 2000 then .inr (.bad 6 (T S.i).at') else .inl ⟨S.i + 1, S.o + 1, (dr 6 S.st (S.out ++ [p])).1, (dr 6 S.st (S.out ++ [p])).2, false⟩
      | none =>
        if (T S.i).k = 10 ∨ (T S.i).k = 47 then
          if S.o = 2000 then .inr (.bad 6 (T S.i).at')
          else if opens S.st = 64 then .inr (.bad 5 (T S.i).at')
          else .inl ⟨S.i + 1, S.o + 1, ⟨if (T S.i).k = 10 then 1 else 2, 0, 0⟩ :: S.st, S.out, true⟩
        else if (T S.i).k = 5 then
          if opens S.st = 64 then .inr (.bad 5 (T S.i).at') else .inl ⟨S.i + 1, S.o, ⟨4, 0, 0⟩ :: S.st, S.out, true⟩
        else if 25 ≤ (T S.i).k ∧ (T S.i).k ≤ 27 then
          if S.o = 2000 then .inr (.bad 6 (T S.i).at')
          else if (T (S.i + 1)).k = 5 then
            if opens S.st = 64 then .inr (.bad 5 (T (S.i + 1)).at') else .inl ⟨S.i + 2, S.o + 1, ⟨5, (((T S.i).k - 25 : Nat) : Int), if (T S.i).k = 27 then 2 else 1⟩ :: S.st, S.out, true⟩
          else .inr (flt T 4 (S.i + 1))
        else .inr (.bad 4 (T S.i).at')
  else if isB (T S.i).k = true then
    if bstr ((T S.i).k - 8 : Int) = 3 ∧ cmpTop (dr 4 S.st S.out).1 = true then .inr (.bad 4 (T S.i).at')
    else if S.o = 2000 then .inr (.bad 6 (T S.i).at')
    else .inl ⟨S.i + 1, S.o + 1, ⟨3, ((T S.i).k : Int) - 8, 0⟩ :: (dr (bstr ((T S.i).k - 8 : Int)).toNat S.st S.out).1, (dr (bstr ((T S.i).k - 8 : Int)).toNat S.st S.out).2, true⟩
  else match inn S.st with
    | none => .inr (.ok ((dr 1 S.st S.out).2, S.i, S.o))
    | some e =>
      if (T S.i).k = 4 ∧ 0 < e.l then .inl ⟨S.i + 1, S.o, decL (dr 1 S.st S.out).1, (dr 1 S.st S.out).2, true⟩
      else if (T S.i).k = 6 ∧ e.l = 0 then .inl ⟨S.i + 1, S.o, (dr 6 (dr 1 S.st S.out).1.tail ((dr 1 S.st S.out).2 ++ fin e)).1, (dr 6 (dr 1 S.st S.out).1.tail ((dr 1 S.st S.out).2 ++ fin e)).2, false⟩
      else .inr (.bad 4 (T S.i).at')
inductive Ends : MS → Rs (List Po × Nat × Nat) → Prop
  | stop (S : MS) (R : Rs (List Po × Nat × Nat)) (h : stp T S = .inr R) : Ends S R
  | go (S S' : MS) (R : Rs (List Po × Nat × Nat)) (h : stp T S = .inl S') (h' : Ends S' R) : Ends S R
def Leads (S S' : MS) : Prop := ∀ R, Ends T S' R → Ends T S R
end
end Go.Proofs.YtfoigigbggickaaDoor.Par
namespace Go.Proofs.YtfoigigbggickaaDoor.Par
open Go Go.Proofs.YtfoigigbggickaaDoor.Syn
set_option linter.unusedVariables false

variable {T : Nat → Tk}
/-- Fuel enough: the model answers, and it goes on by a token at least. -/
def Ans {α : Type} (r : Rs (α × Nat × Nat)) (i : Nat) : Prop := match r with
  | .out => False
  | .bad _ _ => True
  | .ok x => i < x.2.1
def AnsL {α : Type} (r : Rs (α × Nat × Nat)) (i : Nat) : Prop := match r with
  | .out => False
  | .bad _ _ => True
  | .ok x => i ≤ x.2.1
theorem adv_ans (T : Nat → Tk) (i : Nat) : adv T i = .ok (i + 1) ∨ ∃ c a, adv T i = .bad c a := by
  unfold adv; split
  · exact .inr ⟨_, _, rfl⟩
  · split
    · exact .inr ⟨_, _, rfl⟩
    · exact .inl rfl
theorem cnt_ans (T : Nat → Tk) (i o : Nat) : cnt T i o = .ok (o + 1) ∨ ∃ c a, cnt T i o = .bad c a := by
  unfold cnt; split
  · exact .inr ⟨_, _, rfl⟩
  · exact .inl rfl
theorem opn_ans (T : Nat → Tk) (i d : Nat) : opn' T i d = .ok () ∨ ∃ c a, opn' T i d = .bad c a := by
  unfold opn'; split
  · exact .inr ⟨_, _, rfl⟩
  · exact .inl rfl
theorem exp_ans (T : Nat → Tk) (k i : Nat) : (exp T k i = .ok (i + 1) ∧ (T i).k = k) ∨ ∃ c a, exp T k i = .bad c a := by
  unfold exp; split
  · rename_i h
    rcases adv_ans T i with h' | ⟨c, a, h'⟩
    · exact .inl ⟨h', h⟩
    · exact .inr ⟨c, a, h'⟩
  · exact .inr ⟨_, _, rfl⟩
theorem ans_all {N : Nat} (hN : ∀ i, N ≤ i → (T i).k = 0 ∨ 50 ≤ (T i).k) : ∀ f,
    (∀ s i o d, 1 ≤ s → s ≤ 6 → 12 * (N - i) + 12 - s ≤ f → Ans (ex T f s i o d) i) ∧
    (∀ s l i o d, 1 ≤ s → s ≤ 5 → 12 * (N - i) + 1 ≤ f → AnsL (lp T f s l i o d) i) ∧
    (∀ i o d, 12 * (N - i) + 5 ≤ f → Ans (un T f i o d) i) ∧
    (∀ i o d, 12 * (N - i) + 4 ≤ f → Ans (pr T f i o d) i) ∧
    (∀ m i o d, 12 * (N - i) + 3 ≤ f → Ans (og T f m i o d) i) ∧
    (∀ m L i o d, 12 * (N - i) + 1 ≤ f → AnsL (ol T f m L i o d) i)
  | 0 => by
    refine ⟨fun s i o d h h' h'' => by omega, fun s l i o d h h' h'' => by omega, fun i o d h => by omega, fun i o d h => by omega, fun m i o d h => by omega, fun m L i o d h => by omega⟩
  | f + 1 => by
    obtain ⟨hE, hL, hU, hP, hG, hO⟩ := ans_all hN f
    have lt : ∀ i, (T i).k ≠ 0 → (T i).k < 50 → i < N := fun i h h' => Nat.lt_of_not_le fun hh => by rcases hN i hh with g | g <;> omega
    refine ⟨?_, ?_, ?_, ?_, ?_, ?_⟩
    · intro s i o d h1 h6 hf
      rw [ex]
      split
      · exact hU i o d (by omega)
      · have := hE (s + 1) i o d (by omega) (by omega) (by omega)
        cases hx : ex T f (s + 1) i o d with
        | out => rw [hx] at this; exact this.elim
        | bad c a => trivial
        | ok x =>
          rw [hx] at this
          rw [bnd_ok]
          have hlt : i < x.2.1 := this
          have := hL s x.1 x.2.1 x.2.2 d h1 (by omega) (by omega)
          cases hy : lp T f s x.1 x.2.1 x.2.2 d with
          | out => rw [hy] at this; exact this.elim
          | bad c a => trivial
          | ok y => rw [hy] at this; exact Nat.lt_of_lt_of_le hlt this
    · intro s l i o d h1 h5 hf
      rw [lp]
      split
      · rename_i hb
        have hi : i < N := by
          unfold atB isB at hb
          simp at hb
          exact lt i (by omega) (by omega)
        rcases cnt_ans T i o with h | ⟨c, a, h⟩
        · rw [h, bnd_ok]
          rcases adv_ans T i with h | ⟨c, a, h⟩
          · rw [h, bnd_ok]
            have := hE (s + 1) (i + 1) (o + 1) d (by omega) (by omega) (by omega)
            cases hx : ex T f (s + 1) (i + 1) (o + 1) d with
            | out => rw [hx] at this; exact this.elim
            | bad c a => trivial
            | ok x =>
              rw [hx] at this
              have hlt : i + 1 < x.2.1 := this
              rw [bnd_ok]
              split
              · exact Nat.le_of_lt (Nat.lt_of_succ_lt hlt)
              · have := hL s (.bin (bo (T i).k) l x.1) x.2.1 x.2.2 d h1 h5 (by omega)
                cases hy : lp T f s (.bin (bo (T i).k) l x.1) x.2.1 x.2.2 d with
                | out => rw [hy] at this; exact this.elim
                | bad c a => trivial
                | ok y => rw [hy] at this; exact Nat.le_trans (Nat.le_of_lt (Nat.lt_of_succ_lt hlt)) this
          · rw [h, bnd_bad]; trivial
        · rw [h, bnd_bad]; trivial
      · exact Nat.le_refl _
    · intro i o d hf
      rw [un]
      split
      · rename_i hk
        have hi : i < N := lt i (by omega) (by omega)
        rcases cnt_ans T i o with h | ⟨c, a, h⟩
        · rw [h, bnd_ok]
          rcases opn_ans T i d with h | ⟨c, a, h⟩
          · rw [h, bnd_ok]
            rcases adv_ans T i with h | ⟨c, a, h⟩
            · rw [h, bnd_ok]
              have := hU (i + 1) (o + 1) (d + 1) (by omega)
              cases hx : un T f (i + 1) (o + 1) (d + 1) with
              | out => rw [hx] at this; exact this.elim
              | bad c a => trivial
              | ok x => rw [hx] at this; exact Nat.lt_of_succ_lt this
            · rw [h, bnd_bad]; trivial
          · rw [h, bnd_bad]; trivial
        · rw [h, bnd_bad]; trivial
      · exact hP i o d (by omega)
    · intro i o d hf
      rw [pr]
      split
      · rename_i hk
        have := hG 1 i o d (by omega)
        cases hx : og T f 1 i o d with
        | out => rw [hx] at this; exact this.elim
        | bad c a => trivial
        | ok x => rw [hx] at this; exact this
      · split
        · rename_i hk
          have hi : i < N := lt i (by omega) (by omega)
          rcases cnt_ans T i o with h | ⟨c, a, h⟩
          · rw [h, bnd_ok]
            rcases adv_ans T i with h | ⟨c, a, h⟩
            · rw [h, bnd_ok]
              have := hG (if (T i).k = 27 then 3 else 2) (i + 1) (o + 1) d (by omega)
              cases hx : og T f (if (T i).k = 27 then 3 else 2) (i + 1) (o + 1) d with
              | out => rw [hx] at this; exact this.elim
              | bad c a => trivial
              | ok x => rw [hx] at this; exact Nat.lt_of_succ_lt this
            · rw [h, bnd_bad]; trivial
          · rw [h, bnd_bad]; trivial
        · split
          · rcases cnt_ans T i o with h | ⟨c, a, h⟩
            · rw [h, bnd_ok]
              rcases adv_ans T i with h | ⟨c, a, h⟩
              · rw [h, bnd_ok]
                unfold tagP
                split
                · rcases adv_ans T (i + 1) with h | ⟨c, a, h⟩
                  · rw [h]; show i < i + 1 + 1; omega
                  · rw [h]; trivial
                · trivial
              · rw [h, bnd_bad]; trivial
            · rw [h, bnd_bad]; trivial
          · split
            · trivial
            · rcases cnt_ans T i o with h | ⟨c, a, h⟩
              · rw [h, bnd_ok]
                rcases adv_ans T i with h | ⟨c, a, h⟩
                · rw [h]; exact Nat.lt_succ_self _
                · rw [h]; trivial
              · rw [h, bnd_bad]; trivial
    · intro m i o d hf
      rw [og]
      split
      · rename_i hk
        have hi : i < N := lt i (by omega) (by omega)
        rcases opn_ans T i d with h | ⟨c, a, h⟩
        · rw [h, bnd_ok]
          rcases adv_ans T i with h | ⟨c, a, h⟩
          · rw [h, bnd_ok]
            have := hE 1 (i + 1) o (d + 1) (by omega) (by omega) (by omega)
            cases hx : ex T f 1 (i + 1) o (d + 1) with
            | out => rw [hx] at this; exact this.elim
            | bad c a => trivial
            | ok x =>
              rw [hx] at this
              have hlt : i + 1 < x.2.1 := this
              rw [bnd_ok]
              have := hO (m - 1) [x.1] x.2.1 x.2.2 (d + 1) (by omega)
              cases hy : ol T f (m - 1) [x.1] x.2.1 x.2.2 (d + 1) with
              | out => rw [hy] at this; exact this.elim
              | bad c a => trivial
              | ok y =>
                rw [hy] at this
                have hle : x.2.1 ≤ y.2.1 := this
                rw [bnd_ok]
                rcases exp_ans T 6 y.2.1 with ⟨h, _⟩ | ⟨c, a, h⟩
                · rw [h]; show i < y.2.1 + 1; omega
                · rw [h]; trivial
          · rw [h, bnd_bad]; trivial
        · rw [h, bnd_bad]; trivial
      · trivial
    · intro m L i o d hf
      cases m with
      | zero => rw [ol]; exact Nat.le_refl _
      | succ m =>
        rw [ol]
        rcases exp_ans T 4 i with ⟨h, hk⟩ | ⟨c, a, h⟩
        · rw [h, bnd_ok]
          have hi : i < N := lt i (by omega) (by omega)
          have := hE 1 (i + 1) o d (by omega) (by omega) (by omega)
          cases hx : ex T f 1 (i + 1) o d with
          | out => rw [hx] at this; exact this.elim
          | bad c a => trivial
          | ok x =>
            rw [hx] at this
            have hlt : i + 1 < x.2.1 := this
            rw [bnd_ok]
            have := hO m (L ++ [x.1]) x.2.1 x.2.2 d (by omega)
            cases hy : ol T f m (L ++ [x.1]) x.2.1 x.2.2 d with
            | out => rw [hy] at this; exact this.elim
            | bad c a => trivial
            | ok y => rw [hy] at this; exact Nat.le_trans (by omega) this
        · rw [h, bnd_bad]; trivial
end Go.Proofs.YtfoigigbggickaaDoor.Par
