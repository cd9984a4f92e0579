import Derived.Test.YtfoigigbggickaaDoorProg
import Derived.WalkKit
import Derived.WalkSpells
import Derived.WalkLawsBesides
import Derived.Handy
import Derived.Deep.QuietTactic
import Derived.BigQuiet
import Derived.Deep.RegionHeld3
import Derived.Test.YtfoigigbggickaaDoorPq01
import Derived.Lib.UnsafeStr
import Derived.OwnWalk
import Derived.Lib.Hide
import Derived.Lib.SmallJoins
import Derived.Lib.SlBytesConst
import Derived.Lib.OthersKept
import Derived.ArgAppend
import Derived.Deep.DrawnRows
import Derived.Lib.IndexLaws
import Derived.Lib.Bytealg
import Derived.Test.YtfoigigbggickaaDoorPq02
namespace Go.Proofs.YtfoigigbggickaaDoor.Parse
open Go Go.RowKit Go.Proofs.YtfoigigbggickaaDoor.Mem
set_option linter.unusedVariables false

theorem infoB : (Tryd.prog.info? 5).map (fun i => (i.zero, i.size, i.bytes)) = some (some (.int .u8 0), 1, 1) := by kernel_rfl

/-- Bytes that can be read. -/
def Rd (w : World) (a : Option Addr) (bs : List UInt8) : Prop := ∀ j (h : j < bs.length), ∃ g o, a = some ⟨g, o, none⟩ ∧ w.cell? ⟨g, o + j, none⟩ = some (.int .u8 (bs[j].toNat : Int))
theorem Rd.below {w w' : World} {a : Option Addr} {bs : List UInt8} (h : Rd w a bs) (hb : Below w.heap.size w w') : Rd w' a bs := fun j hj => by
  obtain ⟨g, o, e, hc⟩ := h j hj
  exact ⟨g, o, e, cell_keep hb hc⟩
theorem Rd.at {w : World} {g o : Nat} {bs : List UInt8} (h : Rd w (some ⟨g, o, none⟩) bs) (j : Nat) (hj : j < bs.length) : w.cell? ⟨g, o + j, none⟩ = some (.int .u8 (bs[j].toNat : Int)) := by
  obtain ⟨g', o', e, hc⟩ := h j hj
  injection e with e
  injection e with e1 e2
  subst e1 e2
  exact hc
theorem Rd.some {w : World} {a : Option Addr} {bs : List UInt8} (h : Rd w a bs) (hp : 0 < bs.length) : ∃ g o, a = some ⟨g, o, none⟩ := by
  obtain ⟨g, o, e, _⟩ := h 0 hp
  exact ⟨g, o, e⟩
theorem Rd.drop {w : World} {g o : Nat} {bs : List UInt8} (h : Rd w (Option.some ⟨g, o, none⟩) bs) (k : Nat) : Rd w (Option.some ⟨g, o + k, none⟩) (bs.drop k) := fun j hj => by
  have := h.at (k + j) (by rw [List.length_drop] at hj; omega)
  refine ⟨g, o + k, rfl, ?_⟩
  rw [List.getElem_drop, Nat.add_assoc]
  exact this
theorem Rd.take {w : World} {a : Option Addr} {bs : List UInt8} (h : Rd w a bs) (k : Nat) : Rd w a (bs.take k) := fun j hj => by
  obtain ⟨g, o, e, hc⟩ := h j (by rw [List.length_take] at hj; omega)
  exact ⟨g, o, e, by rw [List.getElem_take]; exact hc⟩

/-- Is it a numeral's sign? -/
def digit (b : UInt8) : Bool := decide (48 ≤ b.toNat) && decide (b.toNat ≤ 57)
def isDigs (d : List UInt8) : Bool := decide (1 ≤ d.length) && decide (d.length ≤ 9) && !(d.head? == some 48) && d.all digit
def isNum (f : List UInt8) : Bool := f == [48] || (if f.head? = some 45 then isDigs f.tail else isDigs f)
def dec (ds : List UInt8) : Int := ds.foldl (fun n b => 10 * n + b.toNat - 48) 0
def num (f : List UInt8) : Int := if f.head? = some 45 then - dec f.tail else dec f
theorem dec_snoc (ds : List UInt8) (b : UInt8) : dec (ds ++ [b]) = 10 * dec ds + b.toNat - 48 := by
  unfold dec; rw [List.foldl_append]; rfl
theorem snoc_ind {p : List UInt8 → Prop} (h0 : p []) (hs : ∀ l b, p l → p (l ++ [b])) (l : List UInt8) : p l := by
  have : ∀ n (l : List UInt8), l.length = n → p l := by
    intro n
    induction n with
    | zero => intro l h; rw [List.eq_nil_of_length_eq_zero h]; exact h0
    | succ m ih =>
      intro l h
      have hne : l ≠ [] := by intro e; subst e; simp at h
      rw [← List.dropLast_concat_getLast hne]
      exact hs _ _ (ih _ (by simp [h]))
  exact this _ l rfl
theorem dec_bound : ∀ (ds : List UInt8), ds.all digit = true → 0 ≤ dec ds ∧ dec ds < 10 ^ ds.length := by
  refine snoc_ind ?_ ?_
  · intro _; simp [dec]
  · intro l b ih h
    rw [List.all_append] at h
    simp only [List.all_cons, List.all_nil, Bool.and_true, Bool.and_eq_true] at h
    obtain ⟨h1, h2⟩ := h
    have ih' := ih h1
    unfold digit at h2
    simp only [Bool.and_eq_true, decide_eq_true_eq] at h2
    rw [dec_snoc, List.length_append, List.length_singleton, Int.pow_succ]
    omega
end Go.Proofs.YtfoigigbggickaaDoor.Parse
namespace Go.Proofs.YtfoigigbggickaaDoor.Parse
open Go Go.RowKit Go.Proofs.YtfoigigbggickaaDoor.Mem
set_option linter.unusedVariables false
set_option linter.unusedSimpArgs false
attribute [local go_sem ↓] Go.wp_at_zero Go.wp_at_succ

def stp (sep : UInt8) (s : List (List UInt8) × List UInt8) (b : UInt8) : List (List UInt8) × List UInt8 := if b = sep then (s.1 ++ [s.2], []) else (s.1, s.2 ++ [b])
def spl (sep : UInt8) (bs : List UInt8) : List (List UInt8) × List UInt8 := bs.foldl (stp sep) ([], [])
def split (sep : UInt8) (bs : List UInt8) : List (List UInt8) := (spl sep bs).1 ++ [(spl sep bs).2]
/-- A value that leads to bytes below block B; they lie in a block of bytes. -/
def Piece (B : Nat) (w : World) (v : Value) (bs : List UInt8) : Prop := ∃ a c, v = .slice a bs.length c ∧ bs.length ≤ c ∧ ∀ j (h : j < bs.length), ∃ g C fr, a = some ⟨g, 0, none⟩ ∧ g < B ∧ w.heap[g]? = some (.cells C 5 fr) ∧ C[j]? = some (.int .u8 (bs[j].toNat : Int))
theorem Piece.keep {B B' : Nat} {w w' : World} {v : Value} {bs : List UInt8} (h : Piece B w v bs) (hB : B ≤ B') (hk : ∀ g C fr, g < B → w.heap[g]? = some (.cells C 5 fr) → w'.heap[g]? = some (.cells C 5 fr)) : Piece B' w' v bs := by
  obtain ⟨a, c, e, hc, h⟩ := h
  refine ⟨a, c, e, hc, fun j hj => ?_⟩
  obtain ⟨g, C, fr, e1, h1, h2, h3⟩ := h j hj
  exact ⟨g, C, fr, e1, by omega, hk g C fr h1 h2, h3⟩
theorem Piece.rd {B : Nat} {w : World} {v : Value} {bs : List UInt8} (h : Piece B w v bs) : ∃ a c, v = .slice a bs.length c ∧ bs.length ≤ c ∧ Rd w a bs := by
  obtain ⟨a, c, e, hc, h⟩ := h
  refine ⟨a, c, e, hc, fun j hj => ?_⟩
  obtain ⟨g, C, fr, e1, h1, h2, h3⟩ := h j hj
  exact ⟨g, 0, e1, by rw [Nat.zero_add, blk_cell h2 j]; exact h3⟩
def Pieces (B : Nat) (w : World) : List Value → List (List UInt8) → Prop
  | [], [] => True
  | v :: vs, b :: bs => Piece B w v b ∧ Pieces B w vs bs
  | _, _ => False
theorem Pieces.keep {B B' : Nat} {w w' : World} (hB : B ≤ B') (hk : ∀ g C fr, g < B → w.heap[g]? = some (.cells C 5 fr) → w'.heap[g]? = some (.cells C 5 fr)) : ∀ {vs : List Value} {L : List (List UInt8)}, Pieces B w vs L → Pieces B' w' vs L
  | [], [], _ => trivial
  | _ :: _, _ :: _, h => ⟨h.1.keep hB hk, Pieces.keep hB hk h.2⟩
theorem Pieces.snoc {B : Nat} {w : World} {v : Value} {b : List UInt8} (hv : Piece B w v b) : ∀ {vs : List Value} {L : List (List UInt8)}, Pieces B w vs L → Pieces B w (vs ++ [v]) (L ++ [b])
  | [], [], _ => ⟨hv, trivial⟩
  | _ :: _, _ :: _, h => ⟨h.1, Pieces.snoc hv h.2⟩
theorem Pieces.len {B : Nat} {w : World} : ∀ {vs : List Value} {L : List (List UInt8)}, Pieces B w vs L → vs.length = L.length
  | [], [], _ => rfl
  | _ :: _, _ :: _, h => by simp [Pieces.len h.2]
theorem Pieces.get {B : Nat} {w : World} : ∀ {vs : List Value} {L : List (List UInt8)}, Pieces B w vs L → ∀ (k : Nat) (hk : k < L.length), ∃ v, vs[k]? = some v ∧ Piece B w v L[k]
  | [], [], _, k, hk => by simp at hk
  | _ :: _, _ :: _, h, 0, _ => ⟨_, rfl, h.1⟩
  | _ :: _, _ :: _, h, k + 1, hk => by
    obtain ⟨v, h1, h2⟩ := Pieces.get h.2 k (by simpa using hk)
    exact ⟨v, by simpa using h1, by simpa using h2⟩
/-- The fields of a line, or the lines of a text: a row of rows of bytes. -/
def Flds (w : World) (a : Option Addr) (L : List (List UInt8)) : Prop := ∀ k (h : k < L.length), ∃ g p c, a = some ⟨g, 0, none⟩ ∧ w.cell? ⟨g, k, none⟩ = some (.slice p L[k].length c) ∧ L[k].length ≤ c ∧ Rd w p L[k]
theorem Flds.below {w w' : World} {a : Option Addr} {L : List (List UInt8)} (h : Flds w a L) (hb : Below w.heap.size w w') : Flds w' a L := fun k hk => by
  obtain ⟨g, p, c, e, h1, h2, h3⟩ := h k hk
  exact ⟨g, p, c, e, cell_keep hb h1, h2, h3.below hb⟩
theorem row_kind {B n : Nat} {w : World} {v : Value} {e : TypeId} {s : Nat} {xs : List Value} (h : w.ownsRow B e s v n xs) : ∀ g, v.ownBlock = some g → ∃ c fz, w.heap[g]? = some (.cells c e fz) := by
  intro g hg
  rcases h.2 with ⟨rfl, _⟩ | ⟨g', cap, cur, rfl, _, hgg, _⟩
  · simp [Value.ownBlock] at hg
  · simp [Value.ownBlock] at hg
    subst hg
    exact ⟨cur, _, hgg⟩
theorem row_shape {B n : Nat} {w : World} {v : Value} {e : TypeId} {s : Nat} {xs : List Value} (h : w.ownsRow B e s v n xs) : ∃ a c, v = .slice a n c ∧ n ≤ c := by
  rcases h.2 with ⟨rfl, h0⟩ | ⟨g, cap, cur, rfl, _, _, hc, _⟩
  · exact ⟨none, 0, by rw [h0], by omega⟩
  · exact ⟨_, _, rfl, hc⟩
theorem row_below {w w' : World} {B n s : Nat} {v : Value} {t : TypeId} {xs : List Value} (h : w.ownsRow B t s v n xs) (hb : Below w.heap.size w w') : w'.ownsRow B t s v n xs := by
  refine ⟨h.1, ?_⟩
  rcases h.2 with h0 | ⟨g, cap, cur, h1, h2, h3, h4⟩
  · exact Or.inl h0
  · exact Or.inr ⟨g, cap, cur, h1, h2, blk_below h3 hb, h4⟩
end Go.Proofs.YtfoigigbggickaaDoor.Parse
namespace Go.Proofs.YtfoigigbggickaaDoor.Parse
open Go Go.RowKit Go.Proofs.YtfoigigbggickaaDoor.Mem
set_option linter.unusedVariables false
set_option linter.unusedSimpArgs false

/-- Digits without a sign, in the program's words. -/
def plain (d : List UInt8) : Bool := decide (1 ≤ d.length) && decide (d.length ≤ 9) && !(decide (1 < d.length) && (d.head? == some 48)) && d.all digit
theorem dec_ge : ∀ (r : List UInt8), r.all digit = true → ∀ (b : UInt8), 49 ≤ b.toNat → 1 ≤ dec (b :: r) := by
  refine snoc_ind ?_ ?_
  · intro _ b hb
    simp [dec]; omega
  · intro l x ih h b hb
    rw [List.all_append] at h
    simp only [List.all_cons, List.all_nil, Bool.and_true, Bool.and_eq_true] at h
    have := ih h.1 b hb
    have h2 := h.2
    unfold digit at h2
    simp only [Bool.and_eq_true, decide_eq_true_eq] at h2
    rw [← List.cons_append, dec_snoc]
    omega
theorem plain_one {d : List UInt8} (h : plain d = true) : d = [48] ∨ (isDigs d = true ∧ 1 ≤ dec d) := by
  match d, h with
  | [], h => simp [plain] at h
  | [x], h =>
    by_cases e : x = 48
    · exact Or.inl (by rw [e])
    · refine Or.inr ⟨by simpa [plain, isDigs, e] using h, ?_⟩
      have hx : digit x = true := by simpa [plain] using h
      unfold digit at hx
      simp only [Bool.and_eq_true, decide_eq_true_eq] at hx
      have : x.toNat ≠ 48 := fun e' => e (UInt8.toNat_inj.1 e')
      simp [dec]; omega
  | x :: y :: r, h =>
    simp only [plain, Bool.and_eq_true] at h
    obtain ⟨⟨⟨h1, h2⟩, h3⟩, h4⟩ := h
    have e : x ≠ 48 := by intro e; subst e; simp at h3
    refine Or.inr ⟨by simp only [isDigs, Bool.and_eq_true]; exact ⟨⟨⟨h1, h2⟩, by simpa using e⟩, h4⟩, ?_⟩
    rw [List.all_cons, Bool.and_eq_true] at h4
    have hx := h4.1
    unfold digit at hx
    simp only [Bool.and_eq_true, decide_eq_true_eq] at hx
    have : x.toNat ≠ 48 := fun e' => e (UInt8.toNat_inj.1 e')
    exact dec_ge _ h4.2 x (by omega)
theorem digs_plain {d : List UInt8} (h : isDigs d = true) : plain d = true := by
  simp only [isDigs, Bool.and_eq_true] at h
  obtain ⟨⟨⟨h1, h2⟩, h3⟩, h4⟩ := h
  simp only [plain, Bool.and_eq_true]
  refine ⟨⟨⟨h1, h2⟩, ?_⟩, h4⟩
  have e : (d.head? == some 48) = false := by simpa using h3
  simp [e]
theorem isNum_pos {f : List UInt8} (h : f.head? ≠ some 45) : isNum f = plain f ∧ num f = dec f := by
  refine ⟨?_, by simp [num, h]⟩
  unfold isNum
  rw [if_neg h]
  cases hp : plain f with
  | true =>
    rcases plain_one hp with rfl | ⟨h1, -⟩
    · rfl
    · rw [h1]; simp
  | false =>
    have h1 : isDigs f = false := by
      cases hd : isDigs f with
      | false => rfl
      | true => rw [digs_plain hd] at hp; cases hp
    rw [h1]
    have : f ≠ [48] := by intro e; rw [e] at hp; revert hp; decide
    simpa using this
end Go.Proofs.YtfoigigbggickaaDoor.Parse
namespace Go.Proofs.YtfoigigbggickaaDoor.Par
open Go Go.Proofs.YtfoigigbggickaaDoor.Syn Go.Proofs.YtfoigigbggickaaDoor.Parse
set_option linter.unusedVariables false

/-- Blanks and remarks ahead of a token (true: within a remark): how many bytes. -/
def skL : Bool → List UInt8 → Nat
  | _, [] => 0
  | true, c :: r => if c.toNat = 10 then skL false r + 1 else skL true r + 1
  | false, c :: r => if c.toNat = 32 ∨ c.toNat = 10 then skL false r + 1 else if c.toNat = 35 then skL true r + 1 else 0
def run (l : List UInt8) : List UInt8 := l.takeWhile wB
/-- The symbol that a text opens with: its kind, or 0. -/
def symL : List UInt8 → Nat
  | [] => 0
  | c :: r =>
    if c.toNat = 59 then 3 else if c.toNat = 44 then 4 else if c.toNat = 40 then 5 else if c.toNat = 41 then 6
    else if c.toNat = 46 then (if r.head? = some 46 then 7 else 0)
    else if c.toNat = 42 then 8 else if c.toNat = 43 then 9 else if c.toNat = 45 then 10
    else if c.toNat = 60 then (if r.head? = some 61 then 12 else 11) else if c.toNat = 61 then 13 else 0
/-- The token at offset j, and the offset behind it. -/
def lexAt (t : List UInt8) (j : Nat) : Tk × Nat :=
  match t.drop j with
  | [] => (⟨0, j, [], 0⟩, j)
  | c :: r =>
    if letB c = true then (if (run (c :: r)).length ≤ 16 then (⟨wk (run (c :: r)), j, run (c :: r), 0⟩, j + (run (c :: r)).length) else (⟨51, j, [], 0⟩, j))
    else if digB c = true then (if plain (run (c :: r)) = true then (⟨1, j, [], dec (run (c :: r))⟩, j + (run (c :: r)).length) else (⟨51, j, [], 0⟩, j))
    else if symL (c :: r) = 0 then (⟨50, j, [], 0⟩, j) else (⟨symL (c :: r), j, [], 0⟩, j + (twAt (symL (c :: r))).length)
def lx (t : List UInt8) (i : Nat) : Tk × Nat := lexAt t (i + skL false (t.drop i))
/-- Where token k is looked for; token k. -/
def offT (t : List UInt8) : Nat → Nat
  | 0 => 0
  | k + 1 => (lx t (offT t k)).2
def tkT (t : List UInt8) (k : Nat) : Tk := (lx t (offT t k)).1

theorem skL_le : ∀ (b : Bool) (l : List UInt8), skL b l ≤ l.length
  | _, [] => by simp [skL]
  | true, c :: r => by
    rw [skL]; have := skL_le false r; have := skL_le true r; simp only [List.length_cons]; split <;> omega
  | false, c :: r => by
    rw [skL]; have := skL_le false r; have := skL_le true r; simp only [List.length_cons]; split <;> (try split) <;> omega
theorem wkF_le (n : List UInt8) : ∀ (f m : Nat), wkF n m f < m + f ∨ wkF n m f = 2
  | 0, m => Or.inr rfl
  | f + 1, m => by
    rw [wkF]
    split
    · left; omega
    · rcases wkF_le n f (m + 1) with h | h
      · left; omega
      · exact Or.inr h
theorem wkF_ge (n : List UInt8) : ∀ (f m : Nat), m ≤ wkF n m f ∨ wkF n m f = 2
  | 0, m => Or.inr rfl
  | f + 1, m => by
    rw [wkF]
    split
    · exact Or.inl (Nat.le_refl _)
    · rcases wkF_ge n f (m + 1) with h | h
      · left; omega
      · exact Or.inr h
theorem wk_le (n : List UInt8) : wk n < 50 := by rcases wkF_le n 36 14 with h | h <;> unfold wk <;> omega
theorem wk_ge (n : List UInt8) : wk n = 2 ∨ 14 ≤ wk n := by rcases wkF_ge n 36 14 with h | h <;> unfold wk <;> omega
theorem symL_le (l : List UInt8) : symL l < 14 := by
  cases l with
  | nil => simp [symL]
  | cons c r => rw [symL]; repeat' split
                all_goals omega
theorem symL_ge (l : List UInt8) : symL l = 0 ∨ 3 ≤ symL l := by
  cases l with
  | nil => simp [symL]
  | cons c r => rw [symL]; repeat' split
                all_goals omega
theorem run_pos {c : UInt8} {r : List UInt8} (h : wB c = true) : 1 ≤ (run (c :: r)).length := by unfold run; rw [List.takeWhile_cons, if_pos h]; simp
theorem run_le (l : List UInt8) : (run l).length ≤ l.length := by
  unfold run
  induction l with
  | nil => simp
  | cons c r ih => rw [List.takeWhile_cons]; split <;> simp_all
theorem wB_let {c : UInt8} (h : letB c = true) : wB c = true := by unfold wB; rw [h]; rfl
theorem wB_dig {c : UInt8} (h : digB c = true) : wB c = true := by unfold wB; rw [h]; simp
theorem tw_pos {k : Nat} (h : 3 ≤ k) (h' : k < 14) : 1 ≤ (twAt k).length := by
  have : ∀ m : Fin 14, 3 ≤ m.val → 1 ≤ (twAt m.val).length := by decide
  exact this ⟨k, h'⟩ h
/-- What a token can be. -/
structure TkOk (x : Tk × Nat) (j n : Nat) : Prop where
  at' : x.1.at' = j
  le : x.1.k ≤ 51
  go : x.1.k ≠ 0 → x.1.k < 50 → j < x.2
  nx : x.2 ≤ n
  ge : j ≤ x.2
  st : x.1.k = 0 ∨ 50 ≤ x.1.k → x.2 = j
  nm : x.1.n ≠ [] → x.1.k = wk x.1.n ∧ x.1.n.length ≤ 16 ∧ letB (x.1.n.getD 0 0) = true
  vl : 0 ≤ x.1.v ∧ x.1.v ≤ 1000000000
theorem sym_two {c : UInt8} {r : List UInt8} (h : symL (c :: r) ≠ 0) : (twAt (symL (c :: r))).length ≤ (c :: r).length := by
  have h1 : ∀ m : Fin 14, (twAt m.val).length ≤ 1 ∨ m.val = 7 ∨ m.val = 12 := by decide
  have h2 : (twAt 7).length = 2 ∧ (twAt 12).length = 2 := by decide
  rcases h1 ⟨symL (c :: r), symL_le _⟩ with h | h | h
  · simp only at h; simp only [List.length_cons]; omega
  all_goals
    simp only at h
    rw [h]
    cases r with
    | nil => rw [symL] at h; exfalso; revert h; simp; repeat' split
             all_goals omega
    | cons d r => simp only [List.length_cons]; omega
theorem plain_dec {d : List UInt8} (h : plain d = true) : 0 ≤ dec d ∧ dec d ≤ 1000000000 := by
  simp only [plain, Bool.and_eq_true, decide_eq_true_eq] at h
  have h1 := dec_bound d h.2
  have h2 : (10 : Int) ^ d.length ≤ 10 ^ 9 := by
    have : (10 : Nat) ^ d.length ≤ 10 ^ 9 := Nat.pow_le_pow_right (by omega) h.1.1.2
    exact_mod_cast this
  exact ⟨h1.1, by have : (10 : Int) ^ 9 = 1000000000 := by decide
                  omega⟩
theorem lexAt_ok (t : List UInt8) (j : Nat) (hj : j ≤ t.length) : TkOk (lexAt t j) j t.length := by
  unfold lexAt
  cases hd : t.drop j with
  | nil => exact ⟨rfl, by simp, fun h => absurd rfl h, hj, Nat.le_refl _, fun _ => rfl, fun h => absurd rfl h, by simp⟩
  | cons c r =>
    have hlen : (c :: r).length = t.length - j := by rw [← hd, List.length_drop]
    have hrun := run_le (c :: r)
    dsimp only
    split
    · rename_i hl
      have hp := run_pos (r := r) (wB_let hl)
      split
      · rename_i h16
        have h0 : (run (c :: r)).getD 0 0 = c := by unfold run; rw [List.takeWhile_cons, if_pos (wB_let hl)]; rfl
        exact ⟨rfl, by have := wk_le (run (c :: r)); show wk _ ≤ 51; omega, fun _ _ => by show j < j + _; omega, by show j + _ ≤ _; omega, by show j ≤ j + _; omega, fun h => by
          have h1 := wk_le (run (c :: r)); have h2 := wk_ge (run (c :: r))
          dsimp only at h
          omega, fun _ => ⟨rfl, h16, by rw [h0]; exact hl⟩, by simp⟩
      · exact ⟨rfl, by simp, fun _ h => by simp at h, hj, Nat.le_refl _, fun _ => rfl, fun h => absurd rfl h, by simp⟩
    · split
      · rename_i hl
        have hp := run_pos (r := r) (wB_dig hl)
        split
        · rename_i hpl
          exact ⟨rfl, by simp, fun _ _ => by show j < j + _; omega, by show j + _ ≤ _; omega, by show j ≤ j + _; omega, fun h => by simp at h, fun h => absurd rfl h, plain_dec hpl⟩
        · exact ⟨rfl, by simp, fun _ h => by simp at h, hj, Nat.le_refl _, fun _ => rfl, fun h => absurd rfl h, by simp⟩
      · split
        · exact ⟨rfl, by simp, fun _ h => by simp at h, hj, Nat.le_refl _, fun _ => rfl, fun h => absurd rfl h, by simp⟩
        · rename_i hs
          have h1 := symL_le (c :: r)
          have h3 : 3 ≤ symL (c :: r) := by rcases symL_ge (c :: r) with h | h <;> omega
          have h2 := tw_pos h3 h1
          have h4 := sym_two hs
          exact ⟨rfl, by dsimp only; omega, fun _ _ => by show j < j + _; omega, by show j + _ ≤ _; omega, by show j ≤ j + _; omega, fun h => by dsimp only at h; omega, fun h => absurd rfl h, by simp⟩
theorem lx_ok (t : List UInt8) (i : Nat) (hi : i ≤ t.length) : TkOk (lx t i) (i + skL false (t.drop i)) t.length := by
  refine lexAt_ok t _ ?_
  have := skL_le false (t.drop i)
  rw [List.length_drop] at this
  omega
theorem off_le (t : List UInt8) : ∀ k, offT t k ≤ t.length
  | 0 => Nat.zero_le _
  | k + 1 => (lx_ok t _ (off_le t k)).nx
theorem tk_ok (t : List UInt8) (k : Nat) : TkOk (lx t (offT t k)) (offT t k + skL false (t.drop (offT t k))) t.length := lx_ok t _ (off_le t k)
theorem tk_le (t : List UInt8) (k : Nat) : (tkT t k).k ≤ 51 := (tk_ok t k).le
theorem tk_tag (t : List UInt8) (k : Nat) (h : tagT (tkT t k) = true) : (tkT t k).k < 50 := by
  unfold tagT at h
  simp at h
  have hn : (tkT t k).n ≠ [] := fun e => by rw [e] at h; simp at h
  have := (tk_ok t k).nm hn
  have h2 := wk_le (tkT t k).n
  have h3 : (tkT t k).k = wk (tkT t k).n := this.1
  omega
theorem skL_stop {t : List UInt8} {j : Nat} (h : (lexAt t j).1.k = 0 ∨ 50 ≤ (lexAt t j).1.k) (hj : j ≤ t.length) (i : Nat) (hij : j = i + skL false (t.drop i)) : skL false (t.drop j) = 0 := by
  suffices ∀ (l : List UInt8) (b : Bool), skL false (l.drop (skL b l)) = 0 by
    rw [hij, ← List.drop_drop]; exact this _ _
  intro l
  induction l with
  | nil => intro b; cases b <;> simp [skL]
  | cons c r ih =>
    intro b
    cases b
    · rw [skL]
      split
      · rw [List.drop_succ_cons]; exact ih false
      · split
        · rw [List.drop_succ_cons]; exact ih true
        · rename_i h1 h2
          rw [List.drop_zero, skL, if_neg h1, if_neg h2]
    · rw [skL]
      split
      · rw [List.drop_succ_cons]; exact ih false
      · rw [List.drop_succ_cons]; exact ih true
theorem tk_stop (t : List UInt8) (k : Nat) (h : (tkT t k).k = 0 ∨ 50 ≤ (tkT t k).k) : tkT t (k + 1) = tkT t k := by
  have ok := tk_ok t k
  have e : offT t (k + 1) = offT t k + skL false (t.drop (offT t k)) := ok.st h
  have hle : offT t k + skL false (t.drop (offT t k)) ≤ t.length := by rw [← e]; exact off_le t (k + 1)
  unfold tkT
  unfold lx
  rw [e, skL_stop (t := t) h hle _ rfl]
  rfl
theorem tk_off (t : List UInt8) : ∀ k, ((tkT t k).k ≠ 0 ∧ (tkT t k).k < 50) → k < offT t (k + 1)
  | 0, h => by
    have := (tk_ok t 0).go h.1 h.2
    show 0 < offT t 1
    exact Nat.lt_of_le_of_lt (Nat.zero_le _) this
  | k + 1, h => by
    have ok := (tk_ok t (k + 1)).go h.1 h.2
    have hk : (tkT t k).k ≠ 0 ∧ (tkT t k).k < 50 := by
      refine Classical.byContradiction fun hh => ?_
      have := tk_stop t k (by omega)
      rw [this] at h
      exact hh h
    have := tk_off t k hk
    exact Nat.lt_of_lt_of_le (Nat.lt_of_le_of_lt (Nat.succ_le_of_lt this) (Nat.lt_of_le_of_lt (Nat.le_add_right _ _) ok)) (Nat.le_refl _)
theorem tk_end (t : List UInt8) (k : Nat) (h : t.length ≤ k) : (tkT t k).k = 0 ∨ 50 ≤ (tkT t k).k := by
  refine Classical.byContradiction fun hh => ?_
  have := tk_off t k (by omega)
  have := off_le t (k + 1)
  omega
end Go.Proofs.YtfoigigbggickaaDoor.Par
