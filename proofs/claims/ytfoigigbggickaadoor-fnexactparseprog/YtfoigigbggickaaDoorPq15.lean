import Derived.Test.YtfoigigbggickaaDoorPq02
namespace Go.Proofs.YtfoigigbggickaaDoor.Par
open Go Go.Proofs.YtfoigigbggickaaDoor.Syn
set_option linter.unusedVariables false

variable {T : Nat → Tk}
theorem dr_idem {s s' : Nat} (h1 : s ≤ s') (h5 : s' ≤ 5) : ∀ (st : List Ent) (out : List Po), dr s (dr s' st out).1 (dr s' st out).2 = dr s st out
  | [], out => rfl
  | e :: r, out => by
    rw [dr, dr]
    by_cases h : pops s' e = true
    · have h' : pops s e = true := by
        unfold pops at h ⊢
        rw [if_neg (by omega)] at h ⊢
        simp at h ⊢
        exact ⟨h.1, by omega⟩
      rw [if_pos h, if_pos h']
      exact dr_idem h1 h5 r _
    · rw [if_neg h]
      dsimp only
      rw [dr]
theorem dr_inn {s : Nat} (h5 : s ≤ 5) : ∀ (st : List Ent) (out : List Po), inn (dr s st out).1 = inn st
  | [], out => rfl
  | e :: r, out => by
    rw [dr]
    split
    · rename_i h
      have h' : e.k = 3 := by
        unfold pops at h
        rw [if_neg (by omega)] at h
        simp at h
        exact h.1
      rw [dr_inn h5 r, inn, if_neg (by omega)]
    · rfl
/-- On top of the stack nothing waits that an expression of this strength would write out. -/
def Nu (s : Nat) : List Ent → Prop
  | [] => True
  | e :: _ => pops s e = false ∧ pops 6 e = false
theorem Nu.dr {s : Nat} {st : List Ent} (h : Nu s st) (out : List Po) : dr s st out = (st, out) := by
  cases st with
  | nil => rfl
  | cons e r => rw [Par.dr, if_neg (by rw [h.1]; simp)]
theorem Nu.dr6 {s : Nat} {st : List Ent} (h : Nu s st) (out : List Po) : Par.dr 6 st out = (st, out) := by
  cases st with
  | nil => rfl
  | cons e r => rw [Par.dr, if_neg (by rw [h.2]; simp)]
theorem Nu.up {s s' : Nat} {st : List Ent} (h : Nu s st) (h1 : s ≤ s') (h6 : s' ≤ 6) : Nu s' st := by
  cases st with
  | nil => trivial
  | cons e r =>
    refine ⟨?_, h.2⟩
    by_cases h' : s' = 6
    · subst h'; exact h.2
    · have := h.1
      unfold pops at this ⊢
      rw [if_neg h']
      rw [if_neg (by omega)] at this
      cases hk : e.k == 3
      · rfl
      · rw [hk] at this
        simp at this ⊢
        omega
theorem bstr_in (v : Int) : 1 ≤ bstr v ∧ bstr v ≤ 5 := by unfold bstr; split <;> (try split) <;> (try split) <;> (try split) <;> omega
theorem Nu.bin {s : Nat} {v : Int} {st : List Ent} (h : bstr v = s) (h5 : s ≤ 5) : Nu (s + 1) (⟨3, v, 0⟩ :: st) := by
  refine ⟨?_, rfl⟩
  unfold pops
  split
  · rfl
  · simp; omega
theorem Nu.opn {s : Nat} {e : Ent} {st : List Ent} (h : 4 ≤ e.k) : Nu s (e :: st) := by
  unfold Nu pops
  constructor
  · split
    · simp; omega
    · simp; omega
  · simp; omega
/-- The next token stops an expression of this strength. -/
def aft (T : Nat → Tk) (s i : Nat) (st : List Ent) (out : List Po) : Prop :=
  isB (T i).k = true → bstr ((T i).k - 8 : Int) < s ∨ (s ≤ 3 ∧ bstr ((T i).k - 8 : Int) = 3 ∧ cmpTop (dr 4 st out).1 = true)
theorem Leads.refl (S : MS) : Leads T S S := fun _ h => h
theorem Leads.trans {S S' S'' : MS} (h : Leads T S S') (h' : Leads T S' S'') : Leads T S S'' := fun R hR => h R (h' R hR)
theorem Leads.one {S S' : MS} (h : stp T S = .inl S') : Leads T S S' := fun R hR => .go _ _ _ h hR
/-- A fault of the next token itself. -/
theorem ends_bad {i o : Nat} {st : List Ent} {out : List Po} {w : Bool} (h : 50 ≤ (T i).k) : Ends T ⟨i, o, st, out, w⟩ (flt T 4 i) := .stop _ _ (by rw [stp]; dsimp only; rw [if_pos h])
theorem adv_cases (T : Nat → Tk) (i : Nat) (h51 : (T (i + 1)).k ≤ 51) : ((T (i + 1)).k < 50 ∧ adv T i = .ok (i + 1)) ∨ (50 ≤ (T (i + 1)).k ∧ ∃ c a, adv T i = .bad c a ∧ flt T 4 (i + 1) = .bad c a) := by
  unfold adv flt
  by_cases h : (T (i + 1)).k = 50
  · right; rw [if_pos h, if_pos h]; exact ⟨by omega, _, _, rfl, rfl⟩
  · by_cases h' : (T (i + 1)).k = 51
    · right; rw [if_neg h, if_pos h', if_neg h, if_pos h']; exact ⟨by omega, _, _, rfl, rfl⟩
    · left; rw [if_neg h, if_neg h']; exact ⟨by omega, rfl⟩
theorem flt_bad {c : Int} {i : Nat} (h : (T i).k < 50) : flt T c i = .bad c (T i).at' := by unfold flt; rw [if_neg (by omega), if_neg (by omega)]
theorem stp_want {i o : Nat} {st : List Ent} {out : List Po} (h : (T i).k < 50) : stp T ⟨i, o, st, out, true⟩ = 
    if (T i).k = 48 ∨ (T i).k = 49 then
      if o = 2000 then .inr (.bad 6 (T i).at')
      else if tagT (T (i + 1)) = true then .inl ⟨i + 2, o + 1, (dr 6 st (out ++ [⟨((T i).k : Int) - 44, (((T (i + 1)).n.getD 0 0).toNat : Int) - 97, []⟩])).1, (dr 6 st (out ++ [⟨((T i).k : Int) - 44, (((T (i + 1)).n.getD 0 0).toNat : Int) - 97, []⟩])).2, false⟩
      else .inr (flt T 4 (i + 1))
    else match wop (T i) with
      | some p => if o = 2000 then .inr (.bad 6 (T i).at') else .inl ⟨i + 1, o + 1, (dr 6 st (out ++ [p])).1, (dr 6 st (out ++ [p])).2, false⟩
      | none =>
        if (T i).k = 10 ∨ (T i).k = 47 then
          if o = 2000 then .inr (.bad 6 (T i).at')
          else if opens st = 64 then .inr (.bad 5 (T i).at')
          else .inl ⟨i + 1, o + 1, ⟨if (T i).k = 10 then 1 else 2, 0, 0⟩ :: st, out, true⟩
        else if (T i).k = 5 then
          if opens st = 64 then .inr (.bad 5 (T i).at') else .inl ⟨i + 1, o, ⟨4, 0, 0⟩ :: st, out, true⟩
        else if 25 ≤ (T i).k ∧ (T i).k ≤ 27 then
          if o = 2000 then .inr (.bad 6 (T i).at')
          else if (T (i + 1)).k = 5 then
            if opens st = 64 then .inr (.bad 5 (T (i + 1)).at') else .inl ⟨i + 2, o + 1, ⟨5, (((T i).k - 25 : Nat) : Int), if (T i).k = 27 then 2 else 1⟩ :: st, out, true⟩
          else .inr (flt T 4 (i + 1))
        else .inr (.bad 4 (T i).at') := by
  rw [stp]; dsimp only; rw [if_neg (by omega), if_pos rfl]; rfl
theorem stp_not {i o : Nat} {st : List Ent} {out : List Po} (h : (T i).k < 50) : stp T ⟨i, o, st, out, false⟩ = 
   if isB (T i).k = true then
    if bstr ((T i).k - 8 : Int) = 3 ∧ cmpTop (dr 4 st out).1 = true then .inr (.bad 4 (T i).at')
    else if o = 2000 then .inr (.bad 6 (T i).at')
    else .inl ⟨i + 1, o + 1, ⟨3, ((T i).k : Int) - 8, 0⟩ :: (dr (bstr ((T i).k - 8 : Int)).toNat st out).1, (dr (bstr ((T i).k - 8 : Int)).toNat st out).2, true⟩
  else match inn st with
    | none => .inr (.ok ((dr 1 st out).2, i, o))
    | some e =>
      if (T i).k = 4 ∧ 0 < e.l then .inl ⟨i + 1, o, decL (dr 1 st out).1, (dr 1 st out).2, true⟩
      else if (T i).k = 6 ∧ e.l = 0 then .inl ⟨i + 1, o, (dr 6 (dr 1 st out).1.tail ((dr 1 st out).2 ++ fin e)).1, (dr 6 (dr 1 st out).1.tail ((dr 1 st out).2 ++ fin e)).2, false⟩
      else .inr (.bad 4 (T i).at') := by
  rw [stp]; dsimp only; rw [if_neg (by omega), if_neg (by simp)]; rfl
/-- What holds of an expression of strength s. -/
def PEx (T : Nat → Tk) (f : Nat) : Prop := ∀ (s i o : Nat) (st : List Ent) (out : List Po), 1 ≤ s → s ≤ 6 → Nu s st → (T i).k < 50 → match ex T f s i o (opens st) with
  | .out => True
  | .bad c a => Ends T ⟨i, o, st, out, true⟩ (.bad c a)
  | .ok x => (T x.2.1).k < 50 ∧ ∃ st1 out1, Leads T ⟨i, o, st, out, true⟩ ⟨x.2.1, x.2.2, st1, out1, false⟩ ∧ (s ≤ 5 → dr s st1 out1 = (st, out ++ x.1.pf)) ∧ (s = 6 → st1 = st ∧ out1 = out ++ x.1.pf) ∧ aft T s x.2.1 st1 out1
def PLp (T : Nat → Tk) (f : Nat) : Prop := ∀ (s : Nat) (l : Tr) (i o : Nat) (st : List Ent) (out : List Po) (st1 : List Ent) (out1 : List Po), 1 ≤ s → s ≤ 5 → Nu s st → (T i).k < 50 → dr s st1 out1 = (st, out ++ l.pf) → aft T (s + 1) i st1 out1 → (s = 3 → dr 4 st1 out1 = (st, out ++ l.pf)) → match lp T f s l i o (opens st) with
  | .out => True
  | .bad c a => Ends T ⟨i, o, st1, out1, false⟩ (.bad c a)
  | .ok x => (T x.2.1).k < 50 ∧ ∃ st2 out2, Leads T ⟨i, o, st1, out1, false⟩ ⟨x.2.1, x.2.2, st2, out2, false⟩ ∧ dr s st2 out2 = (st, out ++ x.1.pf) ∧ aft T s x.2.1 st2 out2
def PUn (T : Nat → Tk) (f : Nat) : Prop := ∀ (i o : Nat) (st : List Ent) (out : List Po), (T i).k < 50 → match un T f i o (opens st) with
  | .out => True
  | .bad c a => Ends T ⟨i, o, st, out, true⟩ (.bad c a)
  | .ok x => (T x.2.1).k < 50 ∧ Leads T ⟨i, o, st, out, true⟩ ⟨x.2.1, x.2.2, (dr 6 st (out ++ x.1.pf)).1, (dr 6 st (out ++ x.1.pf)).2, false⟩
def PPr (T : Nat → Tk) (f : Nat) : Prop := ∀ (i o : Nat) (st : List Ent) (out : List Po), (T i).k < 50 → ¬ ((T i).k = 10 ∨ (T i).k = 47) → match pr T f i o (opens st) with
  | .out => True
  | .bad c a => Ends T ⟨i, o, st, out, true⟩ (.bad c a)
  | .ok x => (T x.2.1).k < 50 ∧ Leads T ⟨i, o, st, out, true⟩ ⟨x.2.1, x.2.2, (dr 6 st (out ++ x.1.pf)).1, (dr 6 st (out ++ x.1.pf)).2, false⟩
def pfs (L : List Tr) : List Po := L.flatMap Tr.pf
def POg (T : Nat → Tk) (f : Nat) : Prop := ∀ (m i o : Nat) (st : List Ent) (out : List Po) (e : Ent), 4 ≤ e.k → e.l + 1 = m → (T i).k = 5 → opens st ≠ 64 → match og T f m i o (opens st) with
  | .out => True
  | .bad c a => Ends T ⟨i + 1, o, e :: st, out, true⟩ (.bad c a)
  | .ok x => (T x.2.1).k < 50 ∧ x.1.length = m ∧ Leads T ⟨i + 1, o, e :: st, out, true⟩ ⟨x.2.1, x.2.2, (dr 6 st (out ++ pfs x.1 ++ fin e)).1, (dr 6 st (out ++ pfs x.1 ++ fin e)).2, false⟩
def POl (T : Nat → Tk) (f : Nat) : Prop := ∀ (m : Nat) (L : List Tr) (i o : Nat) (st : List Ent) (out : List Po) (e : Ent) (st1 : List Ent) (out1 : List Po), 4 ≤ e.k → e.l = m → (T i).k < 50 → dr 1 st1 out1 = (e :: st, out ++ pfs L) → aft T 1 i st1 out1 → match ol T f m L i o (opens (e :: st)) with
  | .out => True
  | .bad c a => Ends T ⟨i, o, st1, out1, false⟩ (.bad c a)
  | .ok x => (T x.2.1).k < 50 ∧ x.1.length = L.length + m ∧ ∃ st2 out2, Leads T ⟨i, o, st1, out1, false⟩ ⟨x.2.1, x.2.2, st2, out2, false⟩ ∧ dr 1 st2 out2 = (⟨e.k, e.v, 0⟩ :: st, out ++ pfs x.1) ∧ aft T 1 x.2.1 st2 out2

theorem exS (hT : ∀ i, (T i).k ≤ 51) {f : Nat} (hE : PEx T f) (hU : PUn T f) (hL : PLp T f) : PEx T (f + 1) := by
  intro s i o st out h1 h6 hN hk
  rw [ex]
  by_cases hs : s = 6
  · subst hs
    rw [if_pos rfl]
    have := hU i o st out hk
    cases hx : un T f i o (opens st) with
    | out => trivial
    | bad c a => rw [hx] at this; exact this
    | ok x =>
      rw [hx] at this
      refine ⟨this.1, _, _, this.2, fun h => by omega, fun _ => ?_, fun _ => Or.inl ?_⟩
      · rw [hN.dr6]; exact ⟨rfl, rfl⟩
      · have := bstr_in ((T x.2.1).k - 8 : Int); omega
  · rw [if_neg hs]
    have := hE (s + 1) i o st out (by omega) (by omega) (hN.up (by omega) (by omega)) hk
    cases hx : ex T f (s + 1) i o (opens st) with
    | out => trivial
    | bad c a => rw [hx] at this; exact this
    | ok x =>
      rw [hx] at this
      obtain ⟨hk', st1, out1, hl, hd, he, ha⟩ := this
      try rw [Rs.bnd]
      try dsimp only
      have hd1 : dr s st1 out1 = (st, out ++ x.1.pf) := by
        by_cases h5 : s = 5
        · obtain ⟨rfl, rfl⟩ := he (by omega)
          exact hN.dr _
        · have := dr_idem (s := s) (s' := s + 1) (by omega) (by omega) st1 out1
          rw [hd (by omega)] at this
          rw [← this]
          exact hN.dr _
      have := hL s x.1 x.2.1 x.2.2 st out st1 out1 h1 (by omega) hN hk' hd1 ha (fun h3 => by subst h3; exact hd (by omega))
      cases hy : lp T f s x.1 x.2.1 x.2.2 (opens st) with
      | out => trivial
      | bad c a => rw [hy] at this; exact hl _ this
      | ok y =>
        rw [hy] at this
        obtain ⟨hk2, st2, out2, hl2, hd2, ha2⟩ := this
        exact ⟨hk2, st2, out2, hl.trans hl2, fun _ => hd2, fun h => absurd h hs, ha2⟩
theorem lpS (hT : ∀ i, (T i).k ≤ 51) {f : Nat} (hE : PEx T f) (hL : PLp T f) : PLp T (f + 1) := by
  intro s l i o st out st1 out1 h1 h5 hN hk hd ha h3
  rw [lp]
  by_cases hb : atB T s i = true
  · rw [if_pos hb]
    unfold atB at hb
    rw [Bool.and_eq_true, decide_eq_true_eq] at hb
    obtain ⟨hB, hs⟩ := hb
    have hst : stp T ⟨i, o, st1, out1, false⟩ = if o = 2000 then .inr (.bad 6 (T i).at') else .inl ⟨i + 1, o + 1, ⟨3, ((T i).k : Int) - 8, 0⟩ :: st, out ++ l.pf, true⟩ := by
      rw [stp_not hk, if_pos hB, if_neg, hs, Int.toNat_natCast, hd]
      rintro ⟨c1, c2⟩
      rw [h3 (by omega)] at c2
      cases st with
      | nil => cases c2
      | cons e r =>
        have := hN.1
        unfold pops at this
        rw [if_neg (by omega)] at this
        simp [cmpTop] at c2
        simp [c2.1] at this
        omega
    unfold cnt
    by_cases ho : o = 2000
    · rw [if_pos ho] at hst ⊢
      exact .stop _ _ hst
    rw [if_neg ho] at hst ⊢
    try rw [Rs.bnd]
    try dsimp only
    rcases adv_cases T i (hT _) with ⟨hk1, hadv⟩ | ⟨hk1, c, a, hadv, hf⟩
    · rw [hadv, Rs.bnd]
      try dsimp only
      have := hE (s + 1) (i + 1) (o + 1) (⟨3, ((T i).k : Int) - 8, 0⟩ :: st) (out ++ l.pf) (by omega) (by omega) (Nu.bin hs h5) hk1
      rw [show opens (⟨3, ((T i).k : Int) - 8, 0⟩ :: st) = opens st from rfl] at this
      cases hx : ex T f (s + 1) (i + 1) (o + 1) (opens st) with
      | out => trivial
      | bad c a => rw [hx] at this; exact .go _ _ _ hst this
      | ok x =>
        rw [hx] at this
        obtain ⟨hk2, st2, out2, hl2, hd2, he2, ha2⟩ := this
        try rw [Rs.bnd]
        try dsimp only
        have hl3 := (Leads.one hst).trans hl2
        have hpop : ∀ out', dr s (⟨3, ((T i).k : Int) - 8, 0⟩ :: st) out' = (st, out' ++ [bo (T i).k]) := fun out' => by
          rw [dr, if_pos]
          · rw [hN.dr]; rfl
          · unfold pops; rw [if_neg (by omega)]; simp; omega
        have hd3 : dr s st2 out2 = (st, out ++ (Tr.bin (bo (T i).k) l x.1).pf) := by
          rw [Tr.pf, ← List.append_assoc, ← List.append_assoc]
          by_cases hs5 : s = 5
          · obtain ⟨rfl, rfl⟩ := he2 (by omega)
            exact hpop _
          · have := dr_idem (s := s) (s' := s + 1) (by omega) (by omega) st2 out2
            rw [hd2 (by omega)] at this
            rw [← this]
            exact hpop _
        by_cases hs3 : s = 3
        · rw [if_pos hs3]
          refine ⟨hk2, st2, out2, hl3, hd3, fun hB2 => ?_⟩
          rcases ha2 hB2 with h | ⟨h, _⟩
          · by_cases h' : bstr ((T x.2.1).k - 8 : Int) = 3
            · right
              refine ⟨by omega, h', ?_⟩
              subst hs3
              rw [hd2 (by omega)]
              simp [cmpTop]
              omega
            · left; show bstr ((T x.2.1).k - 8 : Int) < s; omega
          · omega
        · rw [if_neg hs3]
          have := hL s (.bin (bo (T i).k) l x.1) x.2.1 x.2.2 st out st2 out2 h1 h5 hN hk2 hd3 ha2 (fun h => absurd h hs3)
          cases hy : lp T f s (.bin (bo (T i).k) l x.1) x.2.1 x.2.2 (opens st) with
          | out => trivial
          | bad c a => rw [hy] at this; exact hl3 _ this
          | ok y =>
            rw [hy] at this
            obtain ⟨hk4, st4, out4, hl4, hd4, ha4⟩ := this
            exact ⟨hk4, st4, out4, hl3.trans hl4, hd4, ha4⟩
    · rw [hadv, Rs.bnd]
      try dsimp only
      rw [← hf]
      exact .go _ _ _ hst (ends_bad hk1)
  · rw [if_neg hb]
    refine ⟨hk, st1, out1, Leads.refl _, hd, fun hB => ?_⟩
    have hne : bstr ((T i).k - 8 : Int) ≠ s := fun h => hb (by unfold atB; rw [hB, h]; simp)
    rcases ha hB with h | ⟨h, h', h''⟩
    · left; show bstr ((T i).k - 8 : Int) < s; omega
    · right; exact ⟨by omega, h', h''⟩

theorem unS (hT : ∀ i, (T i).k ≤ 51) {f : Nat} (hU : PUn T f) (hP : PPr T f) : PUn T (f + 1) := by
  intro i o st out hk
  rw [un]
  by_cases h : (T i).k = 10 ∨ (T i).k = 47
  · rw [if_pos h]
    have hw : wop (T i) = none := by unfold wop; rw [if_neg (by omega), if_neg (by omega), if_neg (by omega), if_neg (by omega)]
    have hst : stp T ⟨i, o, st, out, true⟩ = if o = 2000 then .inr (.bad 6 (T i).at') else if opens st = 64 then .inr (.bad 5 (T i).at') else .inl ⟨i + 1, o + 1, ⟨if (T i).k = 10 then 1 else 2, 0, 0⟩ :: st, out, true⟩ := by
      rw [stp_want hk, if_neg (by omega), hw]
      dsimp only
      rw [if_pos h]
    unfold cnt
    by_cases ho : o = 2000
    · rw [if_pos ho] at hst ⊢
      exact .stop _ _ hst
    rw [if_neg ho] at hst ⊢
    rw [bnd_ok]
    unfold opn'
    by_cases hd : opens st = 64
    · rw [if_pos hd] at hst ⊢
      exact .stop _ _ hst
    rw [if_neg hd] at hst ⊢
    rw [bnd_ok]
    rcases adv_cases T i (hT _) with ⟨hk1, hadv⟩ | ⟨hk1, c, a, hadv, hf⟩
    · rw [hadv, bnd_ok]
      have := hU (i + 1) (o + 1) (⟨if (T i).k = 10 then 1 else 2, 0, 0⟩ :: st) out hk1
      rw [show opens (⟨if (T i).k = 10 then 1 else 2, 0, 0⟩ :: st) = opens st + 1 by rw [opens, if_neg (by dsimp only; split <;> omega)]] at this
      cases hx : un T f (i + 1) (o + 1) (opens st + 1) with
      | out => trivial
      | bad c a => rw [hx] at this; exact .go _ _ _ hst this
      | ok x =>
        rw [hx] at this
        refine ⟨this.1, ?_⟩
        have h2 := (Leads.one hst).trans this.2
        rw [dr, if_pos (by unfold pops; dsimp only; rw [if_pos rfl]; split <;> rfl)] at h2
        dsimp only
        rw [Tr.pf, ← List.append_assoc]
        have e : eop ⟨if (T i).k = 10 then 1 else 2, 0, 0⟩ = unop (T i).k := by unfold eop unop; dsimp only; split <;> simp
        rw [e] at h2
        exact h2
    · rw [hadv, bnd_bad]; refine Eq.subst (motive := fun R => Ends T _ R) hf ?_
      exact .go _ _ _ hst (ends_bad hk1)
  · rw [if_neg h]
    exact hP i o st out hk h
theorem prS (hT : ∀ i, (T i).k ≤ 51) (hTag : ∀ i, tagT (T i) = true → (T i).k < 50) {f : Nat} (hG : POg T f) : PPr T (f + 1) := by
  intro i o st out hk hn
  rw [pr]
  have hW := stp_want (T := T) (i := i) (o := o) (st := st) (out := out) hk
  by_cases h5 : (T i).k = 5
  · rw [if_pos h5]
    have hw : wop (T i) = none := by unfold wop; rw [if_neg (by omega), if_neg (by omega), if_neg (by omega), if_neg (by omega)]
    rw [if_neg (by omega), hw] at hW
    dsimp only at hW
    rw [if_neg hn, if_pos h5] at hW
    by_cases hd : opens st = 64
    · rw [if_pos hd] at hW
      cases f with
      | zero => rw [og]; trivial
      | succ f => rw [og, if_pos h5]; unfold opn'; rw [if_pos hd]; exact .stop _ _ hW
    · rw [if_neg hd] at hW
      have := hG 1 i o st out ⟨4, 0, 0⟩ (by simp) rfl h5 hd
      cases hx : og T f 1 i o (opens st) with
      | out => trivial
      | bad c a => rw [hx] at this; exact .go _ _ _ hW this
      | ok x =>
        rw [hx] at this
        obtain ⟨k1, hl, h2⟩ := this
        refine ⟨k1, ?_⟩
        have h3 := (Leads.one hW).trans h2
        dsimp only
        obtain ⟨L, j, o'⟩ := x
        obtain ⟨t, rfl⟩ := List.length_eq_one_iff.1 hl
        dsimp only at h3 ⊢
        rw [show out ++ pfs [t] ++ fin ⟨4, 0, 0⟩ = out ++ t.pf by simp [pfs, fin]] at h3
        exact h3
  rw [if_neg h5]
  by_cases hc : 25 ≤ (T i).k ∧ (T i).k ≤ 27
  · rw [if_pos hc]
    have hw : wop (T i) = none := by unfold wop; rw [if_neg (by omega), if_neg (by omega), if_neg (by omega), if_neg (by omega)]
    rw [if_neg (by omega), hw] at hW
    dsimp only at hW
    rw [if_neg hn, if_neg h5, if_pos hc] at hW
    unfold cnt
    by_cases ho : o = 2000
    · rw [if_pos ho] at hW ⊢
      exact .stop _ _ hW
    rw [if_neg ho] at hW ⊢
    rw [bnd_ok]
    rcases adv_cases T i (hT _) with ⟨hk1, hadv⟩ | ⟨hk1, c, a, hadv, hf⟩
    · rw [hadv, bnd_ok]
      by_cases h6 : (T (i + 1)).k = 5
      · rw [if_pos h6] at hW
        by_cases hd : opens st = 64
        · rw [if_pos hd] at hW
          cases f with
          | zero => rw [og]; trivial
          | succ f => rw [og, if_pos h6]; unfold opn'; rw [if_pos hd]; exact .stop _ _ hW
        · rw [if_neg hd] at hW
          have := hG (if (T i).k = 27 then 3 else 2) (i + 1) (o + 1) st out ⟨5, (((T i).k - 25 : Nat) : Int), if (T i).k = 27 then 2 else 1⟩ (by simp) (by dsimp only; split <;> rfl) h6 hd
          cases hx : og T f (if (T i).k = 27 then 3 else 2) (i + 1) (o + 1) (opens st) with
          | out => trivial
          | bad c a => rw [hx] at this; exact .go _ _ _ hW this
          | ok x =>
            rw [hx] at this
            obtain ⟨k1, hl, h2⟩ := this
            refine ⟨k1, ?_⟩
            have h3 := (Leads.one hW).trans h2
            dsimp only
            have e : pfs x.1 ++ fin ⟨5, (((T i).k - 25 : Nat) : Int), if (T i).k = 27 then 2 else 1⟩ = (callT ((T i).k - 25) x.1).pf := by
              obtain ⟨L, j, o'⟩ := x
              dsimp only at hl ⊢
              split at hl
              · match L, hl with
                | [a, b, c], _ => simp [pfs, fin, callT, Tr.pf, eop]
              · match L, hl with
                | [a, b], _ => simp [pfs, fin, callT, Tr.pf, eop]
            rw [List.append_assoc, e] at h3
            exact h3
      · rw [if_neg h6, flt_bad hk1] at hW
        cases f with
        | zero => rw [og]; trivial
        | succ f => rw [og, if_neg h6]; exact .stop _ _ hW
    · rw [hadv, bnd_bad]
      rw [if_neg (by omega), hf] at hW
      exact .stop _ _ hW
  rw [if_neg hc]
  by_cases hh : (T i).k = 48 ∨ (T i).k = 49
  · rw [if_pos hh] at hW ⊢
    unfold cnt
    by_cases ho : o = 2000
    · rw [if_pos ho] at hW ⊢
      exact .stop _ _ hW
    rw [if_neg ho] at hW ⊢
    rw [bnd_ok]
    rcases adv_cases T i (hT _) with ⟨hk1, hadv⟩ | ⟨hk1, c, a, hadv, hf⟩
    · rw [hadv, bnd_ok]
      unfold tagP
      by_cases ht : tagT (T (i + 1)) = true
      · rw [if_pos ht] at hW ⊢
        rcases adv_cases T (i + 1) (hT _) with ⟨hk2, hadv2⟩ | ⟨hk2, c, a, hadv2, hf2⟩
        · rw [hadv2]
          exact ⟨hk2, Leads.one hW⟩
        · rw [hadv2, bnd_bad, bnd_bad]; refine Eq.subst (motive := fun R => Ends T _ R) hf2 ?_
          exact .go _ _ _ hW (ends_bad hk2)
      · rw [if_neg ht, flt_bad hk1] at hW
        rw [if_neg ht]
        exact .stop _ _ hW
    · rw [hadv, bnd_bad]
      rw [if_neg (fun h => by have := hTag _ h; omega), hf] at hW
      exact .stop _ _ hW
  rw [if_neg hh] at hW ⊢
  cases hw : wop (T i) with
  | none =>
    rw [hw] at hW
    dsimp only at hW ⊢
    rw [if_neg hn, if_neg h5, if_neg hc] at hW
    exact .stop _ _ hW
  | some p =>
    rw [hw] at hW
    dsimp only at hW ⊢
    unfold cnt
    by_cases ho : o = 2000
    · rw [if_pos ho] at hW ⊢
      exact .stop _ _ hW
    rw [if_neg ho] at hW ⊢
    rw [bnd_ok]
    rcases adv_cases T i (hT _) with ⟨hk1, hadv⟩ | ⟨hk1, c, a, hadv, hf⟩
    · rw [hadv, bnd_ok]
      exact ⟨hk1, Leads.one hW⟩
    · rw [hadv, bnd_bad]; refine Eq.subst (motive := fun R => Ends T _ R) hf ?_
      exact .go _ _ _ hW (ends_bad hk1)
theorem aft_one {i o : Nat} {st : List Ent} {out : List Po} (hk : (T i).k < 50) (ha : aft T 1 i st out) (hB : isB (T i).k = true) : Ends T ⟨i, o, st, out, false⟩ (.bad 4 (T i).at') := by
  refine .stop _ _ ?_
  rw [stp_not hk, if_pos hB, if_pos]
  rcases ha hB with h | ⟨_, h, h'⟩
  · have := bstr_in ((T i).k - 8 : Int); omega
  · exact ⟨h, h'⟩
theorem inn_of {st1 st : List Ent} {out1 out : List Po} {e : Ent} (he : 4 ≤ e.k) (h : dr 1 st1 out1 = (e :: st, out)) : inn st1 = some e := by
  rw [← dr_inn (s := 1) (by omega) st1 out1, h, inn, if_pos he]
theorem olS (hT : ∀ i, (T i).k ≤ 51) {f : Nat} (hE : PEx T f) (hO : POl T f) : POl T (f + 1) := by
  intro m L i o st out e st1 out1 he hm hk hd ha
  cases m with
  | zero =>
    rw [ol]
    refine ⟨hk, by simp, st1, out1, Leads.refl _, ?_, ha⟩
    rw [hd]
    obtain ⟨ek, ev, el⟩ := e
    dsimp only at hm ⊢
    rw [hm]
  | succ m =>
    rw [ol]
    unfold exp
    have hW := stp_not (T := T) (i := i) (o := o) (st := st1) (out := out1) hk
    rw [inn_of he hd] at hW
    dsimp only at hW
    by_cases h4 : (T i).k = 4
    · rw [if_pos h4]
      rw [if_neg (by unfold isB; simp; omega), if_pos ⟨h4, by omega⟩, hd] at hW
      rcases adv_cases T i (hT _) with ⟨hk1, hadv⟩ | ⟨hk1, c, a, hadv, hf⟩
      · rw [hadv, bnd_ok]
        dsimp only [decL] at hW
        have := hE 1 (i + 1) o (⟨e.k, e.v, e.l - 1⟩ :: st) (out ++ pfs L) (by omega) (by omega) (Nu.opn he) hk1
        have eo : opens (⟨e.k, e.v, e.l - 1⟩ :: st) = opens (e :: st) := rfl
        rw [eo] at this
        cases hx : ex T f 1 (i + 1) o (opens (e :: st)) with
        | out => trivial
        | bad c a => rw [hx] at this; exact .go _ _ _ hW this
        | ok x =>
          rw [hx] at this
          obtain ⟨hk2, st2, out2, hl2, hd2, he2, ha2⟩ := this
          rw [bnd_ok]
          have hl3 := (Leads.one hW).trans hl2
          have hd3 : dr 1 st2 out2 = (⟨e.k, e.v, e.l - 1⟩ :: st, out ++ pfs (L ++ [x.1])) := by
            rw [hd2 (by omega)]; simp [pfs]
          have := hO m (L ++ [x.1]) x.2.1 x.2.2 st out ⟨e.k, e.v, e.l - 1⟩ st2 out2 he (by dsimp only; omega) hk2 hd3 ha2
          rw [eo] at this
          cases hy : ol T f m (L ++ [x.1]) x.2.1 x.2.2 (opens (e :: st)) with
          | out => trivial
          | bad c a => rw [hy] at this; exact hl3 _ this
          | ok y =>
            rw [hy] at this
            obtain ⟨k3, len3, st3, out3, hl4, hd4, ha4⟩ := this
            exact ⟨k3, by rw [len3]; simp; omega, st3, out3, hl3.trans hl4, hd4, ha4⟩
      · rw [hadv, bnd_bad]; refine Eq.subst (motive := fun R => Ends T _ R) hf ?_
        exact .go _ _ _ hW (ends_bad hk1)
    · rw [if_neg h4, bnd_bad]
      by_cases hB : isB (T i).k = true
      · exact aft_one hk ha hB
      · rw [if_neg hB, if_neg (by omega), if_neg (by omega)] at hW
        exact .stop _ _ hW
theorem ogS (hT : ∀ i, (T i).k ≤ 51) {f : Nat} (hE : PEx T f) (hO : POl T f) : POg T (f + 1) := by
  intro m i o st out e he hm h5 hd
  rw [og, if_pos h5]
  unfold opn'
  rw [if_neg hd, bnd_ok]
  rcases adv_cases T i (hT _) with ⟨hk1, hadv⟩ | ⟨hk1, c, a, hadv, hf⟩
  · rw [hadv, bnd_ok]
    have := hE 1 (i + 1) o (e :: st) out (by omega) (by omega) (Nu.opn he) hk1
    have eo : opens (e :: st) = opens st + 1 := by rw [opens, if_neg (by omega)]
    rw [eo] at this
    cases hx : ex T f 1 (i + 1) o (opens st + 1) with
    | out => trivial
    | bad c a => rw [hx] at this; exact this
    | ok x =>
      rw [hx] at this
      obtain ⟨hk2, st2, out2, hl2, hd2, he2, ha2⟩ := this
      rw [bnd_ok]
      have := hO (m - 1) [x.1] x.2.1 x.2.2 st out e st2 out2 he (by omega) hk2 (by rw [hd2 (by omega)]; simp [pfs]) ha2
      rw [eo] at this
      cases hy : ol T f (m - 1) [x.1] x.2.1 x.2.2 (opens st + 1) with
      | out => trivial
      | bad c a => rw [hy] at this; exact hl2 _ this
      | ok y =>
        rw [hy] at this
        obtain ⟨k3, len3, st3, out3, hl4, hd4, ha4⟩ := this
        rw [bnd_ok]
        have hl5 := hl2.trans hl4
        have hW := stp_not (T := T) (i := y.2.1) (o := y.2.2) (st := st3) (out := out3) k3
        rw [inn_of (e := ⟨e.k, e.v, 0⟩) he hd4] at hW
        dsimp only at hW
        unfold exp
        by_cases h6 : (T y.2.1).k = 6
        · rw [if_pos h6]
          rw [if_neg (by unfold isB; simp; omega), if_neg (by omega), if_pos ⟨h6, rfl⟩, hd4] at hW
          dsimp only [List.tail] at hW
          have ef : fin ⟨e.k, e.v, 0⟩ = fin e := rfl
          rw [ef] at hW
          rcases adv_cases T y.2.1 (hT _) with ⟨hk6, hadv6⟩ | ⟨hk6, c, a, hadv6, hf6⟩
          · rw [hadv6, bnd_ok]
            exact ⟨hk6, by dsimp only; rw [len3]; simp; omega, hl5.trans (Leads.one hW)⟩
          · rw [hadv6, bnd_bad]; refine Eq.subst (motive := fun R => Ends T _ R) hf6 ?_
            exact hl5 _ (.go _ _ _ hW (ends_bad hk6))
        · rw [if_neg h6, bnd_bad]
          by_cases hB : isB (T y.2.1).k = true
          · exact hl5 _ (aft_one k3 ha4 hB)
          · rw [if_neg hB, if_neg (by omega), if_neg (by omega)] at hW
            exact hl5 _ (.stop _ _ hW)
  · rw [hadv, bnd_bad]; refine Eq.subst (motive := fun R => Ends T _ R) hf ?_
    exact ends_bad hk1
theorem allS (hT : ∀ i, (T i).k ≤ 51) (hTag : ∀ i, tagT (T i) = true → (T i).k < 50) : ∀ f, PEx T f ∧ PLp T f ∧ PUn T f ∧ PPr T f ∧ POg T f ∧ POl T f
  | 0 => by
    refine ⟨?_, ?_, ?_, ?_, ?_, ?_⟩
    · intro _ _ _ _ _ _ _ _ _; rw [ex]; trivial
    · intro _ _ _ _ _ _ _ _ _ _ _ _ _ _ _; rw [lp]; trivial
    · intro _ _ _ _ _; rw [un]; trivial
    · intro _ _ _ _ _ _; rw [pr]; trivial
    · intro _ _ _ _ _ _ _ _ _ _; rw [og]; trivial
    · intro _ _ _ _ _ _ _ _ _ _ _ _ _ _; rw [ol]; trivial
  | f + 1 => by
    obtain ⟨a, b, c, d, e, g⟩ := allS hT hTag f
    exact ⟨exS hT a c b, lpS hT a b, unS hT c d, prS hT hTag e, ogS hT a g, olS hT a g⟩
/-- A whole expression: the machine's answer is the model's. -/
theorem expr_ends (hT : ∀ i, (T i).k ≤ 51) (hTag : ∀ i, tagT (T i) = true → (T i).k < 50) (f i o : Nat) (hk : (T i).k < 50) : match ex T f 1 i o 0 with
  | .out => True
  | .bad c a => Ends T ⟨i, o, [], [], true⟩ (.bad c a)
  | .ok x => (T x.2.1).k < 50 ∧ Ends T ⟨i, o, [], [], true⟩ (if isB (T x.2.1).k = true then .bad 4 (T x.2.1).at' else .ok (x.1.pf, x.2.1, x.2.2)) := by
  have := (allS hT hTag f).1 1 i o [] [] (by omega) (by omega) trivial hk
  rw [show opens [] = 0 from rfl] at this
  cases hx : ex T f 1 i o 0 with
  | out => trivial
  | bad c a => rw [hx] at this; exact this
  | ok x =>
    rw [hx] at this
    obtain ⟨hk2, st2, out2, hl2, hd2, he2, ha2⟩ := this
    refine ⟨hk2, hl2 _ ?_⟩
    by_cases hB : isB (T x.2.1).k = true
    · rw [if_pos hB]
      exact aft_one hk2 ha2 hB
    · rw [if_neg hB]
      refine .stop _ _ ?_
      have hi : inn st2 = none := by rw [← dr_inn (s := 1) (by omega) st2 out2, hd2 (by omega)]; rfl
      rw [stp_not hk2, if_neg hB, hi]
      dsimp only
      rw [hd2 (by omega)]
      rfl
end Go.Proofs.YtfoigigbggickaaDoor.Par
