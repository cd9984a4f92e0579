import Derived.Test.YtdpmdmgjlpiikaaTravel1
namespace Go.Proofs.Ytdpmdmgjlpiikaa.Travel
open Go Go.RowKit Go.Proofs.Ytdpmdmgjlpiikaa.Mem Go.Proofs.Ytdpmdmgjlpiikaa.Valid
set_option linter.unusedVariables false

theorem allB_get {n : Nat} {f : Nat → Bool} (h : allB n f = true) : ∀ k, k < n → f k = true := by
  induction n with
  | zero => intro k hk; omega
  | succ m ih =>
    intro k hk
    simp [allB] at h
    by_cases e : k = m
    · rw [e]; exact h.2
    · exact ih h.1 k (by omega)

theorem validB_parts {I : In} (h : validB I = true) : lens I = true ∧ allB I.nV (fun i => gV (I.V i)) = true ∧ allB I.nQ (fun i => gQ (I.Q i)) = true ∧ allB I.nR (rdOk I) = true := by
  simp [validB] at h
  exact ⟨h.1.1.1, h.1.1.2, h.1.2, h.2⟩

theorem lens_bd {I : In} (h : lens I = true) : I.nV ≤ 64 ∧ I.nQ ≤ 1000 ∧ I.nR ≤ 4000 := by
  simp [lens] at h; omega

def okPl (p : Pl) : Prop := -10000 ≤ p.x ∧ p.x ≤ 10000 ∧ -10000 ≤ p.y ∧ p.y ≤ 10000
theorem gPlace_ok {x y o c h : Int} (g : gPlace x y o c h = true) : okPl ⟨x, y, o, c, h⟩ := by
  simp [gPlace, inB] at g; unfold okPl; simp only; omega
theorem gV_ok {v : Veh} (g : gV v = true) : okPl (Veh.pl v) := by
  simp only [gV, gVeh, Bool.and_eq_true] at g; exact gPlace_ok g.2
theorem gQ_ok {q : Req} (g : gQ q = true) : okPl (Req.from q) ∧ okPl (Req.to q) := by
  simp only [gQ, gReq, Bool.and_eq_true] at g; exact ⟨gPlace_ok g.1.2, gPlace_ok g.2⟩

theorem plOf_ok {I : In} (h : validB I = true) {n : Int} (n0 : 0 ≤ n) (n1 : n ≤ nodes I - 1) : okPl (plOf I n) := by
  obtain ⟨_, hv, hq, _⟩ := validB_parts h
  unfold nodes at n1
  unfold plOf
  split
  · exact gV_ok (allB_get hv n.toNat (by omega))
  · split
    · exact (gQ_ok (allB_get hq ((n - I.nV) / 2).toNat (by omega))).1
    · exact (gQ_ok (allB_get hq ((n - I.nV) / 2).toNat (by omega))).2

def bef (x y : Rd) : Prop := x.a < y.a ∨ (x.a = y.a ∧ x.b < y.b)
theorem bef_of {x y : Rd} (h : beforeB x y = true) : bef x y := by simp [beforeB] at h; unfold bef; omega
theorem bef_trans {x y z : Rd} (h : bef x y) (k : bef y z) : bef x z := by unfold bef at *; omega
theorem cmp_neg (x y : Rd) : cmpR x y < 0 ↔ bef x y := by
  have h := cmpR_before x y
  constructor
  · intro h1
    have : decide (0 ≤ cmpR x y) = false := by simp; omega
    rw [this] at h
    exact bef_of (by simpa using h.symm)
  · intro h1
    have hb : beforeB x y = true := by unfold bef at h1; simp [beforeB]; omega
    rw [hb] at h
    simp at h; omega
theorem cmp_zero (x y : Rd) : cmpR x y = 0 ↔ x.a = y.a ∧ x.b = y.b := by
  unfold cmpR or2 cmp3
  by_cases h1 : x.a < y.a
  · simp [h1]; omega
  · by_cases h2 : y.a < x.a
    · simp [h1, h2]; omega
    · by_cases h3 : x.b < y.b
      · simp [h1, h2, h3]; omega
      · by_cases h4 : y.b < x.b
        · simp [h1, h2, h3, h4]; omega
        · simp [h1, h2, h3, h4]; omega

theorem sorted {I : In} (h : allB I.nR (rdOk I) = true) : ∀ y, y < I.nR → ∀ x, x < y → bef (I.R x) (I.R y) := by
  intro y
  induction y with
  | zero => intro _ x hx; omega
  | succ m ih =>
    intro hy x hx
    have := allB_get h (m + 1) hy
    simp [rdOk] at this
    have hb := bef_of this.2
    by_cases e : x = m
    · rw [e]; exact hb
    · exact bef_trans (ih (by omega) x (by omega)) hb

theorem mono {I : In} (h : allB I.nR (rdOk I) = true) (t : Rd) : ∀ x y, x ≤ y → y < I.nR → cmpR (I.R y) t < 0 → cmpR (I.R x) t < 0 := by
  intro x y hxy hy hc
  by_cases e : x = y
  · rw [e]; exact hc
  · exact (cmp_neg _ _).2 (bef_trans (sorted h y hy x (by omega)) ((cmp_neg _ _).1 hc))

def hit (I : In) (a b : Int) (k : Nat) : Bool := ((I.R k).a == a) && ((I.R k).b == b)
/-- The first number below n of which p holds. -/
def ff (p : Nat → Bool) : Nat → Option Nat
  | 0 => none
  | n + 1 => match ff p n with
    | some k => some k
    | none => if p n then some n else none
theorem ff_none {p : Nat → Bool} {n : Nat} (h : ∀ x, x < n → p x = false) : ff p n = none := by
  induction n with
  | zero => rfl
  | succ m ih => simp [ff, ih (fun x hx => h x (by omega)), h m (by omega)]
theorem ff_some {p : Nat → Bool} {n k : Nat} (hk : k < n) (h : ∀ x, x < k → p x = false) (hp : p k = true) : ff p n = some k := by
  induction n with
  | zero => omega
  | succ m ih =>
    by_cases e : k = m
    · subst e; simp [ff, ff_none h, hp]
    · simp [ff, ih (by omega)]
/-- The travel time in a valid instance. -/
def legV (I : In) (a b : Int) : Int := if a = b then 0 else match ff (hit I a b) I.nR with
  | some k => (I.R k).t
  | none => ab ((plOf I a).x - (plOf I b).x) + ab ((plOf I a).y - (plOf I b).y)
theorem leg_same {I : In} {a b : Int} (h : a = b) : legV I a b = 0 := by unfold legV; rw [if_pos h]
theorem leg_hit {I : In} {a b : Int} (h : ¬ a = b) {k : Nat} (hk : k < I.nR) (hx : ∀ x, x < k → hit I a b x = false) (hp : hit I a b k = true) : legV I a b = (I.R k).t := by
  unfold legV; rw [if_neg h, ff_some hk hx hp]
theorem leg_none {I : In} {a b : Int} (h : ¬ a = b) (hx : ∀ x, x < I.nR → hit I a b x = false) : legV I a b = ab ((plOf I a).x - (plOf I b).x) + ab ((plOf I a).y - (plOf I b).y) := by
  unfold legV; rw [if_neg h, ff_none hx]

/-- What the search says, against the first hit. -/
theorem search_hit {I : In} {a b : Int} {i : Nat} (hlo : ∀ x, x < i → cmpR (I.R x) ⟨a, b, 0⟩ < 0) (hz : cmpR (I.R i) ⟨a, b, 0⟩ = 0) : (∀ x, x < i → hit I a b x = false) ∧ hit I a b i = true := by
  constructor
  · intro x hx
    have h1 := hlo x hx
    by_cases e : hit I a b x = true
    · simp [hit] at e
      have := (cmp_zero (I.R x) ⟨a, b, 0⟩).2 e
      omega
    · simpa using e
  · have := (cmp_zero (I.R i) ⟨a, b, 0⟩).1 hz
    simpa [hit] using this
theorem search_none {I : In} {a b : Int} {i : Nat} (h : allB I.nR (rdOk I) = true) (hlo : ∀ x, x < i → cmpR (I.R x) ⟨a, b, 0⟩ < 0) (hhi : ∀ x, i ≤ x → x < I.nR → 0 ≤ cmpR (I.R x) ⟨a, b, 0⟩) (hz : ¬ (i < I.nR ∧ cmpR (I.R i) ⟨a, b, 0⟩ = 0)) : ∀ x, x < I.nR → hit I a b x = false := by
  intro x hx
  by_cases e : hit I a b x = true
  · exfalso
    simp [hit] at e
    have hc := (cmp_zero (I.R x) ⟨a, b, 0⟩).2 e
    by_cases h1 : x < i
    · have := hlo x h1; omega
    · by_cases h2 : x = i
      · subst h2; exact hz ⟨hx, hc⟩
      · have hs := sorted h x hx i (by omega)
        have h3 : bef (I.R i) ⟨a, b, 0⟩ := by unfold bef at *; simp only; omega
        have h4 := (cmp_neg _ _).2 h3
        have h5 := hhi i (Nat.le_refl _) (by omega)
        omega
  · simpa using e
end Go.Proofs.Ytdpmdmgjlpiikaa.Travel
