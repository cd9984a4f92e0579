import Derived.Test.YtgooegcmgejfpaaGreatDoorGr19
import Derived.Deep.DrawnRows
import Derived.Lib.QuietBelow
namespace Go.Proofs.YtgooegcmgejfpaaGreatDoor.Travel
open Go Go.RowKit Go.Proofs.YtgooegcmgejfpaaGreatDoor.Mem Go.Proofs.YtgooegcmgejfpaaGreatDoor.Valid
set_option linter.unusedVariables false

theorem allB_get {n : Nat} {f : Nat → Bool} (h : allB n f = true) : ∀ k, k < n → f k = true := by
  induction n with
  | zero => intro k hk; omega
  | succ m ih =>
    intro k hk
    simp [allB] at h
    by_cases e : k = m
    · rw [e]; exact h.2
    · exact ih h.1 k (by omega)

theorem validB_parts {I : In} (h : validB I = true) : lens I = true ∧ allB I.nV (fun i => gV (I.V i)) = true ∧ allB I.nQ (fun i => gQ (I.Q i)) = true ∧ allB I.nR (rdOk I) = true := by
  simp [validB] at h
  exact ⟨h.1.1.1, h.1.1.2, h.1.2, h.2⟩

theorem lens_bd {I : In} (h : lens I = true) : I.nV ≤ 64 ∧ I.nQ ≤ 1000 ∧ I.nR ≤ 4000 := by
  simp [lens] at h; omega

def okPl (p : Pl) : Prop := -10000 ≤ p.x ∧ p.x ≤ 10000 ∧ -10000 ≤ p.y ∧ p.y ≤ 10000
theorem gPlace_ok {x y o c h : Int} (g : gPlace x y o c h = true) : okPl ⟨x, y, o, c, h⟩ := by
  simp [gPlace, inB] at g; unfold okPl; simp only; omega
theorem gV_ok {v : Veh} (g : gV v = true) : okPl (Veh.pl v) := by
  simp only [gV, gVeh, Bool.and_eq_true] at g; exact gPlace_ok g.2
theorem gQ_ok {q : Req} (g : gQ q = true) : okPl (Req.from q) ∧ okPl (Req.to q) := by
  simp only [gQ, gReq, Bool.and_eq_true] at g; exact ⟨gPlace_ok g.1.2, gPlace_ok g.2⟩

theorem plOf_ok {I : In} (h : validB I = true) {n : Int} (n0 : 0 ≤ n) (n1 : n ≤ nodes I - 1) : okPl (plOf I n) := by
  obtain ⟨_, hv, hq, _⟩ := validB_parts h
  unfold nodes at n1
  unfold plOf
  split
  · exact gV_ok (allB_get hv n.toNat (by omega))
  · split
    · exact (gQ_ok (allB_get hq ((n - I.nV) / 2).toNat (by omega))).1
    · exact (gQ_ok (allB_get hq ((n - I.nV) / 2).toNat (by omega))).2

def bef (x y : Rd) : Prop := x.a < y.a ∨ (x.a = y.a ∧ x.b < y.b)
theorem bef_of {x y : Rd} (h : beforeB x y = true) : bef x y := by simp [beforeB] at h; unfold bef; omega
theorem bef_trans {x y z : Rd} (h : bef x y) (k : bef y z) : bef x z := by unfold bef at *; omega
theorem cmp_neg (x y : Rd) : cmpR x y < 0 ↔ bef x y := by
  have h := cmpR_before x y
  constructor
  · intro h1
    have : decide (0 ≤ cmpR x y) = false := by simp; omega
    rw [this] at h
    exact bef_of (by simpa using h.symm)
  · intro h1
    have hb : beforeB x y = true := by unfold bef at h1; simp [beforeB]; omega
    rw [hb] at h
    simp at h; omega
theorem cmp_zero (x y : Rd) : cmpR x y = 0 ↔ x.a = y.a ∧ x.b = y.b := by
  unfold cmpR or2 cmp3
  by_cases h1 : x.a < y.a
  · simp [h1]; omega
  · by_cases h2 : y.a < x.a
    · simp [h1, h2]; omega
    · by_cases h3 : x.b < y.b
      · simp [h1, h2, h3]; omega
      · by_cases h4 : y.b < x.b
        · simp [h1, h2, h3, h4]; omega
        · simp [h1, h2, h3, h4]; omega

theorem sorted {I : In} (h : allB I.nR (rdOk I) = true) : ∀ y, y < I.nR → ∀ x, x < y → bef (I.R x) (I.R y) := by
  intro y
  induction y with
  | zero => intro _ x hx; omega
  | succ m ih =>
    intro hy x hx
    have := allB_get h (m + 1) hy
    simp [rdOk] at this
    have hb := bef_of this.2
    by_cases e : x = m
    · rw [e]; exact hb
    · exact bef_trans (ih (by omega) x (by omega)) hb

theorem mono {I : In} (h : allB I.nR (rdOk I) = true) (t : Rd) : ∀ x y, x ≤ y → y < I.nR → cmpR (I.R y) t < 0 → cmpR (I.R x) t < 0 := by
  intro x y hxy hy hc
  by_cases e : x = y
  · rw [e]; exact hc
  · exact (cmp_neg _ _).2 (bef_trans (sorted h y hy x (by omega)) ((cmp_neg _ _).1 hc))

def hit (I : In) (a b : Int) (k : Nat) : Bool := ((I.R k).a == a) && ((I.R k).b == b)
/-- The first number below n of which p holds. -/
def ff (p : Nat → Bool) : Nat → Option Nat
  | 0 => none
  | n + 1 => match ff p n with
    | some k => some k
    | none => if p n then some n else none
theorem ff_none {p : Nat → Bool} {n : Nat} (h : ∀ x, x < n → p x = false) : ff p n = none := by
  induction n with
  | zero => rfl
  | succ m ih => simp [ff, ih (fun x hx => h x (by omega)), h m (by omega)]
theorem ff_some {p : Nat → Bool} {n k : Nat} (hk : k < n) (h : ∀ x, x < k → p x = false) (hp : p k = true) : ff p n = some k := by
  induction n with
  | zero => omega
  | succ m ih =>
    by_cases e : k = m
    · subst e; simp [ff, ff_none h, hp]
    · simp [ff, ih (by omega)]
/-- The travel time in a valid instance. -/
def legV (I : In) (a b : Int) : Int := if a = b then 0 else match ff (hit I a b) I.nR with
  | some k => (I.R k).t
  | none => ab ((plOf I a).x - (plOf I b).x) + ab ((plOf I a).y - (plOf I b).y)
theorem leg_same {I : In} {a b : Int} (h : a = b) : legV I a b = 0 := by unfold legV; rw [if_pos h]
theorem leg_hit {I : In} {a b : Int} (h : ¬ a = b) {k : Nat} (hk : k < I.nR) (hx : ∀ x, x < k → hit I a b x = false) (hp : hit I a b k = true) : legV I a b = (I.R k).t := by
  unfold legV; rw [if_neg h, ff_some hk hx hp]
theorem leg_none {I : In} {a b : Int} (h : ¬ a = b) (hx : ∀ x, x < I.nR → hit I a b x = false) : legV I a b = ab ((plOf I a).x - (plOf I b).x) + ab ((plOf I a).y - (plOf I b).y) := by
  unfold legV; rw [if_neg h, ff_none hx]

/-- What the search says, against the first hit. -/
theorem search_hit {I : In} {a b : Int} {i : Nat} (hlo : ∀ x, x < i → cmpR (I.R x) ⟨a, b, 0⟩ < 0) (hz : cmpR (I.R i) ⟨a, b, 0⟩ = 0) : (∀ x, x < i → hit I a b x = false) ∧ hit I a b i = true := by
  constructor
  · intro x hx
    have h1 := hlo x hx
    by_cases e : hit I a b x = true
    · simp [hit] at e
      have := (cmp_zero (I.R x) ⟨a, b, 0⟩).2 e
      omega
    · simpa using e
  · have := (cmp_zero (I.R i) ⟨a, b, 0⟩).1 hz
    simpa [hit] using this
theorem search_none {I : In} {a b : Int} {i : Nat} (h : allB I.nR (rdOk I) = true) (hlo : ∀ x, x < i → cmpR (I.R x) ⟨a, b, 0⟩ < 0) (hhi : ∀ x, i ≤ x → x < I.nR → 0 ≤ cmpR (I.R x) ⟨a, b, 0⟩) (hz : ¬ (i < I.nR ∧ cmpR (I.R i) ⟨a, b, 0⟩ = 0)) : ∀ x, x < I.nR → hit I a b x = false := by
  intro x hx
  by_cases e : hit I a b x = true
  · exfalso
    simp [hit] at e
    have hc := (cmp_zero (I.R x) ⟨a, b, 0⟩).2 e
    by_cases h1 : x < i
    · have := hlo x h1; omega
    · by_cases h2 : x = i
      · subst h2; exact hz ⟨hx, hc⟩
      · have hs := sorted h x hx i (by omega)
        have h3 : bef (I.R i) ⟨a, b, 0⟩ := by unfold bef at *; simp only; omega
        have h4 := (cmp_neg _ _).2 h3
        have h5 := hhi i (Nat.le_refl _) (by omega)
        omega
  · simpa using e
end Go.Proofs.YtgooegcmgejfpaaGreatDoor.Travel
namespace Go.Proofs.YtgooegcmgejfpaaGreatDoor.Travel
open Go Go.RowKit Go.Sort Go.Proofs.YtgooegcmgejfpaaGreatDoor.Mem Go.Proofs.YtgooegcmgejfpaaGreatDoor.Valid
set_option linter.unusedVariables false
attribute [local go_sem ↓] Go.wp_at_zero Go.wp_at_succ

set_option maxHeartbeats 4000000 in
set_option maxRecDepth 100000 in
theorem search (a3 : Option Addr) (n c3 : Nat) (R : Nat → Rd) (t : Rd) (w : World) (h : SliceAt w a3 n 3 (fun i => (R i).cells)) (hn : n ≤ 1048576) (hmono : ∀ x y, x ≤ y → y < n → cmpR (R y) t < 0 → cmpR (R x) t < 0) :
    Calls Tryz.prog 185 #[.slice a3 n c3, .agg #[.int .i64 t.a, .int .i64 t.b, .int .i64 t.t], .func (.func 175) #[] #[]] w fun e w' => ∃ (i : Nat), e = .returned (.tuple #[.int .i64 i, .bool (decide (i < n) && (cmpR (R i) t == 0))]) ∧ i ≤ n ∧ (∀ x, x < i → cmpR (R x) t < 0) ∧ (∀ x, i ≤ x → x < n → 0 ≤ cmpR (R x) t) ∧ Below w.heap.size w w' := by
  have H := Hid.mk h
  have HM := Hid.mk hmono
  clear h hmono
  go_enter Tryz.func185, Tryz.ntmps185
  go_wp2
  go_loopw [9, 10] (fun i j wr => ∃ p q : Nat, p ≤ q ∧ q ≤ n ∧ i = .int .i64 p ∧ j = .int .i64 q ∧ Hid (Below w.heap.size w wr) ∧ Hid (wr.heap[w.heap.size]? = some (.cells #[.int .i64 t.a, .int .i64 t.b, .int .i64 t.t] 124)) ∧ Hid (∀ x, x < p → cmpR (R x) t < 0) ∧ Hid (∀ x, q ≤ x → x < n → 0 ≤ cmpR (R x) t)) (fun i j _ => (intOf j).toNat - (intOf i).toNat)
  case atStart => exact ⟨0, n, Nat.zero_le _, Nat.le_refl _, rfl, rfl, (Below.refl _ _).alloc (Nat.le_refl _) _, blk_new _ _, fun x hx => absurd hx (Nat.not_lt_zero _), fun x h1 h2 => absurd h2 (Nat.not_lt.2 h1)⟩
  case round =>
    obtain ⟨p, q, hpq, hqn, rfl, rfl, hb, hx, hlo, hhi⟩ := hrel
    by_cases hlt : p < q
    · obtain ⟨m, hm⟩ := Int.eq_ofNat_of_zero_le (show (0 : Int) ≤ ((p : Int) + (q : Int)) / 2 by omega)
      have hmn : m < n := by omega
      have hpm : p ≤ m := by omega
      have hmq : m < q := by omega
      have m0 : (0 : Int) ≤ (m : Int) := by omega
      have m1 : (m : Int) < (n : Int) := by omega
      rcases H.out with hs | ⟨b, off, rfl, hs⟩
      · omega
      obtain ⟨e0, e1, e2⟩ := Rd.at (rangeAt_below (hs m hmn) hb.out)
      have x0 := blk_cell hx.out 0
      have x1 := blk_cell hx.out 1
      have x2 := blk_cell hx.out 2
      simp only [List.getElem?_toArray, List.getElem?_cons_zero, List.getElem?_cons_succ] at x0 x1 x2
      have f0 := cell_regrown e0
      have f1 := cell_regrown e1
      have f2 := cell_regrown e2
      have y0 := cell_regrown x0
      have y1 := cell_regrown x1
      have y2 := cell_regrown x2
      clear hs e0 e1 e2 x0 x1 x2
      have cC : ∀ d os, Calls Tryz.prog 175 #[.agg #[.int .i64 (R m).a, .int .i64 (R m).b, .int .i64 (R m).t], .agg #[.int .i64 t.a, .int .i64 t.b, .int .i64 t.t]] (grow (redrawn wr d) os) fun e w'' => e = .returned (.int .i64 (cmpR (R m) t)) ∧ ∃ p : Regrown, w'' = grow (redrawn wr p.d) p.os :=
        fun d os => Calls.regrown_of (compareRoads (R m) t _)
      by_cases hc : cmpR (R m) t < 0
      · have hlo' : Hid (∀ x, x < m + 1 → cmpR (R x) t < 0) := fun x hx => HM.out x m (by omega) hmn hc
        go_wp2_with fail
        refine wp_region_quiet_below (by kernel_rfl) (by kernel_rfl) ?_
        repeat (first | go_big_quiet_step (exact cC _ _) | quiet_step (exact cC _ _))
        refine wpQuiet_nil ?_
        intro _ hw'
        obtain ⟨⟨dq, osq⟩, hw''⟩ := hw'
        subst hw''
        go_wp2
        exact ⟨⟨m + 1, q, by omega, hqn, by go_num, rfl, below_then hb.out (below_regrown _ dq osq), blk_below hx.out (below_regrown _ dq osq), hlo', hhi⟩, by simp [intOf]; omega⟩
      · have hhi' : Hid (∀ x, m ≤ x → x < n → 0 ≤ cmpR (R x) t) := fun x h1 h2 => by
          by_cases hz : cmpR (R x) t < 0
          · exact absurd (HM.out m x h1 h2 hz) hc
          · omega
        go_wp2_with fail
        refine wp_region_quiet_below (by kernel_rfl) (by kernel_rfl) ?_
        repeat (first | go_big_quiet_step (exact cC _ _) | quiet_step (exact cC _ _))
        refine wpQuiet_nil ?_
        intro _ hw'
        obtain ⟨⟨dq, osq⟩, hw''⟩ := hw'
        subst hw''
        go_wp2
        exact ⟨⟨p, m, hpm, by omega, rfl, rfl, below_then hb.out (below_regrown _ dq osq), blk_below hx.out (below_regrown _ dq osq), hlo, hhi'⟩, by simp [intOf]; omega⟩
    · have hpq' : q = p := by omega
      subst hpq'
      by_cases hmn : q < n
      · have m0 : (0 : Int) ≤ (q : Int) := by omega
        have m1 : (q : Int) < (n : Int) := by omega
        have m2 : decide ((q : Int) < (n : Int)) = true := by simpa using m1
        rcases H.out with hs | ⟨b, off, rfl, hs⟩
        · omega
        obtain ⟨e0, e1, e2⟩ := Rd.at (rangeAt_below (hs q hmn) hb.out)
        have x0 := blk_cell hx.out 0
        have x1 := blk_cell hx.out 1
        have x2 := blk_cell hx.out 2
        simp only [List.getElem?_toArray, List.getElem?_cons_zero, List.getElem?_cons_succ] at x0 x1 x2
        have f0 := cell_regrown e0
        have f1 := cell_regrown e1
        have f2 := cell_regrown e2
        have y0 := cell_regrown x0
        have y1 := cell_regrown x1
        have y2 := cell_regrown x2
        clear hs e0 e1 e2 x0 x1 x2
        have cC : ∀ d os, Calls Tryz.prog 175 #[.agg #[.int .i64 (R q).a, .int .i64 (R q).b, .int .i64 (R q).t], .agg #[.int .i64 t.a, .int .i64 t.b, .int .i64 t.t]] (grow (redrawn wr d) os) fun e w'' => e = .returned (.int .i64 (cmpR (R q) t)) ∧ ∃ p : Regrown, w'' = grow (redrawn wr p.d) p.os :=
          fun d os => Calls.regrown_of (compareRoads (R q) t _)
        go_wp2_with fail
        refine wp_region_quiet_below (by kernel_rfl) (by kernel_rfl) ?_
        repeat (first | go_big_quiet_step (exact cC _ _) | quiet_step (exact cC _ _))
        refine wpQuiet_nil ?_
        intro _ hw'
        obtain ⟨⟨dq, osq⟩, hw''⟩ := hw'
        subst hw''
        go_wp2
        go_ret2
        exact ⟨q, by simp [hmn], by omega, hlo.out, hhi.out, below_then hb.out (below_regrown _ dq osq)⟩
      · have m2 : decide ((q : Int) < (n : Int)) = false := by simp; omega
        have m3 : ¬ (q : Int) < (n : Int) := by omega
        go_wp2_with fail
        go_quiet (fail)
        go_wp2
        go_ret2
        exact ⟨q, by simp [hmn], by omega, hlo.out, hhi.out, below_drewN' hb.out nq⟩
end Go.Proofs.YtgooegcmgejfpaaGreatDoor.Travel
namespace Go.Proofs.YtgooegcmgejfpaaGreatDoor.Travel
open Go Go.RowKit Go.Sort Go.Proofs.YtgooegcmgejfpaaGreatDoor.Mem Go.Proofs.YtgooegcmgejfpaaGreatDoor.Valid
set_option linter.unusedVariables false
attribute [local go_sem ↓] Go.wp_at_zero Go.wp_at_succ

set_option maxHeartbeats 1600000 in
theorem placeHome (a1 a2 a3 : Option Addr) (c1 c2 c3 : Nat) (I : In) (n : Int) (w : World) (h : InAt w a1 a2 a3 I) (h1 : I.nV ≤ 1048576) (n0 : 0 ≤ n) (hv : n < I.nV) :
    Calls Tryz.prog 180 #[.agg #[.slice a1 I.nV c1, .slice a2 I.nQ c2, .slice a3 I.nR c3], .int .i64 n] w fun e w' => e = .returned (.agg #[.int .i64 (plOf I n).x, .int .i64 (plOf I n).y, .int .i64 (plOf I n).o, .int .i64 (plOf I n).c, .int .i64 (plOf I n).h]) ∧ w' = (w.alloc (.cells #[.slice a1 I.nV c1, .slice a2 I.nQ c2, .slice a3 I.nR c3] 44)).alloc (.cells #[.int .i64 (plOf I n).x, .int .i64 (plOf I n).y, .int .i64 (plOf I n).o, .int .i64 (plOf I n).c, .int .i64 (plOf I n).h] 79) := by
  rw [show plOf I n = Veh.pl (I.V n.toNat) from by unfold plOf; rw [if_pos hv]]
  rcases h.v with hs | ⟨b, off, rfl, hs⟩
  · omega
  obtain ⟨m, rfl⟩ := Int.eq_ofNat_of_zero_le n0
  simp only [Int.toNat_natCast]
  obtain ⟨-, -, e2, e3, e4, e5, e6⟩ := Veh.at (hs m (by omega))
  have b0 := lt_of_cell e2
  have b1 : b < w.heap.size + 1 := by omega
  have f1 : w.cell? ⟨b, off + m * 7 + 2 + 1, none⟩ = _ := e3
  have f2 : w.cell? ⟨b, off + m * 7 + 2 + 2, none⟩ = _ := e4
  have f3 : w.cell? ⟨b, off + m * 7 + 2 + 3, none⟩ = _ := e5
  have f4 : w.cell? ⟨b, off + m * 7 + 2 + 4, none⟩ = _ := e6
  clear hs h e3 e4 e5 e6
  go_enter Tryz.func180, Tryz.ntmps180
  go_wp2
  go_returns
  exact ⟨rfl, rfl⟩

def qo (I : In) (n : Int) : Obj := .cells (I.Q ((n - I.nV) / 2).toNat).cells.toArray 110
set_option maxHeartbeats 1600000 in
theorem placeReq (a1 a2 a3 : Option Addr) (c1 c2 c3 : Nat) (I : In) (n : Int) (w : World) (h : InAt w a1 a2 a3 I) (h1 : I.nV ≤ 1048576) (h2 : I.nQ ≤ 1048576) (hge : (I.nV : Int) ≤ n) (n1 : n ≤ nodes I - 1) :
    Calls Tryz.prog 180 #[.agg #[.slice a1 I.nV c1, .slice a2 I.nQ c2, .slice a3 I.nR c3], .int .i64 n] w fun e w' => e = .returned (.agg #[.int .i64 (plOf I n).x, .int .i64 (plOf I n).y, .int .i64 (plOf I n).o, .int .i64 (plOf I n).c, .int .i64 (plOf I n).h]) ∧ w' = ((w.alloc (.cells #[.slice a1 I.nV c1, .slice a2 I.nQ c2, .slice a3 I.nR c3] 44)).alloc (.cells #[.int .i64 (plOf I n).x, .int .i64 (plOf I n).y, .int .i64 (plOf I n).o, .int .i64 (plOf I n).c, .int .i64 (plOf I n).h] 79)).alloc (qo I n) := by
  unfold nodes at n1
  have hv : ¬ n < I.nV := by omega
  rcases h.q with hs | ⟨b, off, rfl, hs⟩
  · omega
  obtain ⟨m, hm⟩ := Int.eq_ofNat_of_zero_le (show 0 ≤ (n - I.nV) / 2 by omega)
  have hmq : m < I.nQ := by omega
  have hd0 : (0 : Int) ≤ (m : Int) := by omega
  have hd1 : (m : Int) < (I.nQ : Int) := by omega
  obtain ⟨e0, e1, e2, e3, e4, e5, e6, e7, e8, e9, e10, e11⟩ := Req.at (hs m hmq)
  have b0 := lt_of_cell e0
  have b1 : b < w.heap.size + 1 := by omega
  rw [show qo I n = .cells #[.int .i64 (I.Q m).a, .int .i64 (I.Q m).b, .int .i64 (I.Q m).x, .int .i64 (I.Q m).y, .int .i64 (I.Q m).o, .int .i64 (I.Q m).c, .int .i64 (I.Q m).h, .int .i64 (I.Q m).x', .int .i64 (I.Q m).y', .int .i64 (I.Q m).o', .int .i64 (I.Q m).c', .int .i64 (I.Q m).h'] 110 from by unfold qo; rw [hm]; rfl]
  by_cases hr : (n - I.nV) % 2 = 0
  · rw [show plOf I n = Req.from (I.Q m) from by unfold plOf; rw [if_neg hv, if_pos hr, hm]; rfl]
    have hr' : ((n - I.nV) % 2 == 0) = true := by simpa using hr
    clear hs h hr
    go_enter Tryz.func180, Tryz.ntmps180
    go_wp2
    go_returns
    exact ⟨rfl, rfl⟩
  · rw [show plOf I n = Req.to (I.Q m) from by unfold plOf; rw [if_neg hv, if_neg hr, hm]; rfl]
    have hr' : ((n - I.nV) % 2 == 0) = false := by simpa using hr
    clear hs h hr
    go_enter Tryz.func180, Tryz.ntmps180
    go_wp2
    go_returns
    exact ⟨rfl, rfl⟩
end Go.Proofs.YtgooegcmgejfpaaGreatDoor.Travel
