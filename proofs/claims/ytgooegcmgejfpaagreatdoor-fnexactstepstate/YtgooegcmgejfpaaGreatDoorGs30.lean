import Derived.Test.YtgooegcmgejfpaaGreatDoorGs29
import Derived.Test.YtgooegcmgejfpaaGreatDoorGs08
import Derived.Test.YtgooegcmgejfpaaGreatDoorGs27
import Derived.Lib.SliceRun
namespace Go.Proofs.YtgooegcmgejfpaaGreatDoor.Mac
open Go Go.RowKit Go.Proofs.YtgooegcmgejfpaaGreatDoor.Mem Go.Proofs.YtgooegcmgejfpaaGreatDoor.Travel
open Go.Proofs.YtgooegcmgejfpaaGreatDoor.Valid (inB nodes nodes_bd validB gPlace gV gQ gVeh gReq gR gRoad rdOk lens)
open Go.Proofs.YtgooegcmgejfpaaGreatDoor.StV (stopB allIn listB deadB failB runB standB tripB okSt bareB)
open Go.Proofs.YtgooegcmgejfpaaGreatDoor.Arith (cl cl_bd sadd smul)
set_option linter.unusedVariables false
set_option linter.unusedSimpArgs false

/-- A list out of its length and its numbers. -/
def lst (n : Nat) (L : Nat → Int) : List Int := (List.range n).map L
theorem lst_len (n : Nat) (L : Nat → Int) : (lst n L).length = n := by simp [lst]
theorem lst_get {n i : Nat} {L : Nat → Int} (hi : i < n) : (lst n L).getD i 0 = L i := by
  simp [lst, List.getD_eq_getElem?_getD, List.getElem?_map, List.getElem?_range hi]
theorem li_lst {w : World} {a : Option Addr} {n : Nat} {L : Nat → Int} (h : NumsAt w a n L) : Li w a (lst n L) := by
  unfold Li
  rw [lst_len]
  rcases h with h | ⟨b, off, ha, h⟩
  · exact Or.inl h
  · refine Or.inr ⟨b, off, ha, fun i hi => ?_⟩
    show w.rangeAt b (off + i * 1) (ci ((lst n L).getD i 0))
    rw [lst_get hi]
    exact h i hi
theorem lst_bd {n : Nat} {L : Nat → Int} (h : allIn n L (-1000000000) 1000000000 = true) : Bd (lst n L) := fun i => by
  by_cases hi : i < n
  · rw [lst_get hi]
    have := allB_get h i hi
    simp [inB] at this
    exact this
  · rw [List.getD_eq_getElem?_getD, List.getElem?_eq_none (by rw [lst_len]; omega)]; simp
/-- What a valid instance bounds. -/
structure PlOk (p : Pl) : Prop where
  o0 : 0 ≤ p.o
  oc : p.o ≤ p.c
  c1 : p.c ≤ 1000000
  h0 : 0 ≤ p.h
  h1 : p.h ≤ 1000000
theorem gPlace_ok' {x y o c h : Int} (g : gPlace x y o c h = true) : PlOk ⟨x, y, o, c, h⟩ := by
  simp [gPlace, inB] at g; exact ⟨by simp only; omega, by simp only; omega, by simp only; omega, by simp only; omega, by simp only; omega⟩
theorem plOf_ok' {I : In} (h : validB I = true) {n : Int} (n0 : 0 ≤ n) (n1 : n ≤ nodes I - 1) : PlOk (plOf I n) := by
  obtain ⟨_, hv, hq, _⟩ := validB_parts h
  unfold nodes at n1
  unfold plOf
  split
  · have g := allB_get hv n.toNat (by omega)
    simp only [gV, gVeh, Bool.and_eq_true] at g; exact gPlace_ok' g.2
  · have g := allB_get hq ((n - I.nV) / 2).toNat (by omega)
    simp only [gQ, gReq, Bool.and_eq_true] at g
    split
    · exact gPlace_ok' g.1.2
    · exact gPlace_ok' g.2
theorem veh_bd {I : In} (h : validB I = true) {v : Nat} (hv : v < I.nV) : 0 ≤ (I.V v).a ∧ (I.V v).a ≤ 1000000 ∧ 0 ≤ (I.V v).b ∧ (I.V v).b ≤ 65535 := by
  have g := allB_get (validB_parts h).2.1 v hv
  simp [gV, gVeh, inB] at g
  omega
theorem req_bd {I : In} (h : validB I = true) {q : Nat} (hq : q < I.nQ) : 0 ≤ (I.Q q).a ∧ (I.Q q).a ≤ 10000 ∧ 0 ≤ (I.Q q).b ∧ (I.Q q).b ≤ 65535 := by
  have g := allB_get (validB_parts h).2.2.1 q hq
  simp [gQ, gReq, inB] at g
  omega
theorem size_bd {I : In} (h : validB I = true) (n : Int) : 0 ≤ sizeOf I n ∧ sizeOf I n ≤ 10000 := by
  unfold sizeOf
  split
  · rename_i hs
    obtain ⟨g1, g2, g3, g4⟩ := stop_bd hs
    have := req_bd h (q := ((n - I.nV) / 2).toNat) (by omega)
    omega
  · omega
theorem ff_lt {p : Nat → Bool} {n k : Nat} (h : ff p n = some k) : k < n := by
  induction n with
  | zero => simp [ff] at h
  | succ n ih =>
    rw [ff] at h
    cases hf : ff p n with
    | some j => rw [hf] at h; simp at h; subst h; exact Nat.lt_succ_of_lt (ih hf)
    | none =>
      rw [hf] at h
      simp only at h
      split at h
      · simp at h; omega
      · cases h
theorem leg_bd {I : In} (h : validB I = true) {a b : Int} (a0 : 0 ≤ a) (a1 : a ≤ nodes I - 1) (b0 : 0 ≤ b) (b1 : b ≤ nodes I - 1) : 0 ≤ legV I a b ∧ legV I a b ≤ 100000 := by
  have p := plOf_ok h a0 a1
  have q := plOf_ok h b0 b1
  unfold okPl at p q
  unfold legV
  split
  · omega
  · split
    · rename_i k hk
      have hlt : k < I.nR := ff_lt hk
      have g := allB_get (validB_parts h).2.2.2 k hlt
      simp [rdOk, gR, gRoad, inB] at g
      omega
    · unfold ab; split <;> split <;> omega
/-- The attributes after a move from a state to a node. -/
def nextL (I : In) (v : Nat) (S : St) (n : Int) : List Int :=
  [max (plOf I n).o (sadd (sadd S.t (plOf I S.d).h) (legV I S.d n)), legV I S.d n, sadd (max (plOf I n).o (sadd (sadd S.t (plOf I S.d).h) (legV I S.d n))) (-(sadd (sadd S.t (plOf I S.d).h) (legV I S.d n))), sadd S.s (legV I S.d n), sadd S.l ((pickOf I n - dropOf I n) * sizeOf I n), sizeOf I n, (plOf I n).o, (plOf I n).c, (plOf I n).h, (I.V v).a, S.p + 1, pickOf I n, dropOf I n]
theorem next_bd {I : In} (h : validB I = true) {v : Nat} (hv : v < I.nV) {S : St} {n : Int} (d0 : 0 ≤ S.d) (d1 : S.d ≤ nodes I - 1) (n0 : 0 ≤ n) (n1 : n ≤ nodes I - 1) (p0 : 0 ≤ S.p) (p1 : S.p ≤ 100000) : Bd (nextL I v S n) := by
  have g1 := plOf_ok' h n0 n1
  obtain ⟨g1, g2, g3, g4, g5⟩ := g1
  have g6 := leg_bd h d0 d1 n0 n1
  have g7 := size_bd h n
  have g8 := veh_bd h hv
  have g9 := pick_bd I n
  have s1 := sadd_bd (sadd S.t (plOf I S.d).h) (legV I S.d n)
  have s2 := sadd_bd (max (plOf I n).o (sadd (sadd S.t (plOf I S.d).h) (legV I S.d n))) (-(sadd (sadd S.t (plOf I S.d).h) (legV I S.d n)))
  have s3 := sadd_bd S.s (legV I S.d n)
  have s4 := sadd_bd S.l ((pickOf I n - dropOf I n) * sizeOf I n)
  intro i
  unfold nextL
  rcases i with _ | _ | _ | _ | _ | _ | _ | _ | _ | _ | _ | _ | _ | i <;> simp only [List.getD_cons_zero, List.getD_cons_succ, List.getD_nil, Nat.zero_add] <;> omega
theorem bd_over {a l : List Int} (ha : Bd a) (hl : Bd l) : Bd (a ++ l.drop 13) := fun i => by
  by_cases hi : i < a.length
  · have := ha i
    rwa [List.getD_eq_getElem?_getD, List.getElem?_append_left hi, ← List.getD_eq_getElem?_getD]
  · have := hl (13 + (i - a.length))
    rw [List.getD_eq_getElem?_getD, List.getElem?_append_right (by omega), List.getElem?_drop, ← List.getD_eq_getElem?_getD]
    exact this
/-- A running state. -/
structure RunOk (C : Co) (I : In) (v : Nat) (S : St) : Prop where
  co : ValC.okCo C = true
  hv : v < I.nV
  val : validB I = true
  r : S.r = -1
  p0 : 0 ≤ S.p
  p1 : S.p ≤ 4096
  d0 : 0 ≤ S.d
  d1 : S.d ≤ nodes I - 1
  l1 : S.n1 = I.nQ
  a1 : allIn S.n1 S.L1 0 2 = true
  l2 : (S.n2 : Int) = C.R
  a2 : allIn S.n2 S.L2 (-1000000000) 1000000000 = true
  l3 : (S.n3 : Int) = C.S * I.nQ
  a3 : allIn S.n3 S.L3 (-1000000000) 1000000000 = true
theorem run_ok {C : Co} {I : In} {v : Int} {S : St} (h : okSt C I v S = true) (hp : S.p ≠ -1) (hr : ¬ 0 ≤ S.r) : 0 ≤ v ∧ RunOk C I v.toNat S := by
  unfold okSt at h
  simp only [Bool.and_eq_true, Bool.or_eq_true] at h
  obtain ⟨⟨hc, ht⟩, (h | h) | h⟩ := h
  · simp [deadB] at h; omega
  · simp [failB, inB] at h; omega
  · unfold tripB at ht
    simp only [Bool.and_eq_true] at ht
    have hv : 0 ≤ v ∧ v ≤ (I.nV : Int) - 1 := by have := ht.1; simp [inB] at this; exact this
    unfold runB at h
    simp only [Bool.and_eq_true] at h
    obtain ⟨⟨⟨⟨⟨⟨⟨⟨h1, h2⟩, h3⟩, h4⟩, h5⟩, h6⟩, h7⟩, h8⟩, h9⟩ := h
    have h2 : 0 ≤ S.p ∧ S.p ≤ 4096 := by simp [inB] at h2; exact h2
    have h3 : 0 ≤ S.d ∧ S.d ≤ nodes I - 1 := by
      unfold standB at h3
      split at h3
      · simp at h3
        unfold nodes
        omega
      · obtain ⟨g1, g2, g3, g4⟩ := stop_bd h3
        omega
    simp only [listB, Bool.and_eq_true, beq_iff_eq] at h7 h8 h9
    exact ⟨hv.1, hc, by omega, ht.2, by simpa using h1, h2.1, h2.2, h3.1, h3.2, by omega, h7.2, h8.1, h8.2, h9.1, h9.2⟩
/-- What FinishState answers. -/
def anyB (n : Nat) (f : Nat → Bool) : Bool := !allB n (fun i => !f i)
def enHome (I : In) (v : Nat) : En := ⟨-1, I.nQ, 0, (I.V v).b⟩
def lastR (C : Co) (I : In) (v : Nat) (S : St) : Int := (exec (enHome I v) C.B3 C.n3 C.n3 0 (nextL I v S v ++ (lst S.n2 S.L2).drop 13) (lst S.n3 S.L3)).2.2
def finB (C : Co) (I : In) (v : Int) (S : St) : Int × Int × Int :=
  if okSt C I v S = false ∨ S.p = -1 then (0, 0, 0)
  else if 0 ≤ S.r then (2, S.p, S.r)
  else if anyB S.n1 (fun i => S.L1 i == 1) = true then (2, S.p + 1, 0)
  else if 0 ≤ lastR C I v.toNat S then (2, S.p + 1, lastR C I v.toNat S) else (1, 0, 0)
end Go.Proofs.YtgooegcmgejfpaaGreatDoor.Mac
namespace Go.Proofs.YtgooegcmgejfpaaGreatDoor.Mac
open Go Go.RowKit Go.Proofs.YtgooegcmgejfpaaGreatDoor.Mem
set_option linter.unusedVariables false
set_option linter.unusedSimpArgs false
attribute [local go_sem ↓] Go.wp_at_zero Go.wp_at_succ

/-- A copy of a list: nothing, or a list of its own. -/
def Cl (w : World) (l : List Int) (e : Ending) (w' : World) : Prop :=
  ∃ a' c', e = .returned (.slice a' l.length c') ∧ Below w.heap.size w w' ∧ (l.length = 0 ∨ ∃ g, a' = some ⟨g, 0, none⟩ ∧ w.heap.size ≤ g ∧ g < w'.heap.size ∧ Rw w' g l)
theorem nilEq (w : World) (a : Option Addr) (n c : Nat) : (binOp .eql 32 (.slice a n c) (.slice none 0 0)).run Tryz.prog w = .ok (.bool a.isNone) w := Lib.run_eql_slice_nil w _ _ a n c 0 0 Tryz.underlying32
theorem own_any {B : Nat} {w : World} {v : Value} {n : Nat} {l : List Value} (h : w.ownsRow B 2 1 v n l) : ∃ a c, v = .slice a n c := by
  rcases h.2 with ⟨hv, h0⟩ | ⟨g, cap, cur, hv, hg, hblk, h1, h2, h3, ht⟩
  · exact ⟨_, _, by rw [hv, h0]⟩
  · exact ⟨_, _, hv⟩

set_option maxHeartbeats 1600000 in
set_option maxRecDepth 100000 in
theorem cloneI (a : Option Addr) (n c : Nat) (l : List Int) (w : World) (hn : n = l.length) (h : Li w a l) (hN : n ≤ 1048576) :
    Calls Tryz.prog 121 #[.slice a n c] w (Cl w l) := by
  have HN := Hid.mk hn
  obtain ⟨i0, hi, hz0, hz1, hz2⟩ := info_parts infoIn
  by_cases h0 : n = 0
  · subst h0
    have hl : Hid (l.length = 0) := hn.symm
    clear hn
    cases a with
    | none =>
      clear h hi hz0 hz1 hz2
      have hq := fun w : World => nilEq w none 0 c
      go_enter Tryz.func121, Tryz.ntmps121
      go_wp2
      go_ret
      exact ⟨none, 0, by rw [hl.out]; rfl, by go_grown, Or.inl hl.out⟩
    | some ad =>
      clear h
      have hq := fun w : World => nilEq w (some ad) 0 c
      have hnews : ∀ j u, (icells [])[j]? = some u → (w.alloc (.cells #[] 2)).cell? (ad.add j) = some u := fun j u hj => by simp [icells] at hj
      go_enter Tryz.func121, Tryz.ntmps121
      go_wp2_with (at_builtin; refine wpList_append_own _ rfl _ _ 32 rfl w.heap.size 2 i0 (.int .i64 0) 1 8 Tryz.underlying32 hi hz0 hz1 hz2 rfl (by decide) _ _ _ rfl (own_nil w) ad 0 c (icells []) rfl (by simp [icells]) hnews (icells_one []) (by unfold maxLen; omega) (by omega) (by simp) ?_)
      intro v2 w2 hown hgrow _
      clear hnews
      have hB : Hid (Below w.heap.size w w2) := ((Below.refl _ _).alloc (Nat.le_refl _) _).grown hgrow (by simp) (fun q hq => by simp [Value.ownBlock] at hq; omega)
      obtain ⟨a', c', hv⟩ := own_any hown
      subst hv
      clear hown hgrow
      refine Hid.out ?_
      refine Lib.hid ?_
      go_wp2
      go_ret
      exact ⟨a', c', by rw [hl.out]; rfl, hB.out, Or.inl hl.out⟩
  rcases h with h | ⟨b, off, rfl, h⟩
  · omega
  have HH := Hid.mk h
  clear h hn
  have hq := fun w : World => nilEq w (some ⟨b, off, none⟩) n c
  have hnews : ∀ j u, (icells l)[j]? = some u → (w.alloc (.cells #[] 2)).cell? ((⟨b, off, none⟩ : Addr).add j) = some u := fun j u hj => by
    obtain ⟨h1, rfl⟩ := icells_get l j u hj
    have := ci.at (rangeAt_below (HH.out j h1) (show Below w.heap.size w (w.alloc (.cells #[] 2)) by go_grown))
    rw [Nat.mul_one] at this
    rw [Addr.add_mid]
    exact this
  go_enter Tryz.func121, Tryz.ntmps121
  go_wp2_with (at_builtin; refine wpList_append_own _ rfl _ _ 32 rfl w.heap.size 2 i0 (.int .i64 0) 1 8 Tryz.underlying32 hi hz0 hz1 hz2 rfl (by decide) _ _ _ rfl (own_nil w) ⟨b, off, none⟩ n c (icells l) rfl (by simp [icells]; exact HN.out.symm) hnews (icells_one l) (by unfold maxLen; omega) (by omega) (by simp) ?_)
  intro v2 w2 hown hgrow _
  clear hnews
  rw [show icells [] ++ icells l = icells l from rfl] at hown
  obtain ⟨g, c2, cs, rfl, hg, hblk, hsz, hcs⟩ := own_li (by omega) HN.out hown
  have hB : Hid (Below w.heap.size w w2) := ((Below.refl _ _).alloc (Nat.le_refl _) _).grown hgrow (by simp) (fun q hq => by simp [Value.ownBlock] at hq; omega)
  have HB2 := Hid.mk hblk
  have HG := Hid.mk hg
  have HC := Hid.mk (And.intro hsz hcs)
  clear hown hgrow hblk hsz hcs hg
  refine Hid.out ?_
  refine Lib.hid ?_
  go_wp2
  go_ret
  refine ⟨_, c2, by rw [← HN.out]; rfl, hB.out, Or.inr ⟨g, rfl, HG.out, blk_lt HB2.out, fun i hi => ?_⟩⟩
  have hl := HN.out
  exact ⟨by rw [blk_cell HB2.out, HC.out.2 i (by omega)], blk_unfrozen HB2.out i⟩
end Go.Proofs.YtgooegcmgejfpaaGreatDoor.Mac
