import Derived.Test.YtgooegcmgejfpaaGreatDoorGr24
import Derived.Test.YtgooegcmgejfpaaGreatDoorGr27
import Derived.Test.YtgooegcmgejfpaaGreatDoorGr08
import Derived.Deep.DrawnRows
import Derived.StillTailTactics
import Derived.Deep.DeepCutAuto
import Derived.Laws.IdiomCopy
import Derived.Lib.SlBuf
namespace Go.Proofs.YtgooegcmgejfpaaGreatDoor.Mac
open Go Go.RowKit Go.Proofs.YtgooegcmgejfpaaGreatDoor.Mem Go.Proofs.YtgooegcmgejfpaaGreatDoor.Travel
open Go.Proofs.YtgooegcmgejfpaaGreatDoor.Valid (inB nodes nodes_bd validB gPlace gV gQ gVeh gReq gR gRoad rdOk lens)
open Go.Proofs.YtgooegcmgejfpaaGreatDoor.StV (stopB allIn listB deadB failB runB standB tripB okSt bareB)
open Go.Proofs.YtgooegcmgejfpaaGreatDoor.Arith (cl cl_bd sadd smul)
set_option linter.unusedVariables false
set_option linter.unusedSimpArgs false

/-- A list out of its length and its numbers. -/
def lst (n : Nat) (L : Nat → Int) : List Int := (List.range n).map L
theorem lst_len (n : Nat) (L : Nat → Int) : (lst n L).length = n := by simp [lst]
theorem lst_get {n i : Nat} {L : Nat → Int} (hi : i < n) : (lst n L).getD i 0 = L i := by
  simp [lst, List.getD_eq_getElem?_getD, List.getElem?_map, List.getElem?_range hi]
theorem li_lst {w : World} {a : Option Addr} {n : Nat} {L : Nat → Int} (h : NumsAt w a n L) : Li w a (lst n L) := by
  unfold Li
  rw [lst_len]
  rcases h with h | ⟨b, off, ha, h⟩
  · exact Or.inl h
  · refine Or.inr ⟨b, off, ha, fun i hi => ?_⟩
    show w.rangeAt b (off + i * 1) (ci ((lst n L).getD i 0))
    rw [lst_get hi]
    exact h i hi
theorem lst_bd {n : Nat} {L : Nat → Int} (h : allIn n L (-1000000000) 1000000000 = true) : Bd (lst n L) := fun i => by
  by_cases hi : i < n
  · rw [lst_get hi]
    have := allB_get h i hi
    simp [inB] at this
    exact this
  · rw [List.getD_eq_getElem?_getD, List.getElem?_eq_none (by rw [lst_len]; omega)]; simp
/-- What a valid instance bounds. -/
structure PlOk (p : Pl) : Prop where
  o0 : 0 ≤ p.o
  oc : p.o ≤ p.c
  c1 : p.c ≤ 1000000
  h0 : 0 ≤ p.h
  h1 : p.h ≤ 1000000
theorem gPlace_ok' {x y o c h : Int} (g : gPlace x y o c h = true) : PlOk ⟨x, y, o, c, h⟩ := by
  simp [gPlace, inB] at g; exact ⟨by simp only; omega, by simp only; omega, by simp only; omega, by simp only; omega, by simp only; omega⟩
theorem plOf_ok' {I : In} (h : validB I = true) {n : Int} (n0 : 0 ≤ n) (n1 : n ≤ nodes I - 1) : PlOk (plOf I n) := by
  obtain ⟨_, hv, hq, _⟩ := validB_parts h
  unfold nodes at n1
  unfold plOf
  split
  · have g := allB_get hv n.toNat (by omega)
    simp only [gV, gVeh, Bool.and_eq_true] at g; exact gPlace_ok' g.2
  · have g := allB_get hq ((n - I.nV) / 2).toNat (by omega)
    simp only [gQ, gReq, Bool.and_eq_true] at g
    split
    · exact gPlace_ok' g.1.2
    · exact gPlace_ok' g.2
theorem veh_bd {I : In} (h : validB I = true) {v : Nat} (hv : v < I.nV) : 0 ≤ (I.V v).a ∧ (I.V v).a ≤ 1000000 ∧ 0 ≤ (I.V v).b ∧ (I.V v).b ≤ 65535 := by
  have g := allB_get (validB_parts h).2.1 v hv
  simp [gV, gVeh, inB] at g
  omega
theorem req_bd {I : In} (h : validB I = true) {q : Nat} (hq : q < I.nQ) : 0 ≤ (I.Q q).a ∧ (I.Q q).a ≤ 10000 ∧ 0 ≤ (I.Q q).b ∧ (I.Q q).b ≤ 65535 := by
  have g := allB_get (validB_parts h).2.2.1 q hq
  simp [gQ, gReq, inB] at g
  omega
theorem size_bd {I : In} (h : validB I = true) (n : Int) : 0 ≤ sizeOf I n ∧ sizeOf I n ≤ 10000 := by
  unfold sizeOf
  split
  · rename_i hs
    obtain ⟨g1, g2, g3, g4⟩ := stop_bd hs
    have := req_bd h (q := ((n - I.nV) / 2).toNat) (by omega)
    omega
  · omega
theorem ff_lt {p : Nat → Bool} {n k : Nat} (h : ff p n = some k) : k < n := by
  induction n with
  | zero => simp [ff] at h
  | succ n ih =>
    rw [ff] at h
    cases hf : ff p n with
    | some j => rw [hf] at h; simp at h; subst h; exact Nat.lt_succ_of_lt (ih hf)
    | none =>
      rw [hf] at h
      simp only at h
      split at h
      · simp at h; omega
      · cases h
theorem leg_bd {I : In} (h : validB I = true) {a b : Int} (a0 : 0 ≤ a) (a1 : a ≤ nodes I - 1) (b0 : 0 ≤ b) (b1 : b ≤ nodes I - 1) : 0 ≤ legV I a b ∧ legV I a b ≤ 100000 := by
  have p := plOf_ok h a0 a1
  have q := plOf_ok h b0 b1
  unfold okPl at p q
  unfold legV
  split
  · omega
  · split
    · rename_i k hk
      have hlt : k < I.nR := ff_lt hk
      have g := allB_get (validB_parts h).2.2.2 k hlt
      simp [rdOk, gR, gRoad, inB] at g
      omega
    · unfold ab; split <;> split <;> omega
/-- The attributes after a move from a state to a node. -/
def nextL (I : In) (v : Nat) (S : St) (n : Int) : List Int :=
  [max (plOf I n).o (sadd (sadd S.t (plOf I S.d).h) (legV I S.d n)), legV I S.d n, sadd (max (plOf I n).o (sadd (sadd S.t (plOf I S.d).h) (legV I S.d n))) (-(sadd (sadd S.t (plOf I S.d).h) (legV I S.d n))), sadd S.s (legV I S.d n), sadd S.l ((pickOf I n - dropOf I n) * sizeOf I n), sizeOf I n, (plOf I n).o, (plOf I n).c, (plOf I n).h, (I.V v).a, S.p + 1, pickOf I n, dropOf I n]
theorem next_bd {I : In} (h : validB I = true) {v : Nat} (hv : v < I.nV) {S : St} {n : Int} (d0 : 0 ≤ S.d) (d1 : S.d ≤ nodes I - 1) (n0 : 0 ≤ n) (n1 : n ≤ nodes I - 1) (p0 : 0 ≤ S.p) (p1 : S.p ≤ 100000) : Bd (nextL I v S n) := by
  have g1 := plOf_ok' h n0 n1
  obtain ⟨g1, g2, g3, g4, g5⟩ := g1
  have g6 := leg_bd h d0 d1 n0 n1
  have g7 := size_bd h n
  have g8 := veh_bd h hv
  have g9 := pick_bd I n
  have s1 := sadd_bd (sadd S.t (plOf I S.d).h) (legV I S.d n)
  have s2 := sadd_bd (max (plOf I n).o (sadd (sadd S.t (plOf I S.d).h) (legV I S.d n))) (-(sadd (sadd S.t (plOf I S.d).h) (legV I S.d n)))
  have s3 := sadd_bd S.s (legV I S.d n)
  have s4 := sadd_bd S.l ((pickOf I n - dropOf I n) * sizeOf I n)
  intro i
  unfold nextL
  rcases i with _ | _ | _ | _ | _ | _ | _ | _ | _ | _ | _ | _ | _ | i <;> simp only [List.getD_cons_zero, List.getD_cons_succ, List.getD_nil, Nat.zero_add] <;> omega
theorem bd_over {a l : List Int} (ha : Bd a) (hl : Bd l) : Bd (a ++ l.drop 13) := fun i => by
  by_cases hi : i < a.length
  · have := ha i
    rwa [List.getD_eq_getElem?_getD, List.getElem?_append_left hi, ← List.getD_eq_getElem?_getD]
  · have := hl (13 + (i - a.length))
    rw [List.getD_eq_getElem?_getD, List.getElem?_append_right (by omega), List.getElem?_drop, ← List.getD_eq_getElem?_getD]
    exact this
/-- A running state. -/
structure RunOk (C : Co) (I : In) (v : Nat) (S : St) : Prop where
  co : ValC.okCo C = true
  hv : v < I.nV
  val : validB I = true
  r : S.r = -1
  p0 : 0 ≤ S.p
  p1 : S.p ≤ 4096
  d0 : 0 ≤ S.d
  d1 : S.d ≤ nodes I - 1
  l1 : S.n1 = I.nQ
  a1 : allIn S.n1 S.L1 0 2 = true
  l2 : (S.n2 : Int) = C.R
  a2 : allIn S.n2 S.L2 (-1000000000) 1000000000 = true
  l3 : (S.n3 : Int) = C.S * I.nQ
  a3 : allIn S.n3 S.L3 (-1000000000) 1000000000 = true
theorem run_ok {C : Co} {I : In} {v : Int} {S : St} (h : okSt C I v S = true) (hp : S.p ≠ -1) (hr : ¬ 0 ≤ S.r) : 0 ≤ v ∧ RunOk C I v.toNat S := by
  unfold okSt at h
  simp only [Bool.and_eq_true, Bool.or_eq_true] at h
  obtain ⟨⟨hc, ht⟩, (h | h) | h⟩ := h
  · simp [deadB] at h; omega
  · simp [failB, inB] at h; omega
  · unfold tripB at ht
    simp only [Bool.and_eq_true] at ht
    have hv : 0 ≤ v ∧ v ≤ (I.nV : Int) - 1 := by have := ht.1; simp [inB] at this; exact this
    unfold runB at h
    simp only [Bool.and_eq_true] at h
    obtain ⟨⟨⟨⟨⟨⟨⟨⟨h1, h2⟩, h3⟩, h4⟩, h5⟩, h6⟩, h7⟩, h8⟩, h9⟩ := h
    have h2 : 0 ≤ S.p ∧ S.p ≤ 4096 := by simp [inB] at h2; exact h2
    have h3 : 0 ≤ S.d ∧ S.d ≤ nodes I - 1 := by
      unfold standB at h3
      split at h3
      · simp at h3
        unfold nodes
        omega
      · obtain ⟨g1, g2, g3, g4⟩ := stop_bd h3
        omega
    simp only [listB, Bool.and_eq_true, beq_iff_eq] at h7 h8 h9
    exact ⟨hv.1, hc, by omega, ht.2, by simpa using h1, h2.1, h2.2, h3.1, h3.2, by omega, h7.2, h8.1, h8.2, h9.1, h9.2⟩
/-- What FinishState answers. -/
def anyB (n : Nat) (f : Nat → Bool) : Bool := !allB n (fun i => !f i)
def enHome (I : In) (v : Nat) : En := ⟨-1, I.nQ, 0, (I.V v).b⟩
def lastR (C : Co) (I : In) (v : Nat) (S : St) : Int := (exec (enHome I v) C.B3 C.n3 C.n3 0 (nextL I v S v ++ (lst S.n2 S.L2).drop 13) (lst S.n3 S.L3)).2.2
def finB (C : Co) (I : In) (v : Int) (S : St) : Int × Int × Int :=
  if okSt C I v S = false ∨ S.p = -1 then (0, 0, 0)
  else if 0 ≤ S.r then (2, S.p, S.r)
  else if anyB S.n1 (fun i => S.L1 i == 1) = true then (2, S.p + 1, 0)
  else if 0 ≤ lastR C I v.toNat S then (2, S.p + 1, lastR C I v.toNat S) else (1, 0, 0)
end Go.Proofs.YtgooegcmgejfpaaGreatDoor.Mac
namespace Go.Proofs.YtgooegcmgejfpaaGreatDoor.Mac
open Go Go.RowKit Go.Proofs.YtgooegcmgejfpaaGreatDoor.Mem
set_option linter.unusedVariables false
set_option linter.unusedSimpArgs false
attribute [local go_sem ↓] Go.wp_at_zero Go.wp_at_succ

/-- The attributes over the first registers. -/
def over (r A : List Int) : List Int := A ++ r.drop A.length
theorem over_len {r A : List Int} (h : A.length ≤ r.length) : (over r A).length = r.length := by unfold over; simp; omega
theorem Rw.there {w : World} {g : Nat} {l : List Int} (h : Rw w g l) : w.there g 0 l.length := fun j hj => by
  rw [Nat.zero_add, (h j hj).1, (h j hj).2]; exact ⟨rfl, rfl⟩
theorem Rw.over {w : World} {g : Nat} {r A : List Int} (h : Rw w g r) (hl : A.length ≤ r.length) : Rw (w.setCells g 0 (icells A)) g (over r A) := fun i hi => by
  rw [over_len hl] at hi
  have ht := World.there_setCells (w := w) h.there g 0 (icells A)
  refine ⟨?_, by have := (ht i hi).2; rwa [Nat.zero_add] at this⟩
  by_cases hA : i < A.length
  · have hs := World.rangeAt_setCells_same w g 0 (icells A) (there_part h.there (by omega) (by simp [icells]; omega))
    have e : (icells A)[i]? = some (.int .i64 (A.getD i 0)) := by simp [icells, List.getD_eq_getElem?_getD, hA]
    have := hs i _ e
    rw [Nat.zero_add] at this
    rw [this]
    simp [Mac.over, List.getD_eq_getElem?_getD, List.getElem?_append, hA]
  · have h1 : w.rangeAt g i [.int .i64 (r.getD i 0)] := fun j u hu => by
      cases j with
      | zero => simp at hu; subst hu; exact (h i hi).1
      | succ j => simp at hu
    have := (World.rangeAt_setCells_apart h1 g 0 (icells A) (Or.inr (Or.inr (by simp [icells]; omega)))) 0 _ rfl
    rw [Nat.add_zero] at this
    rw [this]
    simp only [Mac.over, List.getD_eq_getElem?_getD, List.getElem?_append, if_neg hA, List.getElem?_drop]
    rw [show A.length + (i - A.length) = i by omega]
theorem Rw.setCells {w : World} {g g' : Nat} {l : List Int} (h : Rw w g l) (hne : g' ≠ g) : ∀ (vs : List Value) (o : Nat), Rw (w.setCells g' o vs) g l := fun vs => by
  induction vs generalizing w with
  | nil => intro o; exact h
  | cons v r ih => intro o; exact ih (h.other (p := ⟨g', o, none⟩) hne v) (o + 1)
theorem blk_setCells {g g' : Nat} {o : Obj} (hne : g ≠ g') : ∀ (vs : List Value) (i : Nat) (w : World), w.heap[g]? = some o → (w.setCells g' i vs).heap[g]? = some o
  | [], _, _, h => h
  | v :: r, i, w, h => blk_setCells hne r (i + 1) _ (blk_set_other h (p := ⟨g', i, none⟩) hne v)
theorem Ok.over {w : World} {F : Nat} {f : Fr} {r s : List Int} (h : Ok w F f r s) (A : List Int) (hl : A.length ≤ r.length) : Ok (w.setCells f.gR 0 (icells A)) F f (Mac.over r A) s :=
  ⟨blk_setCells h.fr _ _ _ h.hF, h.hr.over hl, h.hs.setCells h.rs _ _, by rw [over_len hl]; exact h.nr, h.ns, h.aS, h.fr, h.fs, h.rs⟩
theorem Oth.setCells {B F gR gS : Nat} {a : World} (hB : B ≤ gR) : ∀ (vs : List Value) (o : Nat) (b : World), Oth B F gR gS a b → Oth B F gR gS a (b.setCells gR o vs)
  | [], _, _, h => h
  | v :: r, o, b, h => Oth.setCells hB r (o + 1) _ (h.set (p := ⟨gR, o, none⟩) hB (Or.inr (Or.inl rfl)) v)
theorem Ok.place {w : World} {F : Nat} {f : Fr} {r s : List Int} (h : Ok w F f r s) (n p t d l : Int) :
    Ok (((((w.setCell ⟨F, 2, none⟩ (.int .i64 n)).setCell ⟨F, 0, none⟩ (.int .i64 p)).setCell ⟨F, 3, none⟩ (.int .i64 t)).setCell ⟨F, 4, none⟩ (.int .i64 d)).setCell ⟨F, 5, none⟩ (.int .i64 l)) F { f with d := n, p := p, t := t, s := d, l := l } r s :=
  ⟨by have := blk_set (blk_set (blk_set (blk_set (blk_set h.hF 2 (.int .i64 n)) 0 (.int .i64 p)) 3 (.int .i64 t)) 4 (.int .i64 d)) 5 (.int .i64 l); simpa [frC] using this,
   ((((h.hr.other h.fr _).other h.fr _).other h.fr _).other h.fr _).other h.fr _, ((((h.hs.other h.fs _).other h.fs _).other h.fs _).other h.fs _).other h.fs _, h.nr, h.ns, h.aS, h.fr, h.fs, h.rs⟩
theorem infoOne : (Tryz.prog.info? 2).map (·.size) = some 1 := by kernel_rfl
set_option maxHeartbeats 4000000 in
set_option maxRecDepth 100000 in
theorem enterI (B F : Nat) (f : Fr) (r s : List Int) (w : World) (h : Ok w F f r s) (hB : B ≤ w.heap.size) (bF : B ≤ F) (bR : B ≤ f.gR) (hn : 13 ≤ f.nr) (n a0 a1 a2 a3 a4 a5 a6 a7 a8 a9 a10 a11 a12 : Int) :
    Calls Tryz.prog 106 #[.pointer (some ⟨F, 0, none⟩), .int .i64 n, .agg #[.int .i64 a0, .int .i64 a1, .int .i64 a2, .int .i64 a3, .int .i64 a4, .int .i64 a5, .int .i64 a6, .int .i64 a7, .int .i64 a8, .int .i64 a9, .int .i64 a10, .int .i64 a11, .int .i64 a12]] w fun e w' => (∃ v, e = .returned v) ∧ Ok w' F { f with d := n, p := a10, t := a0, s := a3, l := a4 } (over r [a0, a1, a2, a3, a4, a5, a6, a7, a8, a9, a10, a11, a12]) s ∧ Oth B F f.gR f.gS w w' := by
  have H := Hid.mk h
  have y0 := blk_cell h.hF 0
  have y2 := blk_cell h.hF 2
  have y3 := blk_cell h.hF 3
  have y4 := blk_cell h.hF 4
  have y5 := blk_cell h.hF 5
  have y7 := blk_cell h.hF 7
  have z0 := blk_unfrozen h.hF 0
  have z2 := blk_unfrozen h.hF 2
  have z3 := blk_unfrozen h.hF 3
  have z4 := blk_unfrozen h.hF 4
  have z5 := blk_unfrozen h.hF 5
  simp only [frC, List.getElem?_toArray, List.getElem?_cons_zero, List.getElem?_cons_succ] at y0 y2 y3 y4 y5 y7
  have gF := blk_lt h.hF
  clear h
  go_enter Tryz.func106, Tryz.ntmps106
  go_upto_region 3 with fail
  obtain ⟨W, hW⟩ : ∃ W, W = (((((w.setCell ⟨F, 2, none⟩ (.int .i64 n)).setCell ⟨F, 0, none⟩ (.int .i64 a10)).setCell ⟨F, 3, none⟩ (.int .i64 a0)).setCell ⟨F, 4, none⟩ (.int .i64 a3)).setCell ⟨F, 5, none⟩ (.int .i64 a4)).alloc (.cells #[.int .i64 a0, .int .i64 a1, .int .i64 a2, .int .i64 a3, .int .i64 a4, .int .i64 a5, .int .i64 a6, .int .i64 a7, .int .i64 a8, .int .i64 a9, .int .i64 a10, .int .i64 a11, .int .i64 a12] 156) := ⟨_, rfl⟩
  rw [← hW]
  have HO : Hid (Ok W F { f with d := n, p := a10, t := a0, s := a3, l := a4 } r s) := by unfold Hid; rw [hW]; exact (H.out.place n a10 a0 a3 a4).below (by go_grown)
  have HT : Hid (Oth B F f.gR f.gS w W) := by
    unfold Hid
    rw [hW]
    exact ((((((Oth.refl B F f.gR f.gS w).set (p := ⟨F, 2, none⟩) bF (Or.inl rfl) _).set (p := ⟨F, 0, none⟩) bF (Or.inl rfl) _).set (p := ⟨F, 3, none⟩) bF (Or.inl rfl) _).set (p := ⟨F, 4, none⟩) bF (Or.inl rfl) _).set (p := ⟨F, 5, none⟩) bF (Or.inl rfl) _).trans (Oth.of_below (by go_grown) (by simp only [size_set]; exact hB))
  have KA : Hid (W.heap[w.heap.size]? = some (.cells #[.int .i64 a0, .int .i64 a1, .int .i64 a2, .int .i64 a3, .int .i64 a4, .int .i64 a5, .int .i64 a6, .int .i64 a7, .int .i64 a8, .int .i64 a9, .int .i64 a10, .int .i64 a11, .int .i64 a12] 156)) := by
    have := blk_new (((((w.setCell ⟨F, 2, none⟩ (.int .i64 n)).setCell ⟨F, 0, none⟩ (.int .i64 a10)).setCell ⟨F, 3, none⟩ (.int .i64 a0)).setCell ⟨F, 4, none⟩ (.int .i64 a3)).setCell ⟨F, 5, none⟩ (.int .i64 a4)) (.cells #[.int .i64 a0, .int .i64 a1, .int .i64 a2, .int .i64 a3, .int .i64 a4, .int .i64 a5, .int .i64 a6, .int .i64 a7, .int .i64 a8, .int .i64 a9, .int .i64 a10, .int .i64 a11, .int .i64 a12] 156)
    simp only [size_set] at this
    rw [← hW] at this
    exact this
  have hBW : Hid (B ≤ W.heap.size) := by unfold Hid; rw [hW]; simp only [World.size_alloc, size_set]; omega
  clear hW y0 y2 y3 y4 y5 y7 z0 z2 z3 z4 z5
  have y7 := blk_cell HO.out.hF 7
  simp only [frC, List.getElem?_toArray, List.getElem?_cons_zero, List.getElem?_cons_succ] at y7
  have k0 := blk_cell KA.out 0
  simp only [frC, List.getElem?_toArray, List.getElem?_cons_zero, List.getElem?_cons_succ] at k0
  go_still_tail 6, (by kernel_rfl)
  clear y7 k0
  refine Lib.wpList_copy_run _ rfl _ _ _ _ rfl _ _ rfl rfl (run_copy_cells _ _ _ _ 2 f.gR 0 f.nr f.cR ⟨w.heap.size, 0, none⟩ 13 13 (icells [a0, a1, a2, a3, a4, a5, a6, a7, a8, a9, a10, a11, a12]) Tryz.underlying32 infoOne ?_ ?_ ?_ ?_ (icells_one _)) ?_
  · show 13 = Nat.min 13 f.nr
    exact (Nat.min_eq_left hn).symm
  · intro j u hj
    rw [Addr.add_mid, Nat.zero_add]
    exact (blk_cell KA.out j).trans (by simpa [icells] using hj)
  · intro j hj
    have hj' : j < 13 := hj
    have := (HO.out.hr j (by rw [← H.out.nr]; omega)).1
    rw [Nat.zero_add]
    show (W.cell? ⟨f.gR, j, none⟩).isSome = true
    rw [this]; rfl
  · intro j hj
    have hj' : j < 13 := hj
    rw [Nat.zero_add]
    exact (HO.out.hr j (by rw [← H.out.nr]; omega)).2
  go_wp2
  go_end0
  refine ⟨⟨_, rfl⟩, ?_, ?_⟩
  · exact (HO.out.below (w' := W.drew) (Below.refl _ _).drew).over [a0, a1, a2, a3, a4, a5, a6, a7, a8, a9, a10, a11, a12] (by show 13 ≤ _; rw [← H.out.nr]; exact hn)
  · exact Oth.setCells bR _ 0 _ (HT.out.trans (Oth.of_below (b := W.drew) (Below.refl _ _).drew hBW.out))
end Go.Proofs.YtgooegcmgejfpaaGreatDoor.Mac
