import Derived.Test.YthobdaeglhdhnaaGreatDoorPp07
namespace Go.Proofs.YthobdaeglhdhnaaGreatDoor.Syn
open Go Go.RowKit Go.Proofs.YthobdaeglhdhnaaGreatDoor.Mem
set_option linter.unusedVariables false
set_option linter.unusedSimpArgs false
attribute [local go_sem ↓] Go.wp_at_zero Go.wp_at_succ

theorem ret_i {a b : Int} (h : a = b) : Ending.returned (.int .i64 a) = .returned (.int .i64 b) := by rw [h]

set_option maxHeartbeats 1600000 in
set_option maxRecDepth 100000 in
theorem binNestI (a b : Tr) (hN : NestOk a) (hM : NestOk b) (k v : Int) (n : ByteArray) (x y : Value) (w : World) (h : Nd w none x a) (h' : Nd w none y b) (hw : a.wf) (hw' : b.wf) (hT : TabB w) (hs : a.sz ≤ 1000000) (hs' : b.sz ≤ 1000000) (h0 : 0 ≤ v) (h1 : v ≤ 7) : Calls Tryz.prog 119 #[.agg #[.int .i64 k, .int .i64 v, .string n, x, y]] w fun e w' => e = .returned (.int .i64 (max (opn a.nst a.str (lL (bstr v))) (opn b.nst b.str (bstr v + 1)))) ∧ Below w.heap.size w w' := by
  have HT := Hid.mk hT
  have HD := Hid.mk h
  have HD' := Hid.mk h'
  have HN := Hid.mk hN
  have HM := Hid.mk hM
  have HW := Hid.mk hw
  have HW' := Hid.mk hw'
  have hB := Hid.mk ((Below.refl w.heap.size w).alloc (Nat.le_refl _) (.cells #[.int .i64 k, .int .i64 v, .string n, x, y] 110))
  clear hT h h' hN hM hw hw'
  go_enter Tryz.func119, Tryz.ntmps119
  go_wp2_with fail
  have HTb : Hid (TabB (w.alloc (.cells #[.int .i64 k, .int .i64 v, .string n, x, y] 110)).drew) := (HT.out.below hB.out).below (Below.refl _ _).drew
  have HDb : Hid (Nd (w.alloc (.cells #[.int .i64 k, .int .i64 v, .string n, x, y] 110)).drew none x a) := (HD.out.kept hB.out).kept (Below.refl _ _).drew
  have HDb' : Hid (Nd (w.alloc (.cells #[.int .i64 k, .int .i64 v, .string n, x, y] 110)).drew none y b) := (HD'.out.kept hB.out).kept (Below.refl _ _).drew
  go_region_held3 (fun w' => w'.cell? ⟨w.heap.size, 0, none⟩ = some (.int .i64 k) ∧ w'.cell? ⟨w.heap.size, 1, none⟩ = some (.int .i64 v) ∧ w'.cell? ⟨w.heap.size, 2, none⟩ = some (.string n) ∧ w'.cell? ⟨w.heap.size, 3, none⟩ = some x ∧ w'.cell? ⟨w.heap.size, 4, none⟩ = some y)
    (first | go_keep | ((repeat' constructor) <;> first | exact cell_keep hb4 (by first | assumption | (simp [*]; done)) | exact cell_keep hb3 (by first | assumption | (simp [*]; done)) | exact cell_keep hb2 (by first | assumption | (simp [*]; done)) | exact cell_keep hb1 (by first | assumption | (simp [*]; done))))
    ((first | (have _ := hb3; go_at_call 118; refine (openI b HM.out y _ _ (((HDb'.out.kept hb1).kept hb2).kept hb3) HW'.out (((HTb.out.below hb1).below hb2).below hb3) hs').mono ?_; rintro e w4 ⟨rfl, hb4⟩) | (go_at_call 69; refine (leastRI k v n x y _ ((HTb.out.below hb1).below hb2) h0 h1).mono ?_; rintro e w3 ⟨rfl, hb3⟩) | (go_at_call 118; refine (openI a HN.out x _ _ (HDb.out.kept hb1) HW.out (HTb.out.below hb1) hs).mono ?_; rintro e w2 ⟨rfl, hb2⟩) | (go_at_call 68; refine (leastLI k v n x y _ HTb.out h0 h1).mono ?_; rintro e w1 ⟨rfl, hb1⟩)))
  have HB4 := Hid.mk (below_then (below_then (below_then (below_then hB.out.drew hb1) hb2) hb3) hb4)
  clear hb1 hb2 hb3 hb4 HTb HDb HDb' HT HD HD'
  go_wp2
  all_goals go_ret
  all_goals refine ⟨ret_i ?_, HB4.out⟩
  all_goals first | rfl | omega

def mx (ts : Nat → Tr) : Nat → Int
  | 0 => 0
  | n + 1 => if mx ts n < (ts n).nst then (ts n).nst else mx ts n
theorem mx_bd (ts : Nat → Tr) (n : Nat) (h : ∀ i, i < n → (ts i).sz ≤ 1000000) : 0 ≤ mx ts n ∧ mx ts n ≤ 2000000 := by
  induction n with
  | zero => simp [mx]
  | succ n ih =>
    have := ih (fun i hi => h i (by omega))
    have := nst_bd (ts n)
    have := h n (by omega)
    unfold mx
    split <;> omega

set_option maxHeartbeats 1600000 in
set_option maxRecDepth 100000 in
theorem callNestI (N : Nat) (ts : Nat → Tr) (vs : Nat → Value) (k v : Int) (n : ByteArray) (g off c : Nat) (w : World) (hN : ∀ i, i < N → NestOk (ts i)) (hD : ∀ i, i < N → Nd w none (vs i) (ts i)) (hc : ∀ i, i < N → w.cell? ⟨g, off + i, none⟩ = some (vs i)) (hT : TabB w) (hs : ∀ i, i < N → (ts i).sz ≤ 1000000) (hn : N ≤ 3) :
    Calls Tryz.prog 120 #[.agg #[.int .i64 k, .int .i64 v, .string n, .slice (some ⟨g, off, none⟩) N c]] w fun e w' => e = .returned (.int .i64 (1 + mx ts N)) ∧ Below w.heap.size w w' := by
  have HN := Hid.mk hN
  have HD := Hid.mk hD
  have HC := Hid.mk hc
  have HT := Hid.mk hT
  have HS := Hid.mk hs
  clear hN hD hc hT hs
  go_enter Tryz.func120, Tryz.ntmps120
  go_wp2
  go_loopw [3, 9] (fun m i wr => ∃ j : Nat, j ≤ N ∧ i = .int .i64 (j : Int) ∧ m = .int .i64 (mx ts j) ∧ Hid (Below w.heap.size w wr)) (fun _ i _ => N - (intOf i).toNat)
  case atStart => exact ⟨0, Nat.zero_le _, rfl, rfl, by unfold Hid; go_grown⟩
  case round =>
    obtain ⟨j, hj, rfl, rfl, hb⟩ := hrel
    have m0 := mx_bd ts j (fun i hi => HS.out i (by omega))
    obtain ⟨m0, m1⟩ := m0
    by_cases hlt : j < N
    · have e0 := cell_keep hb.out (HC.out j hlt)
      have k0 : (0 : Int) ≤ (j : Int) := by omega
      have k1 : (j : Int) < (N : Int) := by omega
      have D := Hid.mk ((HD.out j hlt).kept hb.out)
      have NO := Hid.mk (HN.out j hlt)
      have hsz := HS.out j hlt
      have hnb := nst_bd (ts j)
      obtain ⟨T, u, hu⟩ := (HD.out j hlt).form
      have hmx : Hid (mx ts (j + 1) = if mx ts j < (ts j).nst then (ts j).nst else mx ts j) := rfl
      obtain ⟨M, hM⟩ : ∃ M, M = mx ts (j + 1) := ⟨_, rfl⟩
      have HM := Hid.mk hM
      clear hM
      generalize hx : vs j = x at e0 D hu
      generalize hy : ts j = t at D NO hsz hnb hmx
      subst hu
      clear hx hy
      have D' := D.out
      obtain ⟨q, hq⟩ : ∃ q, q = t.nst := ⟨_, rfl⟩
      have Q0 : 0 ≤ q ∧ q ≤ 2000000 := by omega
      obtain ⟨q0, q1⟩ := Q0
      have HQ := Hid.mk hq
      clear hq hsz hnb
      have hr : Hid (∀ w', Below w.heap.size w w' → (∃ j_1 : Nat, j_1 ≤ N ∧ Value.int .i64 ((j : Int) + 1) = .int .i64 (j_1 : Int) ∧ Value.int .i64 (if mx ts j < q then q else mx ts j) = .int .i64 (mx ts j_1) ∧ Hid (Below w.heap.size w w'))) := fun w' h => ⟨j + 1, by omega, by go_num, by rw [hmx.out, HQ.out], h⟩
      cases D'
      all_goals
        go_wp2_with fail
        refine (NO.out _ _ _ D.out (HT.out.below hb.out)).mono ?_
        rintro e w2 ⟨rfl, hb2⟩
        rw [← HQ.out]
        have HB2 := Hid.mk (below_then hb.out hb2)
        clear hb2 e0
        go_wp2
        exact ⟨hr.out _ HB2.out, by simp [intOf]; omega⟩
    · obtain rfl : j = N := by omega
      have k1 : decide ((j : Int) < (j : Int)) = false := by simp
      go_wp2
      go_ret
      exact ⟨rfl, hb.out⟩

theorem nestOk (t : Tr) (hw : t.wf) (hs : t.sz ≤ 1000000) : NestOk t := by
  induction t with
  | leaf o => intro w T u h hT; cases h; exact leafNestI _ w
  | pre o a ih =>
    simp only [Tr.wf] at hw
    simp only [Tr.sz] at hs
    intro w T u h hT
    cases h with
    | pre _ v _ h => exact preNestI a (ih hw.2 (by omega)) _ _ _ v w h hw.2 hT (by omega)
  | bin o a b ih ih' =>
    simp only [Tr.wf] at hw
    simp only [Tr.sz] at hs
    intro w T u h hT
    cases h with
    | bin _ v u _ _ h h' => exact binNestI a b (ih hw.2.1 (by omega)) (ih' hw.2.2 (by omega)) _ _ _ v u w h h' hw.2.1 hw.2.2 hT (by omega) (by omega) hw.1.2.1 hw.1.2.2
  | two o a b ih ih' =>
    simp only [Tr.wf] at hw
    simp only [Tr.sz] at hs
    have i1 := ih hw.2.1 (by omega)
    have i2 := ih' hw.2.2 (by omega)
    intro w T u h hT
    cases h with
    | two _ g off c v u _ _ hr hk c1 c2 h h' =>
      have key := callNestI 2 (fun i => if i = 0 then a else b) (fun i => if i = 0 then v else u) o.k o.v ⟨o.n.toArray⟩ g off c w (fun i hi => by by_cases e : i = 0 <;> simp [e, i1, i2]) (fun i hi => by by_cases e : i = 0 <;> simp [e, h, h']) (fun i hi => by
        have : i = 0 ∨ i = 1 := by omega
        rcases this with rfl | rfl <;> simp [c1, c2]) hT (fun i hi => by by_cases e : i = 0 <;> simp [e] <;> omega) (by omega)
      have e : 1 + mx (fun i => if i = 0 then a else b) 2 = (Tr.two o a b).nst := by
        have := nst_bd a; have := nst_bd b
        simp only [mx, Tr.nst]; simp; split <;> split <;> omega
      rw [e] at key
      exact key
  | three o a b d ih ih' ih'' =>
    simp only [Tr.wf] at hw
    simp only [Tr.sz] at hs
    have i1 := ih hw.2.1 (by omega)
    have i2 := ih' hw.2.2.1 (by omega)
    have i3 := ih'' hw.2.2.2 (by omega)
    intro w T u h hT
    cases h with
    | three _ g off c v u x _ _ _ hr hk c1 c2 c3 h h' h'' =>
      have key := callNestI 3 (fun i => if i = 0 then a else if i = 1 then b else d) (fun i => if i = 0 then v else if i = 1 then u else x) o.k o.v ⟨o.n.toArray⟩ g off c w (fun i hi => by by_cases e : i = 0 <;> by_cases e' : i = 1 <;> simp [e, e', i1, i2, i3]) (fun i hi => by by_cases e : i = 0 <;> by_cases e' : i = 1 <;> simp [e, e', h, h', h'']) (fun i hi => by
        have : i = 0 ∨ i = 1 ∨ i = 2 := by omega
        rcases this with rfl | rfl | rfl <;> simp [c1, c2, c3]) hT (fun i hi => by by_cases e : i = 0 <;> by_cases e' : i = 1 <;> simp [e, e'] <;> omega) (by omega)
      have e : 1 + mx (fun i => if i = 0 then a else if i = 1 then b else d) 3 = (Tr.three o a b d).nst := by
        have := nst_bd a; have := nst_bd b; have := nst_bd d
        simp only [mx, Tr.nst]; simp; split <;> split <;> split <;> omega
      rw [e] at key
      exact key
end Go.Proofs.YthobdaeglhdhnaaGreatDoor.Syn
