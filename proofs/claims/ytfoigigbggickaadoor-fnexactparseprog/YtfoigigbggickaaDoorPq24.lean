import Derived.Test.YtfoigigbggickaaDoorPq23
namespace Go.Proofs.YtfoigigbggickaaDoor.Par
open Go Go.RowKit Go.Proofs.YtfoigigbggickaaDoor.Mem Go.Proofs.YtfoigigbggickaaDoor.Syn Go.Proofs.YtfoigigbggickaaDoor.Parse
set_option linter.unusedVariables false
set_option linter.unusedSimpArgs false
attribute [local go_sem ↓] Go.wp_at_zero Go.wp_at_succ


theorem numD (t : List UInt8) (g N c : Nat) (s : Sg) (b : Bool) (w : World) (hT : Tq t N g w) (hN : Nf t N) (hi : s.i < N) :
    Calls Tryd.prog 28 #[s.v g N c, .bool b] w fun e' w' => NumO t g N c s (if b = true then sgnP (tkT t) else numP (tkT t)) w e' w' := by
  obtain ⟨i, o, e, a⟩ := s
  have hi : i < N := hi
  by_cases he : e ≠ 0
  · refine (numErr g N c i o e a b w he).mono ?_
    rintro e' w' ⟨rfl, hb⟩
    exact ⟨⟨i, o, e, a⟩, 0, rfl, hi, rfl, by rw [den_bad he]; rfl, hb⟩
  obtain rfl : e = 0 := Classical.byContradiction he
  by_cases hm : b = true ∧ (tkT t i).k = 10
  · have hm2 : (tkT t i).k = 10 := hm.2
    obtain rfl : b = true := hm.1
    clear hm
    have hm := hm2
    have hj : i + 1 < N := hN.next hi (by rw [hm]; decide) (by rw [hm]; decide)
    rw [if_pos rfl]
    by_cases hg : (tkT t (i + 1)).k = 1
    · refine (numM1 t g N c i o a w hT hi hj hN.le hm hg).mono ?_
      rintro e' w' ⟨rfl, hb⟩
      refine ⟨⟨i + 2, o, 0, a⟩, _, rfl, hN.next hj (by omega) (by omega), rfl, ?_, hb⟩
      rw [den_ok (i := i) (by omega), bnd_ok]
      unfold sgnP numP
      rw [if_pos hm]
      unfold exp
      rw [show adv (tkT t) i = .ok (i + 1) by unfold adv; rw [if_neg (by omega), if_neg (by omega)], bnd_ok, if_pos hg, den_adv]
      cases adv (tkT t) (i + 1) <;> rfl
    · refine (numM0 t g N c i o a w hT hi hj hN.le hm hg).mono ?_
      rintro e' w' ⟨rfl, hb⟩
      refine ⟨⟨i + 1, o, fcode 4 (tkT t (i + 1)), (tkT t (i + 1)).at'⟩, _, rfl, hj, rfl, ?_, hb⟩
      rw [den_ok (i := i) (by omega), bnd_ok]
      rw [den_fail (T := tkT t) (i := i + 1) (o := o) (o' := o) (a := a) (c := 4) (by decide) (G := fun j => (numP (tkT t) j).bnd fun x => .ok (-x.1, x.2)) (tk_le t _) (fun _ => by unfold numP exp; rw [if_neg hg]; rfl)]
      unfold sgnP
      rw [if_pos hm, den_adv]
  · have hG : (if b = true then sgnP (tkT t) else numP (tkT t)) i = numP (tkT t) i := by
      by_cases hb : b = true
      · rw [if_pos hb]; unfold sgnP; rw [if_neg (fun e => hm ⟨hb, e⟩)]
      · rw [if_neg hb]
    have hR : ∀ x : Int, ((tkT t i).k = 1 → x = (tkT t i).v) → (tkT t i).k = 1 → (den (tkT t) ⟨i + 1, o, 0, a⟩).bnd (fun j => Rs.ok (x, j)) = (den (tkT t) ⟨i, o, 0, a⟩).bnd (if b = true then sgnP (tkT t) else numP (tkT t)) := fun x hx hg => by
      rw [den_ok (i := i) (by omega), bnd_ok, hG, den_adv]
      unfold numP exp
      rw [if_pos hg, hx hg]
    have hF : (tkT t i).k ≠ 1 → ∀ x : Int, (den (tkT t) ⟨i, o, fcode 4 (tkT t i), (tkT t i).at'⟩).bnd (fun j => Rs.ok (x, j)) = (den (tkT t) ⟨i, o, 0, a⟩).bnd (if b = true then sgnP (tkT t) else numP (tkT t)) := fun hg x =>
      den_fail (T := tkT t) (i := i) (o := o) (o' := o) (a := a) (c := 4) (by decide) (tk_le t _) (fun _ => by rw [hG]; unfold numP exp; rw [if_neg hg]; rfl)
    by_cases hg : (tkT t i).k = 1
    · cases b with
      | true =>
        refine (numT1 t g N c i o a w hT hi hi hN.le (fun e => hm ⟨rfl, e⟩) hg).mono ?_
        rintro e' w' ⟨rfl, hb⟩
        exact ⟨⟨i + 1, o, 0, a⟩, _, rfl, hN.next hi (by omega) (by omega), rfl, hR _ (fun _ => rfl) hg, hb⟩
      | false =>
        refine (numF1 t g N c i o a w hT hi hi hN.le hg).mono ?_
        rintro e' w' ⟨rfl, hb⟩
        exact ⟨⟨i + 1, o, 0, a⟩, _, rfl, hN.next hi (by omega) (by omega), rfl, hR _ (fun _ => rfl) hg, hb⟩
    · cases b with
      | true =>
        refine (numT0 t g N c i o a w hT hi hi hN.le (fun e => hm ⟨rfl, e⟩) hg).mono ?_
        rintro e' w' ⟨rfl, hb⟩
        exact ⟨⟨i, o, fcode 4 (tkT t i), (tkT t i).at'⟩, _, rfl, hi, rfl, hF hg _, hb⟩
      | false =>
        refine (numF0 t g N c i o a w hT hi hi hN.le hg).mono ?_
        rintro e' w' ⟨rfl, hb⟩
        exact ⟨⟨i, o, fcode 4 (tkT t i), (tkT t i).at'⟩, _, rfl, hi, rfl, hF hg _, hb⟩
theorem tagD (t : List UInt8) (g N c : Nat) (s : Sg) (w : World) (hT : Tq t N g w) (hN : Nf t N) (hi : s.i < N) :
    Calls Tryd.prog 29 #[s.v g N c] w fun e' w' => NumO t g N c s (tagP (tkT t)) w e' w' := by
  obtain ⟨i, o, e, a⟩ := s
  have hi : i < N := hi
  by_cases he : e ≠ 0
  · refine (tagErr g N c i o e a w he).mono ?_
    rintro e' w' ⟨rfl, hb⟩
    exact ⟨⟨i, o, e, a⟩, 0, rfl, hi, rfl, by rw [den_bad he]; rfl, hb⟩
  obtain rfl : e = 0 := Classical.byContradiction he
  by_cases hg : tagT (tkT t i) = true
  · have h50 := tk_tag t i hg
    have h0 : (tkT t i).k ≠ 0 := by
      have hk := ((tagT_iff (tk_cl t i)).1 hg).1
      intro e
      unfold kS at hk
      rw [if_pos e] at hk
      cases hk
    refine (tagG t g N c i o a w hT hi hN.le hg).mono ?_
    rintro e' w' ⟨rfl, hb⟩
    refine ⟨⟨i + 1, o, 0, a⟩, _, rfl, hN.next hi h0 h50, rfl, ?_, hb⟩
    rw [den_ok (i := i) h50, bnd_ok, den_adv]
    unfold tagP
    rw [if_pos hg]
  · have hF : ∀ x : Int, (den (tkT t) ⟨i, o, fcode 4 (tkT t i), (tkT t i).at'⟩).bnd (fun j => Rs.ok (x, j)) = (den (tkT t) ⟨i, o, 0, a⟩).bnd (tagP (tkT t)) := fun x =>
      den_fail (T := tkT t) (i := i) (o := o) (o' := o) (a := a) (c := 4) (by decide) (tk_le t _) (fun _ => by unfold tagP; rw [if_neg hg])
    by_cases hk : kS (tkT t i) = 1
    · refine (tagN t g N c i o a w hT hi hN.le hk hg).mono ?_
      rintro e' w' ⟨rfl, hb⟩
      exact ⟨⟨i, o, fcode 4 (tkT t i), (tkT t i).at'⟩, _, rfl, hi, rfl, hF _, hb⟩
    · refine (tagW t g N c i o a w hT hi hN.le hk).mono ?_
      rintro e' w' ⟨rfl, hb⟩
      exact ⟨⟨i, o, fcode 4 (tkT t i), (tkT t i).at'⟩, _, rfl, hi, rfl, hF _, hb⟩
end Go.Proofs.YtfoigigbggickaaDoor.Par
namespace Go.Proofs.YtfoigigbggickaaDoor.Par
open Go Go.RowKit Go.Proofs.YtfoigigbggickaaDoor.Mem Go.Proofs.YtfoigigbggickaaDoor.Syn Go.Proofs.YtfoigigbggickaaDoor.Parse
set_option linter.unusedVariables false
set_option linter.unusedSimpArgs false
attribute [local go_sem ↓] Go.wp_at_zero Go.wp_at_succ

/-- What a token is as a leaf: has and skill ahead of their tag. -/
def leafR (x : Tk) : Bool × Po := if x.k = 48 then (true, ⟨4, 0, []⟩) else if x.k = 49 then (true, ⟨5, 0, []⟩) else match wop x with
  | some p => (true, p)
  | none => (false, ⟨0, 0, []⟩)
def tokV (x : Tk) : Value := .agg #[.int .i64 (kS x), .int .i64 x.v, .string ⟨(wS x).toArray⟩, .int .i64 (x.at' : Int)]
def opA (p : Po) : Value := .agg #[.int .i64 p.k, .int .i64 p.v, .string ⟨p.n.toArray⟩]

set_option maxHeartbeats 3200000 in
set_option maxRecDepth 1000000 in
theorem leafN (x : Tk) (w : World) (hk : kS x = 2) :
    Calls Tryd.prog 41 #[tokV x] w fun e' w' => e' = .returned (.tuple #[.bool true, opA ⟨1, x.v, []⟩]) ∧ Below w.heap.size w w' := by
  unfold tokV opA
  have q1 : (kS x == 2) = true := by rw [hk]; rfl
  clear hk
  obtain ⟨W1, hW1⟩ : ∃ Zz, Zz = (w.alloc (.cells #[.int .i64 (kS x), .int .i64 x.v, .string ⟨(wS x).toArray⟩, .int .i64 (x.at' : Int)] 40)).alloc (.cells #[.int .i64 0, .int .i64 0, .string ⟨#[]⟩] 82) := ⟨_, rfl⟩
  have A1 : Hid (Below w.heap.size w W1) := by rw [hW1]; exact below_alloc' (below_alloc' (Below.refl _ _) _) _
  have Ht1 : Hid (W1.heap[w.heap.size]? = some (.cells #[.int .i64 (kS x), .int .i64 x.v, .string ⟨(wS x).toArray⟩, .int .i64 (x.at' : Int)] 40)) := by rw [hW1]; exact blk_alloc (blk_new _ _) _
  have Hr1 : Hid (W1.heap[w.heap.size + 1]? = some (.cells #[.int .i64 0, .int .i64 0, .string ⟨#[]⟩] 82)) := by rw [hW1]; exact blk_new1 _ _ _
  go_enter Tryd.func41, Tryd.ntmps41
  go_upto_region 2 with fail
  rw [← hW1]
  clear hW1
  have t0 := (blk_cell Ht1.out 0).trans rfl
  have t1 := (blk_cell Ht1.out 1).trans rfl
  have t2 := (blk_cell Ht1.out 2).trans rfl
  have t3 := (blk_cell Ht1.out 3).trans rfl
  have r0 := (blk_cell Hr1.out 0).trans rfl
  have r1 := (blk_cell Hr1.out 1).trans rfl
  have r2 := (blk_cell Hr1.out 2).trans rfl
  have fr0 := blk_unfrozen Hr1.out 0
  have fr1 := blk_unfrozen Hr1.out 1
  have fr2 := blk_unfrozen Hr1.out 2
  go_region
  clear t0 t1 t2 t3 r0 r1 r2 fr0 fr1 fr2
  obtain ⟨Y, hY⟩ : ∃ Zz, Zz = (((W1.setCell ⟨w.heap.size + 1, 0, none⟩ (.int .i64 1)).setCell ⟨w.heap.size + 1, 1, none⟩ (.int .i64 x.v)).setCell ⟨w.heap.size + 1, 2, none⟩ (.string ⟨#[]⟩)).drew := ⟨_, rfl⟩
  rw [← hY]
  have A2 : Hid (Below w.heap.size w Y) := by rw [hY]; exact ((((A1.out.setCell (p := ⟨w.heap.size + 1, 0, none⟩) (by simp) _).setCell (p := ⟨w.heap.size + 1, 1, none⟩) (by simp) _).setCell (p := ⟨w.heap.size + 1, 2, none⟩) (by simp) _)).drew
  have Hr2 : Hid (Y.heap[w.heap.size + 1]? = some (.cells #[.int .i64 1, .int .i64 x.v, .string ⟨#[]⟩] 82)) := by rw [hY]; exact (blk_set (blk_set (blk_set Hr1.out 0 _) 1 _) 2 _)
  clear hY
  have r0 := (blk_cell Hr2.out 0).trans rfl
  have r1 := (blk_cell Hr2.out 1).trans rfl
  have r2 := (blk_cell Hr2.out 2).trans rfl
  go_wp2
  refine bodyPost_ret (by simp [results, Tryd.results41, go_sem, r0, r1, r2]; try rfl) rfl ?_
  exact ⟨rfl, A2.out⟩

set_option maxHeartbeats 3200000 in
set_option maxRecDepth 1000000 in
theorem leafX (x : Tk) (w : World) (hk : kS x ≠ 2) (hk1 : kS x ≠ 1) :
    Calls Tryd.prog 41 #[tokV x] w fun e' w' => e' = .returned (.tuple #[.bool false, opA ⟨0, 0, []⟩]) ∧ Below w.heap.size w w' := by
  unfold tokV opA
  have q1 : (kS x == 2) = false := by simpa using hk
  clear hk
  go_enter Tryd.func41, Tryd.ntmps41
  go_wp2
  refine bodyPost_ret (by simp [results, Tryd.results41, go_sem]; try rfl) rfl ?_
  exact ⟨rfl, by go_grown⟩

set_option maxHeartbeats 3200000 in
set_option maxRecDepth 1000000 in
theorem leaf29 (x : Tk) (w : World) (hn : x.n ≠ []) (hk : x.k = wk x.n) (hc : x.k = 29) :
    Calls Tryd.prog 41 #[tokV x] w fun e' w' => e' = .returned (.tuple #[.bool true, opA ⟨6, 1, []⟩]) ∧ Below w.heap.size w w' := by
  unfold tokV opA
  obtain ⟨q1, q2, q3⟩ : (kS x == 2) = false ∧ (kS x != 1) = false ∧ Hid (wS x = x.n) := by rw [(Tc.kS_word hn hk).1]; exact ⟨rfl, rfl, (Tc.kS_word hn hk).2⟩
  have u29 : (wS x == [116, 114, 117, 101]) = true := by rw [q3.out]; refine (eqW x.n 29 (by omega) (by omega)).trans ?_; rw [← hk]; simp; omega
  clear hn hk hc
  go_enter Tryd.func41, Tryd.ntmps41
  go_wp2
  refine bodyPost_ret (by simp [results, Tryd.results41, go_sem]; try rfl) rfl ?_
  exact ⟨rfl, by go_grown⟩

set_option maxHeartbeats 3200000 in
set_option maxRecDepth 1000000 in
theorem leaf28 (x : Tk) (w : World) (hn : x.n ≠ []) (hk : x.k = wk x.n) (hc : x.k = 28) :
    Calls Tryd.prog 41 #[tokV x] w fun e' w' => e' = .returned (.tuple #[.bool true, opA ⟨6, 0, []⟩]) ∧ Below w.heap.size w w' := by
  unfold tokV opA
  obtain ⟨q1, q2, q3⟩ : (kS x == 2) = false ∧ (kS x != 1) = false ∧ Hid (wS x = x.n) := by rw [(Tc.kS_word hn hk).1]; exact ⟨rfl, rfl, (Tc.kS_word hn hk).2⟩
  have u29 : (wS x == [116, 114, 117, 101]) = false := by rw [q3.out]; refine (eqW x.n 29 (by omega) (by omega)).trans ?_; rw [← hk]; simp; omega
  have u28 : (wS x == [102, 97, 108, 115, 101]) = true := by rw [q3.out]; refine (eqW x.n 28 (by omega) (by omega)).trans ?_; rw [← hk]; simp; omega
  clear hn hk hc
  go_enter Tryd.func41, Tryd.ntmps41
  go_wp2
  refine bodyPost_ret (by simp [results, Tryd.results41, go_sem]; try rfl) rfl ?_
  exact ⟨rfl, by go_grown⟩

set_option maxHeartbeats 3200000 in
set_option maxRecDepth 1000000 in
theorem leaf48 (x : Tk) (w : World) (hn : x.n ≠ []) (hk : x.k = wk x.n) (hc : x.k = 48) :
    Calls Tryd.prog 41 #[tokV x] w fun e' w' => e' = .returned (.tuple #[.bool true, opA ⟨4, 0, []⟩]) ∧ Below w.heap.size w w' := by
  unfold tokV opA
  obtain ⟨q1, q2, q3⟩ : (kS x == 2) = false ∧ (kS x != 1) = false ∧ Hid (wS x = x.n) := by rw [(Tc.kS_word hn hk).1]; exact ⟨rfl, rfl, (Tc.kS_word hn hk).2⟩
  have u29 : (wS x == [116, 114, 117, 101]) = false := by rw [q3.out]; refine (eqW x.n 29 (by omega) (by omega)).trans ?_; rw [← hk]; simp; omega
  have u28 : (wS x == [102, 97, 108, 115, 101]) = false := by rw [q3.out]; refine (eqW x.n 28 (by omega) (by omega)).trans ?_; rw [← hk]; simp; omega
  have u48 : (wS x == [104, 97, 115]) = true := by rw [q3.out]; refine (eqW x.n 48 (by omega) (by omega)).trans ?_; rw [← hk]; simp; omega
  clear hn hk hc
  go_enter Tryd.func41, Tryd.ntmps41
  go_wp2
  refine bodyPost_ret (by simp [results, Tryd.results41, go_sem]; try rfl) rfl ?_
  exact ⟨rfl, by go_grown⟩

set_option maxHeartbeats 3200000 in
set_option maxRecDepth 1000000 in
theorem leaf49 (x : Tk) (w : World) (hn : x.n ≠ []) (hk : x.k = wk x.n) (hc : x.k = 49) :
    Calls Tryd.prog 41 #[tokV x] w fun e' w' => e' = .returned (.tuple #[.bool true, opA ⟨5, 0, []⟩]) ∧ Below w.heap.size w w' := by
  unfold tokV opA
  obtain ⟨q1, q2, q3⟩ : (kS x == 2) = false ∧ (kS x != 1) = false ∧ Hid (wS x = x.n) := by rw [(Tc.kS_word hn hk).1]; exact ⟨rfl, rfl, (Tc.kS_word hn hk).2⟩
  have u29 : (wS x == [116, 114, 117, 101]) = false := by rw [q3.out]; refine (eqW x.n 29 (by omega) (by omega)).trans ?_; rw [← hk]; simp; omega
  have u28 : (wS x == [102, 97, 108, 115, 101]) = false := by rw [q3.out]; refine (eqW x.n 28 (by omega) (by omega)).trans ?_; rw [← hk]; simp; omega
  have u48 : (wS x == [104, 97, 115]) = false := by rw [q3.out]; refine (eqW x.n 48 (by omega) (by omega)).trans ?_; rw [← hk]; simp; omega
  have u49 : (wS x == [115, 107, 105, 108, 108]) = true := by rw [q3.out]; refine (eqW x.n 49 (by omega) (by omega)).trans ?_; rw [← hk]; simp; omega
  clear hn hk hc
  go_enter Tryd.func41, Tryd.ntmps41
  go_wp2
  refine bodyPost_ret (by simp [results, Tryd.results41, go_sem]; try rfl) rfl ?_
  exact ⟨rfl, by go_grown⟩

set_option maxHeartbeats 3200000 in
set_option maxRecDepth 1000000 in
theorem leafA (x : Tk) (w : World) (hn : x.n ≠ []) (hk : x.k = wk x.n) (hc : 30 ≤ x.k ∧ x.k ≤ 42) :
    Calls Tryd.prog 41 #[tokV x] w fun e' w' => e' = .returned (.tuple #[.bool true, opA ⟨3, (x.k : Int) - 30, []⟩]) ∧ Below w.heap.size w w' := by
  unfold tokV opA
  obtain ⟨q1, q2, q3⟩ : (kS x == 2) = false ∧ (kS x != 1) = false ∧ Hid (wS x = x.n) := by rw [(Tc.kS_word hn hk).1]; exact ⟨rfl, rfl, (Tc.kS_word hn hk).2⟩
  have u29 : (wS x == [116, 114, 117, 101]) = false := by rw [q3.out]; refine (eqW x.n 29 (by omega) (by omega)).trans ?_; rw [← hk]; simp; omega
  have u28 : (wS x == [102, 97, 108, 115, 101]) = false := by rw [q3.out]; refine (eqW x.n 28 (by omega) (by omega)).trans ?_; rw [← hk]; simp; omega
  have u48 : (wS x == [104, 97, 115]) = false := by rw [q3.out]; refine (eqW x.n 48 (by omega) (by omega)).trans ?_; rw [← hk]; simp; omega
  have u49 : (wS x == [115, 107, 105, 108, 108]) = false := by rw [q3.out]; refine (eqW x.n 49 (by omega) (by omega)).trans ?_; rw [← hk]; simp; omega
  have CA : Hid (∀ W, Calls Tryd.prog 39 #[.string ⟨(wS x).toArray⟩] W fun e w' => e = .returned (.int .i64 ((x.k : Int) - 30)) ∧ w' = W) := fun W => by
    have := attrOfS x.n W
    rw [atF_wk, ← hk, if_pos hc] at this
    rw [q3.out]; exact this
  have k0 : (0 : Int) ≤ (x.k : Int) - 30 := by omega
  clear hn hk hc
  go_enter Tryd.func41, Tryd.ntmps41
  go_wp2_with (go_at_call 39; go_must (refine (CA.out _).mono ?_; rintro e w' ⟨rfl, hww⟩; rw [hww]; clear hww))
  refine bodyPost_ret (by simp [results, Tryd.results41, go_sem]; try rfl) rfl ?_
  exact ⟨rfl, by go_grown⟩

set_option maxHeartbeats 3200000 in
set_option maxRecDepth 1000000 in
theorem leafM (x : Tk) (w : World) (hn : x.n ≠ []) (hk : x.k = wk x.n) (hc : x.k = 2) :
    Calls Tryd.prog 41 #[tokV x] w fun e' w' => e' = .returned (.tuple #[.bool true, opA ⟨2, 0, wS x⟩]) ∧ Below w.heap.size w w' := by
  unfold tokV opA
  obtain ⟨q1, q2, q3⟩ : (kS x == 2) = false ∧ (kS x != 1) = false ∧ Hid (wS x = x.n) := by rw [(Tc.kS_word hn hk).1]; exact ⟨rfl, rfl, (Tc.kS_word hn hk).2⟩
  have u29 : (wS x == [116, 114, 117, 101]) = false := by rw [q3.out]; refine (eqW x.n 29 (by omega) (by omega)).trans ?_; rw [← hk]; simp; omega
  have u28 : (wS x == [102, 97, 108, 115, 101]) = false := by rw [q3.out]; refine (eqW x.n 28 (by omega) (by omega)).trans ?_; rw [← hk]; simp; omega
  have u48 : (wS x == [104, 97, 115]) = false := by rw [q3.out]; refine (eqW x.n 48 (by omega) (by omega)).trans ?_; rw [← hk]; simp; omega
  have u49 : (wS x == [115, 107, 105, 108, 108]) = false := by rw [q3.out]; refine (eqW x.n 49 (by omega) (by omega)).trans ?_; rw [← hk]; simp; omega
  have CA : Hid (∀ W, Calls Tryd.prog 39 #[.string ⟨(wS x).toArray⟩] W fun e w' => e = .returned (.int .i64 (-1)) ∧ w' = W) := fun W => by
    have := attrOfS x.n W
    rw [atF_wk, ← hk, if_neg (by omega)] at this
    rw [q3.out]; exact this
  have CR : Hid (∀ W, Calls Tryd.prog 24 #[.string ⟨(wS x).toArray⟩] W fun e w' => e = .returned (.bool false) ∧ w' = W) := fun W => by
    have := reservedS x.n W
    rw [res_wk, ← hk] at this
    rw [q3.out, show false = decide (x.k ≠ 2) by simp; omega]; exact this
  clear hn hk hc
  obtain ⟨W1, hW1⟩ : ∃ Zz, Zz = (w.alloc (.cells #[.int .i64 (kS x), .int .i64 x.v, .string ⟨(wS x).toArray⟩, .int .i64 (x.at' : Int)] 40)).alloc (.cells #[.int .i64 0, .int .i64 0, .string ⟨#[]⟩] 82) := ⟨_, rfl⟩
  have A1 : Hid (Below w.heap.size w W1) := by rw [hW1]; exact below_alloc' (below_alloc' (Below.refl _ _) _) _
  have Ht1 : Hid (W1.heap[w.heap.size]? = some (.cells #[.int .i64 (kS x), .int .i64 x.v, .string ⟨(wS x).toArray⟩, .int .i64 (x.at' : Int)] 40)) := by rw [hW1]; exact blk_alloc (blk_new _ _) _
  have Hr1 : Hid (W1.heap[w.heap.size + 1]? = some (.cells #[.int .i64 0, .int .i64 0, .string ⟨#[]⟩] 82)) := by rw [hW1]; exact blk_new1 _ _ _
  go_enter Tryd.func41, Tryd.ntmps41
  go_upto_region 16 with (first | (go_at_call 39; go_must (refine (CA.out _).mono ?_; rintro e w' ⟨rfl, hww⟩; rw [hww]; clear hww)) | (go_at_call 24; go_must (refine (CR.out _).mono ?_; rintro e w' ⟨rfl, hww⟩; rw [hww]; clear hww)))
  rw [← hW1]
  clear hW1
  have t0 := (blk_cell Ht1.out 0).trans rfl
  have t1 := (blk_cell Ht1.out 1).trans rfl
  have t2 := (blk_cell Ht1.out 2).trans rfl
  have t3 := (blk_cell Ht1.out 3).trans rfl
  have r0 := (blk_cell Hr1.out 0).trans rfl
  have r1 := (blk_cell Hr1.out 1).trans rfl
  have r2 := (blk_cell Hr1.out 2).trans rfl
  have fr0 := blk_unfrozen Hr1.out 0
  have fr1 := blk_unfrozen Hr1.out 1
  have fr2 := blk_unfrozen Hr1.out 2
  go_region
  clear t0 t1 t2 t3 r0 r1 r2 fr0 fr1 fr2
  obtain ⟨Y, hY⟩ : ∃ Zz, Zz = (((W1.setCell ⟨w.heap.size + 1, 0, none⟩ (.int .i64 2)).setCell ⟨w.heap.size + 1, 1, none⟩ (.int .i64 0)).setCell ⟨w.heap.size + 1, 2, none⟩ (.string ⟨(wS x).toArray⟩)).drew := ⟨_, rfl⟩
  rw [← hY]
  have A2 : Hid (Below w.heap.size w Y) := by rw [hY]; exact ((((A1.out.setCell (p := ⟨w.heap.size + 1, 0, none⟩) (by simp) _).setCell (p := ⟨w.heap.size + 1, 1, none⟩) (by simp) _).setCell (p := ⟨w.heap.size + 1, 2, none⟩) (by simp) _)).drew
  have Hr2 : Hid (Y.heap[w.heap.size + 1]? = some (.cells #[.int .i64 2, .int .i64 0, .string ⟨(wS x).toArray⟩] 82)) := by rw [hY]; exact (blk_set (blk_set (blk_set Hr1.out 0 _) 1 _) 2 _)
  clear hY
  have r0 := (blk_cell Hr2.out 0).trans rfl
  have r1 := (blk_cell Hr2.out 1).trans rfl
  have r2 := (blk_cell Hr2.out 2).trans rfl
  go_wp2
  refine bodyPost_ret (by simp [results, Tryd.results41, go_sem, r0, r1, r2]; try rfl) rfl ?_
  exact ⟨rfl, A2.out⟩

set_option maxHeartbeats 3200000 in
set_option maxRecDepth 1000000 in
theorem leafO (x : Tk) (w : World) (hn : x.n ≠ []) (hk : x.k = wk x.n) (hc : (14 ≤ x.k ∧ x.k ≤ 27) ∨ (43 ≤ x.k ∧ x.k ≤ 47)) :
    Calls Tryd.prog 41 #[tokV x] w fun e' w' => e' = .returned (.tuple #[.bool false, opA ⟨0, 0, []⟩]) ∧ Below w.heap.size w w' := by
  unfold tokV opA
  obtain ⟨q1, q2, q3⟩ : (kS x == 2) = false ∧ (kS x != 1) = false ∧ Hid (wS x = x.n) := by rw [(Tc.kS_word hn hk).1]; exact ⟨rfl, rfl, (Tc.kS_word hn hk).2⟩
  have u29 : (wS x == [116, 114, 117, 101]) = false := by rw [q3.out]; refine (eqW x.n 29 (by omega) (by omega)).trans ?_; rw [← hk]; simp; omega
  have u28 : (wS x == [102, 97, 108, 115, 101]) = false := by rw [q3.out]; refine (eqW x.n 28 (by omega) (by omega)).trans ?_; rw [← hk]; simp; omega
  have u48 : (wS x == [104, 97, 115]) = false := by rw [q3.out]; refine (eqW x.n 48 (by omega) (by omega)).trans ?_; rw [← hk]; simp; omega
  have u49 : (wS x == [115, 107, 105, 108, 108]) = false := by rw [q3.out]; refine (eqW x.n 49 (by omega) (by omega)).trans ?_; rw [← hk]; simp; omega
  have CA : Hid (∀ W, Calls Tryd.prog 39 #[.string ⟨(wS x).toArray⟩] W fun e w' => e = .returned (.int .i64 (-1)) ∧ w' = W) := fun W => by
    have := attrOfS x.n W
    rw [atF_wk, ← hk, if_neg (by omega)] at this
    rw [q3.out]; exact this
  have CR : Hid (∀ W, Calls Tryd.prog 24 #[.string ⟨(wS x).toArray⟩] W fun e w' => e = .returned (.bool true) ∧ w' = W) := fun W => by
    have := reservedS x.n W
    rw [res_wk, ← hk] at this
    rw [q3.out, show true = decide (x.k ≠ 2) by simp; omega]; exact this
  clear hn hk hc
  go_enter Tryd.func41, Tryd.ntmps41
  go_wp2_with (first | (go_at_call 39; go_must (refine (CA.out _).mono ?_; rintro e w' ⟨rfl, hww⟩; rw [hww]; clear hww)) | (go_at_call 24; go_must (refine (CR.out _).mono ?_; rintro e w' ⟨rfl, hww⟩; rw [hww]; clear hww)))
  refine bodyPost_ret (by simp [results, Tryd.results41, go_sem]; try rfl) rfl ?_
  exact ⟨rfl, by go_grown⟩

theorem leafS (x : Tk) (h : Tc x) (w : World) :
    Calls Tryd.prog 41 #[tokV x] w fun e' w' => e' = .returned (.tuple #[.bool (leafR x).1, opA (leafR x).2]) ∧ Below w.heap.size w w' := by
  cases h with
  | fin h hk =>
    have : leafR x = (false, ⟨0, 0, []⟩) := by unfold leafR wop; rw [if_neg (by omega), if_neg (by omega), if_neg (by omega), if_neg (by omega), if_neg (by omega), if_neg (by omega)]
    rw [this]
    refine leafX x w ?_ ?_ <;> (unfold kS; rcases hk with e | e | e <;> rw [e] <;> simp)
  | num h hk =>
    have : leafR x = (true, ⟨1, x.v, []⟩) := by unfold leafR wop; rw [if_neg (by omega), if_neg (by omega), if_pos hk]
    rw [this]
    exact leafN x w ((kS2 x).2 hk)
  | sym h h3 h14 =>
    have : leafR x = (false, ⟨0, 0, []⟩) := by unfold leafR wop; rw [if_neg (by omega), if_neg (by omega), if_neg (by omega), if_neg (by omega), if_neg (by omega), if_neg (by omega)]
    rw [this]
    exact leafX x w (by rw [(Tc.kS_sym h h3 h14).1]; decide) (by rw [(Tc.kS_sym h h3 h14).1]; decide)
  | word h hk hl =>
    have h1 := wk_le x.n
    have h2 := wk_ge x.n
    by_cases c1 : x.k = 48
    · have : leafR x = (true, ⟨4, 0, []⟩) := by unfold leafR; rw [if_pos c1]
      rw [this]; exact leaf48 x w h hk c1
    by_cases c2 : x.k = 49
    · have : leafR x = (true, ⟨5, 0, []⟩) := by unfold leafR; rw [if_neg c1, if_pos c2]
      rw [this]; exact leaf49 x w h hk c2
    by_cases c3 : x.k = 2
    · have : leafR x = (true, ⟨2, 0, wS x⟩) := by unfold leafR wop; rw [if_neg c1, if_neg c2, if_neg (by omega), if_pos c3, (Tc.kS_word h hk).2]
      rw [this]; exact leafM x w h hk c3
    by_cases c4 : x.k = 28
    · have : leafR x = (true, ⟨6, 0, []⟩) := by unfold leafR wop; rw [if_neg c1, if_neg c2, if_neg (by omega), if_neg c3, if_pos (Or.inl c4), c4]; rfl
      rw [this]; exact leaf28 x w h hk c4
    by_cases c5 : x.k = 29
    · have : leafR x = (true, ⟨6, 1, []⟩) := by unfold leafR wop; rw [if_neg c1, if_neg c2, if_neg (by omega), if_neg c3, if_pos (Or.inr c5), c5]; rfl
      rw [this]; exact leaf29 x w h hk c5
    by_cases c6 : 30 ≤ x.k ∧ x.k ≤ 42
    · have : leafR x = (true, ⟨3, (x.k : Int) - 30, []⟩) := by unfold leafR wop; rw [if_neg c1, if_neg c2, if_neg (by omega), if_neg c3, if_neg (by omega), if_pos c6]
      rw [this]; exact leafA x w h hk c6
    · have : leafR x = (false, ⟨0, 0, []⟩) := by unfold leafR wop; rw [if_neg c1, if_neg c2, if_neg (by omega), if_neg c3, if_neg (by omega), if_neg c6]
      rw [this]; exact leafO x w h hk (by omega)
end Go.Proofs.YtfoigigbggickaaDoor.Par
