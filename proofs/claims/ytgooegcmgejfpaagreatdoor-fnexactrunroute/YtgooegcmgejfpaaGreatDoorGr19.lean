import Derived.Test.YtgooegcmgejfpaaGreatDoorGr13
import Derived.Deep.DrawnRows
import Derived.Lib.QuietBelow
import Derived.Test.YtgooegcmgejfpaaGreatDoorGr18
import Derived.Test.YtgooegcmgejfpaaGreatDoorGr16
import Derived.Deep.DeepCutAuto
namespace Go.Proofs.YtgooegcmgejfpaaGreatDoor.Travel
open Go Go.RowKit Go.Sort Go.Proofs.YtgooegcmgejfpaaGreatDoor.Mem Go.Proofs.YtgooegcmgejfpaaGreatDoor.Valid
set_option linter.unusedVariables false
attribute [local go_sem ↓] Go.wp_at_zero Go.wp_at_succ

def ab (x : Int) : Int := if x < 0 then -x else x
theorem ab_bd (x : Int) (h : -20000 ≤ x) (h' : x ≤ 20000) : 0 ≤ ab x ∧ ab x ≤ 20000 := by unfold ab; split <;> omega
theorem ab_max (x y : Int) : max (x - y) (y - x) = ab (x - y) := by unfold ab; split <;> omega

theorem absS (x : Int) (w : World) (h : -20000 ≤ x) (h' : x ≤ 20000) : Calls Tryz.prog 166 #[.int .i64 x] w fun e w' => e = .returned (.int .i64 (ab x)) ∧ w' = w := by
  unfold ab
  by_cases h0 : x < 0
  · rw [if_pos h0]
    go_enter Tryz.func166, Tryz.ntmps166
    go_wp2
    go_ret
    exact ⟨rfl, rfl⟩
  · rw [if_neg h0]
    go_enter Tryz.func166, Tryz.ntmps166
    go_wp2
    go_ret
    exact ⟨rfl, rfl⟩

theorem dist (x y : Int) (w : World) (h : -10000 ≤ x) (h' : x ≤ 10000) (k : -10000 ≤ y) (k' : y ≤ 10000) : Calls Tryz.prog 186 #[.int .i64 x, .int .i64 y] w fun e w' => e = .returned (.int .i64 (ab (x - y))) ∧ w' = w := by
  go_enter Tryz.func186, Tryz.ntmps186
  go_wp2
  all_goals (go_ret; exact ⟨congrArg (fun z => Ending.returned (.int .i64 z)) (by unfold ab; split <;> omega), rfl⟩)

structure Pl where
  (x y o c h : Int)
def Veh.pl (v : Veh) : Pl := ⟨v.x, v.y, v.o, v.c, v.h⟩
def Req.from (q : Req) : Pl := ⟨q.x, q.y, q.o, q.c, q.h⟩
def Req.to (q : Req) : Pl := ⟨q.x', q.y', q.o', q.c', q.h'⟩
/-- The place of a node: of a home, of a pickup, of a delivery. -/
def plOf (I : In) (n : Int) : Pl := if n < I.nV then Veh.pl (I.V n.toNat) else if (n - I.nV) % 2 = 0 then Req.from (I.Q ((n - I.nV) / 2).toNat) else Req.to (I.Q ((n - I.nV) / 2).toNat)

set_option maxHeartbeats 1600000 in
theorem placeOfS (a1 a2 a3 : Option Addr) (c1 c2 c3 : Nat) (I : In) (n : Int) (w : World) (h : InAt w a1 a2 a3 I) (h1 : I.nV ≤ 1048576) (h2 : I.nQ ≤ 1048576) (n0 : 0 ≤ n) (n1 : n ≤ nodes I - 1) :
    Calls Tryz.prog 88 #[.agg #[.slice a1 I.nV c1, .slice a2 I.nQ c2, .slice a3 I.nR c3], .int .i64 n] w fun e w' => e = .returned (.agg #[.int .i64 (plOf I n).x, .int .i64 (plOf I n).y, .int .i64 (plOf I n).o, .int .i64 (plOf I n).c, .int .i64 (plOf I n).h]) ∧ Below w.heap.size w w' := by
  unfold nodes at n1
  by_cases hv : n < I.nV
  · rw [show plOf I n = Veh.pl (I.V n.toNat) from by unfold plOf; rw [if_pos hv]]
    rcases h.v with hs | ⟨b, off, rfl, hs⟩
    · omega
    obtain ⟨m, rfl⟩ := Int.eq_ofNat_of_zero_le n0
    simp only [Int.toNat_natCast]
    obtain ⟨-, -, e2, e3, e4, e5, e6⟩ := Veh.at (hs m (by omega))
    have b0 := lt_of_cell e2
    have b1 : b < w.heap.size + 1 := by omega
    have f1 : w.cell? ⟨b, off + m * 7 + 2 + 1, none⟩ = _ := e3
    have f2 : w.cell? ⟨b, off + m * 7 + 2 + 2, none⟩ = _ := e4
    have f3 : w.cell? ⟨b, off + m * 7 + 2 + 3, none⟩ = _ := e5
    have f4 : w.cell? ⟨b, off + m * 7 + 2 + 4, none⟩ = _ := e6
    clear hs h n1 e3 e4 e5 e6
    go_enter Tryz.func88, Tryz.ntmps88
    go_wp2
    go_returns
    exact ⟨rfl, by go_grown⟩
  · rcases h.q with hs | ⟨b, off, rfl, hs⟩
    · omega
    obtain ⟨m, hm⟩ := Int.eq_ofNat_of_zero_le (show 0 ≤ (n - I.nV) / 2 by omega)
    have hmq : m < I.nQ := by omega
    have hd0 : (0 : Int) ≤ (m : Int) := by omega
    have hd1 : (m : Int) < (I.nQ : Int) := by omega
    obtain ⟨e0, e1, e2, e3, e4, e5, e6, e7, e8, e9, e10, e11⟩ := Req.at (hs m hmq)
    have b0 := lt_of_cell e0
    have b1 : b < w.heap.size + 1 := by omega
    have hge : (I.nV : Int) ≤ n := by omega
    by_cases hr : (n - I.nV) % 2 = 0
    · rw [show plOf I n = Req.from (I.Q m) from by unfold plOf; rw [if_neg hv, if_pos hr, hm]; rfl]
      have hr' : ((n - I.nV) % 2 == 0) = true := by simpa using hr
      clear hs h hr
      go_enter Tryz.func88, Tryz.ntmps88
      go_wp2
      go_returns
      exact ⟨rfl, by go_grown⟩
    · rw [show plOf I n = Req.to (I.Q m) from by unfold plOf; rw [if_neg hv, if_neg hr, hm]; rfl]
      have hr' : ((n - I.nV) % 2 == 0) = false := by simpa using hr
      clear hs h hr
      go_enter Tryz.func88, Tryz.ntmps88
      go_wp2
      go_returns
      exact ⟨rfl, by go_grown⟩

set_option maxHeartbeats 1600000 in
theorem placeOfI (a1 a2 a3 : Option Addr) (c1 c2 c3 : Nat) (I : In) (n : Int) (w : World) (h : InAt w a1 a2 a3 I) (h1 : I.nV ≤ 1048576) (h2 : I.nQ ≤ 1048576) (n0 : 0 ≤ n) (n1 : n ≤ nodes I - 1) :
    Calls Tryz.prog 180 #[.agg #[.slice a1 I.nV c1, .slice a2 I.nQ c2, .slice a3 I.nR c3], .int .i64 n] w fun e w' => e = .returned (.agg #[.int .i64 (plOf I n).x, .int .i64 (plOf I n).y, .int .i64 (plOf I n).o, .int .i64 (plOf I n).c, .int .i64 (plOf I n).h]) ∧ Below w.heap.size w w' := by
  unfold nodes at n1
  by_cases hv : n < I.nV
  · rw [show plOf I n = Veh.pl (I.V n.toNat) from by unfold plOf; rw [if_pos hv]]
    rcases h.v with hs | ⟨b, off, rfl, hs⟩
    · omega
    obtain ⟨m, rfl⟩ := Int.eq_ofNat_of_zero_le n0
    simp only [Int.toNat_natCast]
    obtain ⟨-, -, e2, e3, e4, e5, e6⟩ := Veh.at (hs m (by omega))
    have b0 := lt_of_cell e2
    have b1 : b < w.heap.size + 1 := by omega
    have f1 : w.cell? ⟨b, off + m * 7 + 2 + 1, none⟩ = _ := e3
    have f2 : w.cell? ⟨b, off + m * 7 + 2 + 2, none⟩ = _ := e4
    have f3 : w.cell? ⟨b, off + m * 7 + 2 + 3, none⟩ = _ := e5
    have f4 : w.cell? ⟨b, off + m * 7 + 2 + 4, none⟩ = _ := e6
    clear hs h n1 e3 e4 e5 e6
    go_enter Tryz.func180, Tryz.ntmps180
    go_wp2
    go_returns
    exact ⟨rfl, by go_grown⟩
  · rcases h.q with hs | ⟨b, off, rfl, hs⟩
    · omega
    obtain ⟨m, hm⟩ := Int.eq_ofNat_of_zero_le (show 0 ≤ (n - I.nV) / 2 by omega)
    have hmq : m < I.nQ := by omega
    have hd0 : (0 : Int) ≤ (m : Int) := by omega
    have hd1 : (m : Int) < (I.nQ : Int) := by omega
    obtain ⟨e0, e1, e2, e3, e4, e5, e6, e7, e8, e9, e10, e11⟩ := Req.at (hs m hmq)
    have b0 := lt_of_cell e0
    have b1 : b < w.heap.size + 1 := by omega
    have hge : (I.nV : Int) ≤ n := by omega
    by_cases hr : (n - I.nV) % 2 = 0
    · rw [show plOf I n = Req.from (I.Q m) from by unfold plOf; rw [if_neg hv, if_pos hr, hm]; rfl]
      have hr' : ((n - I.nV) % 2 == 0) = true := by simpa using hr
      clear hs h hr
      go_enter Tryz.func180, Tryz.ntmps180
      go_wp2
      go_returns
      exact ⟨rfl, by go_grown⟩
    · rw [show plOf I n = Req.to (I.Q m) from by unfold plOf; rw [if_neg hv, if_neg hr, hm]; rfl]
      have hr' : ((n - I.nV) % 2 == 0) = false := by simpa using hr
      clear hs h hr
      go_enter Tryz.func180, Tryz.ntmps180
      go_wp2
      go_returns
      exact ⟨rfl, by go_grown⟩
end Go.Proofs.YtgooegcmgejfpaaGreatDoor.Travel
namespace Go.Proofs.YtgooegcmgejfpaaGreatDoor.Mac
open Go Go.RowKit Go.Proofs.YtgooegcmgejfpaaGreatDoor.Mem Go.Proofs.YtgooegcmgejfpaaGreatDoor.Travel
open Go.Proofs.YtgooegcmgejfpaaGreatDoor.Valid (inB nodes nodes_bd)
open Go.Proofs.YtgooegcmgejfpaaGreatDoor.StV (stopB stopI stopS)
set_option linter.unusedVariables false
set_option linter.unusedSimpArgs false
attribute [local go_sem ↓] Go.wp_at_zero Go.wp_at_succ

theorem row_range {w : World} {g : Nat} {cs : List Value} {t : TypeId} {fr : Nat × Nat} (h : w.heap[g]? = some (.cells cs.toArray t fr)) : w.rangeAt g 0 cs := fun j v hv => by
  rw [Nat.zero_add, blk_cell h]; simpa using hv
theorem infoAt : (Tryz.prog.info? 156).map (·.size) = some 13 := by kernel_rfl
/-- The attributes that a node alone decides. -/
def nodeAt (I : In) (v : Nat) (n : Int) : List Value :=
  if stopB I n then [.int .i64 0, .int .i64 0, .int .i64 0, .int .i64 0, .int .i64 0, .int .i64 (I.Q ((n - I.nV) / 2).toNat).a, .int .i64 (plOf I n).o, .int .i64 (plOf I n).c, .int .i64 (plOf I n).h, .int .i64 (I.V v).a, .int .i64 0, .int .i64 (bit (!((n - I.nV) % 2 == 1))), .int .i64 (bit ((n - I.nV) % 2 == 1))] else [.int .i64 0, .int .i64 0, .int .i64 0, .int .i64 0, .int .i64 0, .int .i64 0, .int .i64 (plOf I n).o, .int .i64 (plOf I n).c, .int .i64 (plOf I n).h, .int .i64 (I.V v).a, .int .i64 0, .int .i64 0, .int .i64 0]
set_option maxHeartbeats 4000000 in
set_option maxRecDepth 100000 in
theorem ofNodeI (b1 b2 b3 : Option Addr) (d1 d2 d3 : Nat) (I : In) (v : Nat) (n : Int) (w : World) (hI : InAt w b1 b2 b3 I) (h1 : I.nV ≤ 64) (h2 : I.nQ ≤ 1000) (hv : v < I.nV) (n0 : 0 ≤ n) (n1 : n ≤ nodes I - 1) :
    Calls Tryz.prog 163 #[.agg #[.slice b1 I.nV d1, .slice b2 I.nQ d2, .slice b3 I.nR d3, .int .i64 (v : Int)], .int .i64 n] w fun e w' => e = .returned (.agg (nodeAt I v n).toArray) ∧ Below w.heap.size w w' := by
  have HI := Hid.mk hI
  have N1 := Hid.mk (And.intro n0 n1)
  clear hI
  have v0 : (0 : Int) ≤ (v : Int) := by omega
  have v1 : (v : Int) < (I.nV : Int) := by omega
  clear n0 n1
  go_enter Tryz.func163, Tryz.ntmps163
  go_wp2_with fail
  refine (placeOfI b1 b2 b3 d1 d2 d3 I n _ (HI.out.below (by go_grown)) (by omega) (by omega) N1.out.1 N1.out.2).mono ?_
  rintro e w1 ⟨rfl, hb⟩
  have HB1 := Hid.mk (below_then (w := w) (by go_grown) hb)
  have A0 := Hid.mk (blk_below (blk_alloc (blk_new w _) _) hb)
  have A1 := Hid.mk (blk_below (blk_new1 w _ _) hb)
  clear hb
  have x0 := blk_cell A0.out 0
  have x1 := blk_cell A0.out 1
  have x2 := blk_cell A0.out 2
  have x3 := blk_cell A0.out 3
  simp only [List.getElem?_toArray, List.getElem?_cons_zero, List.getElem?_cons_succ] at x0 x1 x2 x3
  rcases (HI.out.below HB1.out).v with h0 | ⟨gv, ov, rfl, hvv⟩
  · omega
  have hc : w1.rangeAt gv (ov + v * 7) (I.V v).cells := hvv v hv
  obtain ⟨e0, -⟩ := Veh.at hc
  have g0 := lt_of_cell e0
  have g1 : gv < w1.heap.size + 1 := by omega
  have q0 := blk_lt A0.out
  have q1 : w.heap.size < w1.heap.size + 1 := by omega
  clear hvv hc
  go_wp2_with fail
  refine (stopI (some ⟨gv, ov, none⟩) b2 b3 d1 d2 d3 I n _ (by omega) (by omega)).mono ?_
  rintro e w2 ⟨rfl, hb⟩
  have HB2 := Hid.mk (below_then (HB1.out.alloc HB1.out.size _ |>.alloc (by rw [World.size_alloc]; have := HB1.out.size; omega) _) hb)
  have C0 := Hid.mk (blk_below (blk_alloc (blk_alloc A0.out _) _) hb)
  have C1 := Hid.mk (blk_below (blk_alloc (blk_alloc A1.out _) _) hb)
  have CT := Hid.mk (blk_below (blk_new1 w1 _ _) hb)
  have hne : Hid (w.heap.size + 1 ≠ w1.heap.size + 1) := by unfold Hid; omega
  have hl0 : Hid (w.heap.size ≤ w1.heap.size + 1) := by unfold Hid; omega
  clear hb x0 x1 x2 x3 e0 HB1 A0 A1 g0 g1 q0 q1
  cases hs : stopB I n with
  | false =>
    go_upto_region 5 with fail
    apply wp_region_lit
    refine wpList_load_pat _ _ (w1.heap.size + 1) 0 [.int .i64 0, .int .i64 0, .int .i64 0, .int .i64 0, .int .i64 0, .int .i64 0, .int .i64 (plOf I n).o, .int .i64 (plOf I n).c, .int .i64 (plOf I n).h, .int .i64 (I.V v).a, .int .i64 0, .int .i64 0, .int .i64 0] _ rfl (row_range CT.out) Tryz.underlying156 rfl infoAt ?_
    refine wpList_store_row rfl _ _ _ rfl (w.heap.size + 1) ([.int .i64 0, .int .i64 0, .int .i64 0, .int .i64 0, .int .i64 0, .int .i64 0, .int .i64 (plOf I n).o, .int .i64 (plOf I n).c, .int .i64 (plOf I n).h, .int .i64 (I.V v).a, .int .i64 0, .int .i64 0, .int .i64 0]).toArray rfl rfl _ _ C1.out infoAt rfl (by simp [Value.oneCell']) ?_
    obtain ⟨Y, hY⟩ : ∃ Y, Y = w2.setRow (w.heap.size + 1) ([.int .i64 0, .int .i64 0, .int .i64 0, .int .i64 0, .int .i64 0, .int .i64 0, .int .i64 (plOf I n).o, .int .i64 (plOf I n).c, .int .i64 (plOf I n).h, .int .i64 (I.V v).a, .int .i64 0, .int .i64 0, .int .i64 0]).toArray := ⟨_, rfl⟩
    rw [← hY]
    have R0 : Hid (Y.heap[w.heap.size + 1]? = some (.cells ([.int .i64 0, .int .i64 0, .int .i64 0, .int .i64 0, .int .i64 0, .int .i64 0, .int .i64 (plOf I n).o, .int .i64 (plOf I n).c, .int .i64 (plOf I n).h, .int .i64 (I.V v).a, .int .i64 0, .int .i64 0, .int .i64 0]).toArray 156)) := by unfold Hid; rw [hY]; exact row_self C1.out _
    have BY : Hid (Below w.heap.size w Y) := by unfold Hid; rw [hY]; exact row_below HB2.out (Nat.le_succ _) _
    clear hY CT C0 C1 HB2
    go_wp2
    refine bodyPost_ret (results_cell_row Tryz.results163 _ _ (w.heap.size + 1) _ _ _ _ (by simp [Act.put]) R0.out Tryz.underlying156 rfl infoAt) rfl ?_
    exact ⟨by unfold nodeAt; rw [hs]; rfl, BY.out⟩
  | true =>
    obtain ⟨k0, k1, k2, k3⟩ := stop_bd hs
    obtain ⟨q, hq⟩ : ∃ q : Nat, (n - I.nV) / 2 = (q : Int) := ⟨((n - I.nV) / 2).toNat, by omega⟩
    have hat : Hid (nodeAt I v n = [.int .i64 0, .int .i64 0, .int .i64 0, .int .i64 0, .int .i64 0, .int .i64 (I.Q q).a, .int .i64 (plOf I n).o, .int .i64 (plOf I n).c, .int .i64 (plOf I n).h, .int .i64 (I.V v).a, .int .i64 0, .int .i64 (bit (!((n - I.nV) % 2 == 1))), .int .i64 (bit ((n - I.nV) % 2 == 1))]) := by unfold Hid nodeAt; rw [hs, hq]; rfl
    have x0 := blk_cell C0.out 0
    have x1 := blk_cell C0.out 1
    have x2 := blk_cell C0.out 2
    simp only [List.getElem?_toArray, List.getElem?_cons_zero, List.getElem?_cons_succ] at x0 x1 x2
    go_wp2_with fail
    clear x0 x1 x2
    refine (stopOfI (some ⟨gv, ov, none⟩) b2 b3 d1 d2 d3 I n _ h1 h2 hs).mono ?_
    rintro e w3 ⟨rfl, hb⟩
    rw [hq]
    have HB3 := Hid.mk (below_then HB2.out hb)
    have D0 := Hid.mk (blk_below C0.out hb)
    have D1 := Hid.mk (blk_below C1.out hb)
    have DT := Hid.mk (blk_below CT.out hb)
    clear hb C0 C1 CT HB2
    have q0 : (0 : Int) ≤ (q : Int) := by omega
    have q1 : (q : Int) < (I.nQ : Int) := by omega
    rcases (HI.out.below HB3.out).q with h0 | ⟨gq, oq, rfl, hqq⟩
    · omega
    have hc : w3.rangeAt gq (oq + q * 12) (I.Q q).cells := hqq q (by omega)
    obtain ⟨e0, -⟩ := Req.at hc
    have x1 := blk_cell D0.out 1
    have t5 := blk_cell DT.out 5
    have t11 := blk_cell DT.out 11
    have t12 := blk_cell DT.out 12
    have u5 := blk_unfrozen DT.out 5
    have u11 := blk_unfrozen DT.out 11
    have u12 := blk_unfrozen DT.out 12
    simp only [List.getElem?_toArray, List.getElem?_cons_zero, List.getElem?_cons_succ] at x1 t5 t11 t12
    clear hqq hc hq k0 k1 k2 k3
    generalize ((n - (I.nV : Int)) % 2 == 1) = bb at *
    go_upto_region 9 with (go_at_call 142; refine (bitI _ _).mono ?_; rintro e w' ⟨rfl, rfl⟩)
    clear x1 t5 t11 t12 u5 u11 u12
    obtain ⟨X, hX⟩ : ∃ X, X = ((w3.setCell ⟨w1.heap.size + 1, 5, none⟩ (.int .i64 (I.Q q).a)).setCell ⟨w1.heap.size + 1, 11, none⟩ (.int .i64 (bit !bb))).setCell ⟨w1.heap.size + 1, 12, none⟩ (.int .i64 (bit bb)) := ⟨_, rfl⟩
    rw [← hX]
    have ET : Hid (X.heap[w1.heap.size + 1]? = some (.cells ([.int .i64 0, .int .i64 0, .int .i64 0, .int .i64 0, .int .i64 0, .int .i64 (I.Q q).a, .int .i64 (plOf I n).o, .int .i64 (plOf I n).c, .int .i64 (plOf I n).h, .int .i64 (I.V v).a, .int .i64 0, .int .i64 (bit (!bb)), .int .i64 (bit bb)]).toArray 156)) := by
      have := blk_set (blk_set (blk_set DT.out 5 (.int .i64 (I.Q q).a)) 11 (.int .i64 (bit !bb))) 12 (.int .i64 (bit bb))
      rw [← hX] at this
      simp only [List.setIfInBounds_toArray, List.set_cons_zero, List.set_cons_succ] at this
      exact this
    have E1 : Hid (X.heap[w.heap.size + 1]? = some (.cells ([.int .i64 0, .int .i64 0, .int .i64 0, .int .i64 0, .int .i64 0, .int .i64 0, .int .i64 0, .int .i64 0, .int .i64 0, .int .i64 0, .int .i64 0, .int .i64 0, .int .i64 0]).toArray 156)) := by
      unfold Hid
      rw [hX]
      exact blk_set_other (blk_set_other (blk_set_other D1.out hne.out _) hne.out _) hne.out _
    have HB4 : Hid (Below w.heap.size w X) := by
      have hl : w.heap.size ≤ w1.heap.size + 1 := hl0.out
      unfold Hid
      rw [hX]
      exact ((HB3.out.setCell (p := ⟨w1.heap.size + 1, 5, none⟩) hl _).setCell (p := ⟨w1.heap.size + 1, 11, none⟩) hl _).setCell (p := ⟨w1.heap.size + 1, 12, none⟩) hl _
    clear hX D0 D1 DT HB3
    apply wp_region_lit
    refine wpList_load_pat _ _ (w1.heap.size + 1) 0 [.int .i64 0, .int .i64 0, .int .i64 0, .int .i64 0, .int .i64 0, .int .i64 (I.Q q).a, .int .i64 (plOf I n).o, .int .i64 (plOf I n).c, .int .i64 (plOf I n).h, .int .i64 (I.V v).a, .int .i64 0, .int .i64 (bit (!bb)), .int .i64 (bit bb)] _ rfl (row_range ET.out) Tryz.underlying156 rfl infoAt ?_
    refine wpList_store_row rfl _ _ _ rfl (w.heap.size + 1) ([.int .i64 0, .int .i64 0, .int .i64 0, .int .i64 0, .int .i64 0, .int .i64 (I.Q q).a, .int .i64 (plOf I n).o, .int .i64 (plOf I n).c, .int .i64 (plOf I n).h, .int .i64 (I.V v).a, .int .i64 0, .int .i64 (bit (!bb)), .int .i64 (bit bb)]).toArray rfl rfl _ _ E1.out infoAt rfl (by simp [Value.oneCell']) ?_
    obtain ⟨Y, hY⟩ : ∃ Y, Y = X.setRow (w.heap.size + 1) ([.int .i64 0, .int .i64 0, .int .i64 0, .int .i64 0, .int .i64 0, .int .i64 (I.Q q).a, .int .i64 (plOf I n).o, .int .i64 (plOf I n).c, .int .i64 (plOf I n).h, .int .i64 (I.V v).a, .int .i64 0, .int .i64 (bit (!bb)), .int .i64 (bit bb)]).toArray := ⟨_, rfl⟩
    rw [← hY]
    have R0 : Hid (Y.heap[w.heap.size + 1]? = some (.cells ([.int .i64 0, .int .i64 0, .int .i64 0, .int .i64 0, .int .i64 0, .int .i64 (I.Q q).a, .int .i64 (plOf I n).o, .int .i64 (plOf I n).c, .int .i64 (plOf I n).h, .int .i64 (I.V v).a, .int .i64 0, .int .i64 (bit (!bb)), .int .i64 (bit bb)]).toArray 156)) := by unfold Hid; rw [hY]; exact row_self E1.out _
    have BY : Hid (Below w.heap.size w Y) := by unfold Hid; rw [hY]; exact row_below HB4.out (Nat.le_succ _) _
    clear hY ET E1 HB4
    go_wp2
    refine bodyPost_ret (results_cell_row Tryz.results163 _ _ (w.heap.size + 1) _ _ _ _ (by simp [Act.put]) R0.out Tryz.underlying156 rfl infoAt) rfl ?_
    exact ⟨by rw [hat.out], BY.out⟩
end Go.Proofs.YtgooegcmgejfpaaGreatDoor.Mac
