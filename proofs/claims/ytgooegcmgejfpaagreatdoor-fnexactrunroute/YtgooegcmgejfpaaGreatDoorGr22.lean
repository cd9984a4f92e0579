import Derived.Test.YtgooegcmgejfpaaGreatDoorGr19
import Derived.Test.YtgooegcmgejfpaaGreatDoorGr21
import Derived.Deep.DeepCutAuto
import Derived.Lib.SliceRun
import Derived.Test.YtgooegcmgejfpaaGreatDoorGr20
import Derived.Deep.DrawnRows
import Derived.Lib.QuietBelow
import Derived.Test.YtgooegcmgejfpaaGreatDoorGr11
import Derived.StillTailTactics
import Derived.Deep.RegionHeld3
namespace Go.Proofs.YtgooegcmgejfpaaGreatDoor.Mac
open Go Go.RowKit Go.Proofs.YtgooegcmgejfpaaGreatDoor.Mem Go.Proofs.YtgooegcmgejfpaaGreatDoor.Travel
open Go.Proofs.YtgooegcmgejfpaaGreatDoor.Valid (inB nodes nodes_bd validB)
open Go.Proofs.YtgooegcmgejfpaaGreatDoor.StV (stopB stopI stopS)
open Go.Proofs.YtgooegcmgejfpaaGreatDoor.Arith (cl cl_bd sadd smul addI)
set_option linter.unusedVariables false
set_option linter.unusedSimpArgs false
attribute [local go_sem ↓] Go.wp_at_zero Go.wp_at_succ

def sizeOf (I : In) (n : Int) : Int := if stopB I n then (I.Q ((n - I.nV) / 2).toNat).a else 0
def pickOf (I : In) (n : Int) : Int := if stopB I n then bit (!((n - I.nV) % 2 == 1)) else 0
def dropOf (I : In) (n : Int) : Int := if stopB I n then bit ((n - I.nV) % 2 == 1) else 0
theorem nodeAt_eq (I : In) (v : Nat) (n : Int) : nodeAt I v n = [.int .i64 0, .int .i64 0, .int .i64 0, .int .i64 0, .int .i64 0, .int .i64 (sizeOf I n), .int .i64 (plOf I n).o, .int .i64 (plOf I n).c, .int .i64 (plOf I n).h, .int .i64 (I.V v).a, .int .i64 0, .int .i64 (pickOf I n), .int .i64 (dropOf I n)] := by
  unfold nodeAt sizeOf pickOf dropOf
  cases stopB I n <;> rfl
theorem pick_bd (I : In) (n : Int) : (pickOf I n = 1 ∧ dropOf I n = 0) ∨ (pickOf I n = 0 ∧ dropOf I n = 1) ∨ (pickOf I n = 0 ∧ dropOf I n = 0) := by
  unfold pickOf dropOf
  cases stopB I n <;> cases ((n - (I.nV : Int)) % 2 == 1) <;> simp [bit]
theorem sadd_bd (a b : Int) : -1000000000 ≤ sadd a b ∧ sadd a b ≤ 1000000000 := cl_bd _
set_option maxHeartbeats 8000000 in
set_option maxRecDepth 100000 in
theorem onwardI (b1 b2 b3 : Option Addr) (d1 d2 d3 : Nat) (I : In) (v : Nat) (fr n : Int) (a0 a1 a2 a3 a4 a5 a6 a7 a8 a9 a10 a11 a12 : Int) (w : World) (hI : InAt w b1 b2 b3 I) (hval : validB I = true) (h1 : I.nV ≤ 64) (h2 : I.nQ ≤ 1000) (hv : v < I.nV) (f0 : 0 ≤ fr) (f1 : fr ≤ nodes I - 1) (n0 : 0 ≤ n) (n1 : n ≤ nodes I - 1) (hp0 : 0 ≤ a10) (hp1 : a10 ≤ 100000)
    (sz o c h rm pk dp lg ar tm : Int) (hsz : sz = sizeOf I n) (ho : o = (plOf I n).o) (hc : c = (plOf I n).c) (hh : h = (plOf I n).h) (hrm : rm = (I.V v).a) (hpk : pk = pickOf I n) (hdp : dp = dropOf I n) (hlg : lg = legV I fr n) (har : ar = sadd (sadd a0 a8) lg) (htm : tm = max o ar) (o0 : -1000000000 ≤ o) (o1 : o ≤ 1000000000) (sz0 : 0 ≤ sz) (sz1 : sz ≤ 1000000) :
    Calls Tryz.prog 169 #[.agg #[.slice b1 I.nV d1, .slice b2 I.nQ d2, .slice b3 I.nR d3, .int .i64 (v : Int)], .int .i64 fr, .agg #[.int .i64 a0, .int .i64 a1, .int .i64 a2, .int .i64 a3, .int .i64 a4, .int .i64 a5, .int .i64 a6, .int .i64 a7, .int .i64 a8, .int .i64 a9, .int .i64 a10, .int .i64 a11, .int .i64 a12], .int .i64 n] w fun e w' => e = .returned (.agg ([.int .i64 tm, .int .i64 lg, .int .i64 (sadd tm (-ar)), .int .i64 (sadd a3 lg), .int .i64 (sadd a4 ((pk - dp) * sz)), .int .i64 sz, .int .i64 o, .int .i64 c, .int .i64 h, .int .i64 rm, .int .i64 (a10 + 1), .int .i64 pk, .int .i64 dp]).toArray) ∧ Below w.heap.size w w' := by
  have HI := Hid.mk hI
  have HN := Hid.mk (And.intro (And.intro f0 f1) (And.intro n0 n1))
  have HV := Hid.mk hval
  have hna : Hid (nodeAt I v n = [.int .i64 0, .int .i64 0, .int .i64 0, .int .i64 0, .int .i64 0, .int .i64 sz, .int .i64 o, .int .i64 c, .int .i64 h, .int .i64 rm, .int .i64 0, .int .i64 pk, .int .i64 dp]) := by unfold Hid; rw [nodeAt_eq, hsz, ho, hc, hh, hrm, hpk, hdp]
  have hab := sadd_bd (sadd a0 a8) lg
  rw [← har] at hab
  have htb : -1000000000 ≤ tm ∧ tm ≤ 1000000000 := by omega
  have hmw : IntKind.i64.wrap ((pk - dp) * sz) = (pk - dp) * sz := by
    rw [hpk, hdp]
    rcases pick_bd I n with ⟨e1, e2⟩ | ⟨e1, e2⟩ | ⟨e1, e2⟩ <;> rw [e1, e2, IntKind.wrap_i64] <;> omega
  have hpd : -1 ≤ pk - dp ∧ pk - dp ≤ 1 ∧ 0 ≤ pk ∧ pk ≤ 1 ∧ 0 ≤ dp ∧ dp ≤ 1 := by
    rw [hpk, hdp]
    rcases pick_bd I n with ⟨e1, e2⟩ | ⟨e1, e2⟩ | ⟨e1, e2⟩ <;> rw [e1, e2] <;> omega
  have HLG := Hid.mk hlg
  have HAR := Hid.mk har
  have HTM := Hid.mk htm
  clear hI f0 f1 n0 n1 hval hsz ho hc hh hrm hpk hdp hlg har htm
  go_enter Tryz.func169, Tryz.ntmps169
  go_wp2_with fail
  refine (ofNodeI b1 b2 b3 d1 d2 d3 I v n _ (HI.out.below (by go_grown)) h1 h2 hv HN.out.2.1 HN.out.2.2).mono ?_
  rintro e w1 ⟨rfl, hb⟩
  rw [hna.out]
  have HB1 := Hid.mk (below_then (w := w) (by go_grown) hb)
  have A0 := Hid.mk (blk_below (blk_alloc (blk_alloc (blk_new w _) _) _) hb)
  have A1 := Hid.mk (blk_below (blk_alloc (blk_new1 w _ _) _) hb)
  have A2 := Hid.mk (blk_below (blk_new2 w _ _ _) hb)
  clear hb
  have x0 := blk_cell A0.out 0
  have x1 := blk_cell A0.out 1
  have x2 := blk_cell A0.out 2
  simp only [List.getElem?_toArray, List.getElem?_cons_zero, List.getElem?_cons_succ] at x0 x1 x2
  have q0 := blk_lt A0.out
  have q2 := blk_lt A2.out
  go_wp2_with fail
  clear x0 x1 x2
  refine (between b1 b2 b3 d1 d2 d3 I fr n _ (HI.out.below (HB1.out.alloc HB1.out.size _)) HV.out HN.out.1.1 HN.out.1.2 HN.out.2.1 HN.out.2.2).mono ?_
  rintro e w2 ⟨rfl, hb⟩
  rw [← HLG.out]
  have HB2 := Hid.mk (below_then (HB1.out.alloc HB1.out.size _) hb)
  have C1 := Hid.mk (blk_below (blk_alloc A1.out _) hb)
  have C2 := Hid.mk (blk_below (blk_alloc A2.out _) hb)
  have CT := Hid.mk (blk_below (blk_new w1 _) hb)
  have hne : Hid (w.heap.size + 1 + 1 ≠ w1.heap.size) := by unfold Hid; omega
  have hl0 : Hid (w.heap.size ≤ w1.heap.size) := HB1.out.size
  clear hb A0 A1 A2 HB1 q0
  have y0 := blk_cell C1.out 0
  have y3 := blk_cell C1.out 3
  have y4 := blk_cell C1.out 4
  have y8 := blk_cell C1.out 8
  have y10 := blk_cell C1.out 10
  have t0 := blk_cell CT.out 0
  have t1 := blk_cell CT.out 1
  have t2 := blk_cell CT.out 2
  have t3 := blk_cell CT.out 3
  have t4 := blk_cell CT.out 4
  have t5 := blk_cell CT.out 5
  have t6 := blk_cell CT.out 6
  have t10 := blk_cell CT.out 10
  have t11 := blk_cell CT.out 11
  have t12 := blk_cell CT.out 12
  have u0 := blk_unfrozen CT.out 0
  have u1 := blk_unfrozen CT.out 1
  have u2 := blk_unfrozen CT.out 2
  have u3 := blk_unfrozen CT.out 3
  have u4 := blk_unfrozen CT.out 4
  have u10 := blk_unfrozen CT.out 10
  simp only [List.getElem?_toArray, List.getElem?_cons_zero, List.getElem?_cons_succ] at y0 y3 y4 y8 y10 t0 t1 t2 t3 t4 t5 t6 t10 t11 t12
  have q3 : w.heap.size + 1 ≠ w1.heap.size := by omega
  have e3 : sadd (sadd a0 a8) lg = ar := HAR.out.symm
  have e4 : max o ar = tm := HTM.out.symm
  go_upto_region 10 with (first | (go_at_call 145; refine (addI _ _ _).mono ?_; rintro e w' ⟨rfl, rfl⟩) | (go_at_call 146; refine (subI _ _ _ htb.1 htb.2 hab.1 hab.2).mono ?_; rintro e w' ⟨rfl, rfl⟩))
  clear y0 y3 y4 y8 y10 t0 t1 t2 t3 t4 t5 t6 t10 t11 t12 u0 u1 u2 u3 u4 u10 e3 e4
  obtain ⟨X, hX⟩ : ∃ X, X = (((((w'.setCell ⟨w1.heap.size, 0, none⟩ (.int .i64 tm)).setCell ⟨w1.heap.size, 1, none⟩ (.int .i64 lg)).setCell ⟨w1.heap.size, 2, none⟩ (.int .i64 (sadd tm (-ar)))).setCell ⟨w1.heap.size, 3, none⟩ (.int .i64 (sadd a3 lg))).setCell ⟨w1.heap.size, 4, none⟩ (.int .i64 (sadd a4 ((pk - dp) * sz)))).setCell ⟨w1.heap.size, 10, none⟩ (.int .i64 (a10 + 1)) := ⟨_, rfl⟩
  rw [← hX]
  have ET : Hid (X.heap[w1.heap.size]? = some (.cells ([.int .i64 tm, .int .i64 lg, .int .i64 (sadd tm (-ar)), .int .i64 (sadd a3 lg), .int .i64 (sadd a4 ((pk - dp) * sz)), .int .i64 sz, .int .i64 o, .int .i64 c, .int .i64 h, .int .i64 rm, .int .i64 (a10 + 1), .int .i64 pk, .int .i64 dp]).toArray 156)) := by
    have := blk_set (blk_set (blk_set (blk_set (blk_set (blk_set CT.out 0 (.int .i64 tm)) 1 (.int .i64 lg)) 2 (.int .i64 (sadd tm (-ar)))) 3 (.int .i64 (sadd a3 lg))) 4 (.int .i64 (sadd a4 ((pk - dp) * sz)))) 10 (.int .i64 (a10 + 1))
    rw [← hX] at this
    simp only [List.setIfInBounds_toArray, List.set_cons_zero, List.set_cons_succ] at this
    exact this
  have E1 : Hid (X.heap[w.heap.size + 1 + 1]? = some (.cells ([.int .i64 0, .int .i64 0, .int .i64 0, .int .i64 0, .int .i64 0, .int .i64 0, .int .i64 0, .int .i64 0, .int .i64 0, .int .i64 0, .int .i64 0, .int .i64 0, .int .i64 0]).toArray 156)) := by
    unfold Hid
    rw [hX]
    exact blk_set_other (blk_set_other (blk_set_other (blk_set_other (blk_set_other (blk_set_other C2.out hne.out _) hne.out _) hne.out _) hne.out _) hne.out _) hne.out _
  have HB4 : Hid (Below w.heap.size w X) := by
    have hl := hl0.out
    unfold Hid
    rw [hX]
    exact (((((HB2.out.setCell (p := ⟨w1.heap.size, 0, none⟩) hl _).setCell (p := ⟨w1.heap.size, 1, none⟩) hl _).setCell (p := ⟨w1.heap.size, 2, none⟩) hl _).setCell (p := ⟨w1.heap.size, 3, none⟩) hl _).setCell (p := ⟨w1.heap.size, 4, none⟩) hl _).setCell (p := ⟨w1.heap.size, 10, none⟩) hl _
  clear hX C1 C2 CT HB2
  apply wp_region_lit
  refine wpList_load_pat _ _ w1.heap.size 0 [.int .i64 tm, .int .i64 lg, .int .i64 (sadd tm (-ar)), .int .i64 (sadd a3 lg), .int .i64 (sadd a4 ((pk - dp) * sz)), .int .i64 sz, .int .i64 o, .int .i64 c, .int .i64 h, .int .i64 rm, .int .i64 (a10 + 1), .int .i64 pk, .int .i64 dp] _ rfl (row_range ET.out) Tryz.underlying156 rfl infoAt ?_
  refine wpList_store_row rfl _ _ _ rfl (w.heap.size + 1 + 1) ([.int .i64 tm, .int .i64 lg, .int .i64 (sadd tm (-ar)), .int .i64 (sadd a3 lg), .int .i64 (sadd a4 ((pk - dp) * sz)), .int .i64 sz, .int .i64 o, .int .i64 c, .int .i64 h, .int .i64 rm, .int .i64 (a10 + 1), .int .i64 pk, .int .i64 dp]).toArray rfl rfl _ _ E1.out infoAt rfl (by simp [Value.oneCell']) ?_
  obtain ⟨Y, hY⟩ : ∃ Y, Y = X.setRow (w.heap.size + 1 + 1) ([.int .i64 tm, .int .i64 lg, .int .i64 (sadd tm (-ar)), .int .i64 (sadd a3 lg), .int .i64 (sadd a4 ((pk - dp) * sz)), .int .i64 sz, .int .i64 o, .int .i64 c, .int .i64 h, .int .i64 rm, .int .i64 (a10 + 1), .int .i64 pk, .int .i64 dp]).toArray := ⟨_, rfl⟩
  rw [← hY]
  have R0 : Hid (Y.heap[w.heap.size + 1 + 1]? = some (.cells ([.int .i64 tm, .int .i64 lg, .int .i64 (sadd tm (-ar)), .int .i64 (sadd a3 lg), .int .i64 (sadd a4 ((pk - dp) * sz)), .int .i64 sz, .int .i64 o, .int .i64 c, .int .i64 h, .int .i64 rm, .int .i64 (a10 + 1), .int .i64 pk, .int .i64 dp]).toArray 156)) := by unfold Hid; rw [hY]; exact row_self E1.out _
  have BY : Hid (Below w.heap.size w Y) := by unfold Hid; rw [hY]; exact row_below HB4.out (by omega) _
  clear hY ET E1 HB4
  go_wp2
  refine bodyPost_ret (results_cell_row Tryz.results169 _ _ (w.heap.size + 1 + 1) _ _ _ _ (by simp [Act.put]) R0.out Tryz.underlying156 rfl infoAt) rfl ?_
  exact ⟨rfl, BY.out⟩
end Go.Proofs.YtgooegcmgejfpaaGreatDoor.Mac
namespace Go.Proofs.YtgooegcmgejfpaaGreatDoor.Mac
open Go Go.RowKit Go.Proofs.YtgooegcmgejfpaaGreatDoor.Mem
set_option linter.unusedVariables false
set_option linter.unusedSimpArgs false
attribute [local go_sem ↓] Go.wp_at_zero Go.wp_at_succ

/-- A copy of a list: nothing, or a list of its own. -/
def Cl (w : World) (l : List Int) (e : Ending) (w' : World) : Prop :=
  ∃ a' c', e = .returned (.slice a' l.length c') ∧ Below w.heap.size w w' ∧ (l.length = 0 ∨ ∃ g, a' = some ⟨g, 0, none⟩ ∧ w.heap.size ≤ g ∧ g < w'.heap.size ∧ Rw w' g l)
theorem nilEq (w : World) (a : Option Addr) (n c : Nat) : (binOp .eql 32 (.slice a n c) (.slice none 0 0)).run Tryz.prog w = .ok (.bool a.isNone) w := Lib.run_eql_slice_nil w _ _ a n c 0 0 Tryz.underlying32
theorem own_any {B : Nat} {w : World} {v : Value} {n : Nat} {l : List Value} (h : w.ownsRow B 2 1 v n l) : ∃ a c, v = .slice a n c := by
  rcases h.2 with ⟨hv, h0⟩ | ⟨g, cap, cur, hv, hg, hblk, h1, h2, h3, ht⟩
  · exact ⟨_, _, by rw [hv, h0]⟩
  · exact ⟨_, _, hv⟩

set_option maxHeartbeats 1600000 in
set_option maxRecDepth 100000 in
theorem cloneI (a : Option Addr) (n c : Nat) (l : List Int) (w : World) (hn : n = l.length) (h : Li w a l) (hN : n ≤ 1048576) :
    Calls Tryz.prog 121 #[.slice a n c] w (Cl w l) := by
  have HN := Hid.mk hn
  obtain ⟨i0, hi, hz0, hz1, hz2⟩ := info_parts infoIn
  by_cases h0 : n = 0
  · subst h0
    have hl : Hid (l.length = 0) := hn.symm
    clear hn
    cases a with
    | none =>
      clear h hi hz0 hz1 hz2
      have hq := fun w : World => nilEq w none 0 c
      go_enter Tryz.func121, Tryz.ntmps121
      go_wp2
      go_ret
      exact ⟨none, 0, by rw [hl.out]; rfl, by go_grown, Or.inl hl.out⟩
    | some ad =>
      clear h
      have hq := fun w : World => nilEq w (some ad) 0 c
      have hnews : ∀ j u, (icells [])[j]? = some u → (w.alloc (.cells #[] 2)).cell? (ad.add j) = some u := fun j u hj => by simp [icells] at hj
      go_enter Tryz.func121, Tryz.ntmps121
      go_wp2_with (at_builtin; refine wpList_append_own _ rfl _ _ 32 rfl w.heap.size 2 i0 (.int .i64 0) 1 8 Tryz.underlying32 hi hz0 hz1 hz2 rfl (by decide) _ _ _ rfl (own_nil w) ad 0 c (icells []) rfl (by simp [icells]) hnews (icells_one []) (by unfold maxLen; omega) (by omega) (by simp) ?_)
      intro v2 w2 hown hgrow _
      clear hnews
      have hB : Hid (Below w.heap.size w w2) := ((Below.refl _ _).alloc (Nat.le_refl _) _).grown hgrow (by simp) (fun q hq => by simp [Value.ownBlock] at hq; omega)
      obtain ⟨a', c', hv⟩ := own_any hown
      subst hv
      clear hown hgrow
      refine Hid.out ?_
      refine Lib.hid ?_
      go_wp2
      go_ret
      exact ⟨a', c', by rw [hl.out]; rfl, hB.out, Or.inl hl.out⟩
  rcases h with h | ⟨b, off, rfl, h⟩
  · omega
  have HH := Hid.mk h
  clear h hn
  have hq := fun w : World => nilEq w (some ⟨b, off, none⟩) n c
  have hnews : ∀ j u, (icells l)[j]? = some u → (w.alloc (.cells #[] 2)).cell? ((⟨b, off, none⟩ : Addr).add j) = some u := fun j u hj => by
    obtain ⟨h1, rfl⟩ := icells_get l j u hj
    have := ci.at (rangeAt_below (HH.out j h1) (show Below w.heap.size w (w.alloc (.cells #[] 2)) by go_grown))
    rw [Nat.mul_one] at this
    rw [Addr.add_mid]
    exact this
  go_enter Tryz.func121, Tryz.ntmps121
  go_wp2_with (at_builtin; refine wpList_append_own _ rfl _ _ 32 rfl w.heap.size 2 i0 (.int .i64 0) 1 8 Tryz.underlying32 hi hz0 hz1 hz2 rfl (by decide) _ _ _ rfl (own_nil w) ⟨b, off, none⟩ n c (icells l) rfl (by simp [icells]; exact HN.out.symm) hnews (icells_one l) (by unfold maxLen; omega) (by omega) (by simp) ?_)
  intro v2 w2 hown hgrow _
  clear hnews
  rw [show icells [] ++ icells l = icells l from rfl] at hown
  obtain ⟨g, c2, cs, rfl, hg, hblk, hsz, hcs⟩ := own_li (by omega) HN.out hown
  have hB : Hid (Below w.heap.size w w2) := ((Below.refl _ _).alloc (Nat.le_refl _) _).grown hgrow (by simp) (fun q hq => by simp [Value.ownBlock] at hq; omega)
  have HB2 := Hid.mk hblk
  have HG := Hid.mk hg
  have HC := Hid.mk (And.intro hsz hcs)
  clear hown hgrow hblk hsz hcs hg
  refine Hid.out ?_
  refine Lib.hid ?_
  go_wp2
  go_ret
  refine ⟨_, c2, by rw [← HN.out]; rfl, hB.out, Or.inr ⟨g, rfl, HG.out, blk_lt HB2.out, fun i hi => ?_⟩⟩
  have hl := HN.out
  exact ⟨by rw [blk_cell HB2.out, HC.out.2 i (by omega)], blk_unfrozen HB2.out i⟩
end Go.Proofs.YtgooegcmgejfpaaGreatDoor.Mac
namespace Go.Proofs.YtgooegcmgejfpaaGreatDoor.Travel
open Go Go.RowKit Go.Sort Go.Proofs.YtgooegcmgejfpaaGreatDoor.Mem Go.Proofs.YtgooegcmgejfpaaGreatDoor.Valid
set_option linter.unusedVariables false
attribute [local go_sem ↓] Go.wp_at_zero Go.wp_at_succ

set_option maxHeartbeats 4000000 in
set_option maxRecDepth 100000 in
theorem legS (a1 a2 a3 : Option Addr) (c1 c2 c3 : Nat) (I : In) (a b : Int) (w : World) (h : InAt w a1 a2 a3 I) (hv : validB I = true) (na0 : 0 ≤ a) (na1 : a ≤ nodes I - 1) (nb0 : 0 ≤ b) (nb1 : b ≤ nodes I - 1) :
    Calls Tryz.prog 115 #[.agg #[.slice a1 I.nV c1, .slice a2 I.nQ c2, .slice a3 I.nR c3], .int .i64 a, .int .i64 b] w fun e w' => e = .returned (.int .i64 (legV I a b)) ∧ Below w.heap.size w w' := by
  have H := Hid.mk h
  have HV := Hid.mk hv
  obtain ⟨l1, l2, l3⟩ := lens_bd (validB_parts hv).1
  clear h hv
  by_cases hab : a = b
  · rw [leg_same hab]
    have hab' : (a == b) = true := by simpa using hab
    clear hab
    go_enter Tryz.func115, Tryz.ntmps115
    go_wp2
    go_ret
    exact ⟨rfl, by go_grown⟩
  have hab' : (a == b) = false := by simpa using hab
  have HAB := Hid.mk hab
  clear hab
  go_enter Tryz.func115, Tryz.ntmps115
  go_wp2
  go_loop [7] (fun i => ∃ k : Nat, k ≤ I.nR ∧ i = .int .i64 k ∧ Hid (∀ x, x < k → hit I a b x = false)) (fun i => I.nR - (intOf i).toNat)
  case atStart => exact ⟨0, Nat.zero_le _, rfl, fun x hx => absurd hx (Nat.not_lt_zero _)⟩
  case round =>
    obtain ⟨k, hk, rfl, hx⟩ := hrel
    by_cases hlt : k < I.nR
    · rcases H.out.r with hs | ⟨rb, off, rfl, hs⟩
      · omega
      obtain ⟨e0, e1, e2⟩ := Rd.at (hs k hlt)
      have b0 := lt_of_cell e0
      clear hs
      cases g1 : ((I.R k).a == a) with
      | false =>
        have hx' : Hid (∀ x, x < k + 1 → hit I a b x = false) := fun x hxx => by
          by_cases e : x = k
          · rw [e]; simp [hit, g1]
          · exact hx.out x (by omega)
        go_wp2
        exact ⟨⟨k + 1, by omega, by go_num, hx'⟩, by simp [intOf]; omega⟩
      | true =>
        cases g2 : ((I.R k).b == b) with
        | false =>
          have hx' : Hid (∀ x, x < k + 1 → hit I a b x = false) := fun x hxx => by
            by_cases e : x = k
            · rw [e]; simp [hit, g2]
            · exact hx.out x (by omega)
          go_wp2
          exact ⟨⟨k + 1, by omega, by go_num, hx'⟩, by simp [intOf]; omega⟩
        | true =>
          have hl : Hid (legV I a b = (I.R k).t) := leg_hit HAB.out hlt hx.out (by simp only [hit, g1, g2, Bool.and_self])
          go_wp2
          go_ret
          exact ⟨congrArg (fun z => Ending.returned (.int .i64 z)) hl.out.symm, by go_grown⟩
    · have hkn : k = I.nR := by omega
      subst hkn
      have hl : Hid (legV I a b = _) := leg_none HAB.out hx.out
      obtain ⟨pa1, pa2, pa3, pa4⟩ := plOf_ok HV.out na0 na1
      obtain ⟨pb1, pb2, pb3, pb4⟩ := plOf_ok HV.out nb0 nb1
      clear hx hk
      go_wp2_with fail
      refine (placeOfS a1 a2 a3 c1 c2 c3 I a _ (H.out.below (by go_grown)) (by omega) (by omega) na0 na1).mono ?_
      rintro e w1 ⟨rfl, hb1⟩
      have HB1 := Hid.mk (below_then (w := w) (by go_grown) hb1)
      have A1 := Hid.mk (blk_below (blk_new w _) hb1)
      clear hb1
      have x0 := blk_cell A1.out 0
      have x1 := blk_cell A1.out 1
      have x2 := blk_cell A1.out 2
      simp only [List.getElem?_toArray, List.getElem?_cons_zero, List.getElem?_cons_succ] at x0 x1 x2
      have z1 := blk_lt A1.out
      go_wp2_with fail
      clear x0 x1 x2 z1
      refine (placeOfS a1 a2 a3 c1 c2 c3 I b _ (H.out.below (HB1.out.alloc HB1.out.size _)) (by omega) (by omega) nb0 nb1).mono ?_
      rintro e w2 ⟨rfl, hb2⟩
      have HB2 := Hid.mk (below_then (HB1.out.alloc HB1.out.size _) hb2)
      have P2 := Hid.mk (blk_below (blk_new w1 _) hb2)
      clear hb2 A1 HB1
      have z0 := blk_cell P2.out 0
      have z1 := blk_cell P2.out 1
      simp only [List.getElem?_toArray, List.getElem?_cons_zero, List.getElem?_cons_succ] at z0 z1
      have z2 := blk_lt P2.out
      have cx : ∀ W : World, Calls Tryz.prog 166 #[.int .i64 ((plOf I a).x - (plOf I b).x)] W fun e w' => e = .returned (.int .i64 (ab ((plOf I a).x - (plOf I b).x))) ∧ w' = W := fun W => absS _ W (by omega) (by omega)
      have cy : ∀ W : World, Calls Tryz.prog 166 #[.int .i64 ((plOf I a).y - (plOf I b).y)] W fun e w' => e = .returned (.int .i64 (ab ((plOf I a).y - (plOf I b).y))) ∧ w' = W := fun W => absS _ W (by omega) (by omega)
      have ax := ab_bd ((plOf I a).x - (plOf I b).x) (by omega) (by omega)
      have ay := ab_bd ((plOf I a).y - (plOf I b).y) (by omega) (by omega)
      go_wp2_with fail
      go_quiet ((first | exact Calls.quiet_of_same (cx _) | exact Calls.quiet_of_same (cy _)))
      go_wp2
      go_ret
      exact ⟨congrArg (fun z => Ending.returned (.int .i64 z)) hl.out.symm, below_drewN' (HB2.out.alloc HB2.out.size _) nq⟩
end Go.Proofs.YtgooegcmgejfpaaGreatDoor.Travel
namespace Go.Proofs.YtgooegcmgejfpaaGreatDoor.Mac
open Go Go.RowKit Go.Proofs.YtgooegcmgejfpaaGreatDoor.Mem Go.Proofs.YtgooegcmgejfpaaGreatDoor.Travel
open Go.Proofs.YtgooegcmgejfpaaGreatDoor.Valid (inB nodes nodes_bd validB)
open Go.Proofs.YtgooegcmgejfpaaGreatDoor.StV (stopB stopI stopS)
open Go.Proofs.YtgooegcmgejfpaaGreatDoor.Arith (cl cl_bd sadd smul addS)
set_option linter.unusedVariables false
set_option linter.unusedSimpArgs false
attribute [local go_sem ↓] Go.wp_at_zero Go.wp_at_succ

set_option maxHeartbeats 1600000 in
theorem pickS (b1 b2 b3 : Option Addr) (d1 d2 d3 : Nat) (I : In) (n : Int) (w : World) (h1 : I.nV ≤ 64) (h2 : I.nQ ≤ 1000) :
    Calls Tryz.prog 67 #[.agg #[.slice b1 I.nV d1, .slice b2 I.nQ d2, .slice b3 I.nR d3], .int .i64 n] w fun e w' => e = .returned (.bool (stopB I n && ((n - I.nV) % 2 == 0))) ∧ Below w.heap.size w w' := by
  go_enter Tryz.func67, Tryz.ntmps67
  go_wp2_with fail
  refine (stopS b1 b2 b3 d1 d2 d3 I n _ (by omega) (by omega)).mono ?_
  rintro e w1 ⟨rfl, hb⟩
  have HB := Hid.mk (below_then (w := w) (by go_grown) hb)
  have A0 := Hid.mk (blk_below (blk_new w _) hb)
  clear hb
  cases hs : stopB I n with
  | false =>
    have HS := Hid.mk hs
    clear hs
    go_wp2
    go_ret
    exact ⟨by rw [HS.out]; rfl, HB.out⟩
  | true =>
    obtain ⟨g1, g2, g3, g4⟩ := stop_bd hs
    have hn : nodes I ≤ 3000 := by unfold nodes; omega
    obtain ⟨k, hk⟩ : ∃ k : Nat, n - I.nV = (k : Int) := ⟨(n - I.nV).toNat, by omega⟩
    have hw : IntKind.i64.wrap (n - (I.nV : Int)) = (k : Int) := by rw [IntKind.wrap_i64]; omega
    have HS := Hid.mk hs
    have HK := Hid.mk hk
    have k1 : k ≤ 3000 := by omega
    have x0 := blk_cell A0.out 0
    simp only [List.getElem?_toArray, List.getElem?_cons_zero, List.getElem?_cons_succ] at x0
    clear hs g1 g2 g3 g4 hk hn
    go_wp2
    go_ret
    exact ⟨by rw [HS.out, HK.out]; first | rfl | simp, HB.out⟩
set_option maxHeartbeats 1600000 in
theorem dropS (b1 b2 b3 : Option Addr) (d1 d2 d3 : Nat) (I : In) (n : Int) (w : World) (h1 : I.nV ≤ 64) (h2 : I.nQ ≤ 1000) :
    Calls Tryz.prog 68 #[.agg #[.slice b1 I.nV d1, .slice b2 I.nQ d2, .slice b3 I.nR d3], .int .i64 n] w fun e w' => e = .returned (.bool (stopB I n && ((n - I.nV) % 2 == 1))) ∧ Below w.heap.size w w' := by
  go_enter Tryz.func68, Tryz.ntmps68
  go_wp2_with fail
  refine (stopS b1 b2 b3 d1 d2 d3 I n _ (by omega) (by omega)).mono ?_
  rintro e w1 ⟨rfl, hb⟩
  have HB := Hid.mk (below_then (w := w) (by go_grown) hb)
  have A0 := Hid.mk (blk_below (blk_new w _) hb)
  clear hb
  cases hs : stopB I n with
  | false =>
    have HS := Hid.mk hs
    clear hs
    go_wp2
    go_ret
    exact ⟨by rw [HS.out]; rfl, HB.out⟩
  | true =>
    obtain ⟨g1, g2, g3, g4⟩ := stop_bd hs
    have hn : nodes I ≤ 3000 := by unfold nodes; omega
    obtain ⟨k, hk⟩ : ∃ k : Nat, n - I.nV = (k : Int) := ⟨(n - I.nV).toNat, by omega⟩
    have hw : IntKind.i64.wrap (n - (I.nV : Int)) = (k : Int) := by rw [IntKind.wrap_i64]; omega
    have HS := Hid.mk hs
    have HK := Hid.mk hk
    have k1 : k ≤ 3000 := by omega
    have x0 := blk_cell A0.out 0
    simp only [List.getElem?_toArray, List.getElem?_cons_zero, List.getElem?_cons_succ] at x0
    clear hs g1 g2 g3 g4 hk hn
    go_wp2
    go_ret
    exact ⟨by rw [HS.out, HK.out]; first | rfl | simp, HB.out⟩
theorem pick_eq (I : In) (n : Int) : bit (stopB I n && ((n - I.nV) % 2 == 0)) = pickOf I n := by
  unfold pickOf
  cases stopB I n with
  | false => rfl
  | true =>
    have : ((n - (I.nV : Int)) % 2 == 0) = !((n - (I.nV : Int)) % 2 == 1) := by
      rcases (show (n - (I.nV : Int)) % 2 = 0 ∨ (n - (I.nV : Int)) % 2 = 1 by omega) with e | e <;> rw [e] <;> rfl
    rw [this]; rfl
theorem drop_eq (I : In) (n : Int) : bit (stopB I n && ((n - I.nV) % 2 == 1)) = dropOf I n := by
  unfold dropOf
  cases stopB I n <;> rfl
set_option maxHeartbeats 1600000 in
theorem reqS (b1 b2 b3 : Option Addr) (d1 d2 d3 : Nat) (I : In) (n : Int) (w : World) (h1 : I.nV ≤ 64) (h2 : I.nQ ≤ 1000) (hs : stopB I n = true) :
    Calls Tryz.prog 66 #[.agg #[.slice b1 I.nV d1, .slice b2 I.nQ d2, .slice b3 I.nR d3], .int .i64 n] w fun e w' => e = .returned (.int .i64 ((n - I.nV) / 2)) ∧ Below w.heap.size w w' := by
  obtain ⟨g1, g2, g3, g4⟩ := stop_bd hs
  have hn : nodes I ≤ 3000 := by unfold nodes; omega
  obtain ⟨k, hk⟩ : ∃ k : Nat, n - I.nV = (k : Int) := ⟨(n - I.nV).toNat, by omega⟩
  have hw : IntKind.i64.wrap (n - (I.nV : Int)) = (k : Int) := by rw [IntKind.wrap_i64]; omega
  rw [hk]
  have k1 : k ≤ 3000 := by omega
  clear hs g1 g2 g3 g4 hk hn
  go_enter Tryz.func66, Tryz.ntmps66
  go_wp2
  go_ret
  exact ⟨rfl, by go_grown⟩
set_option maxHeartbeats 1600000 in
set_option maxRecDepth 100000 in
theorem sizeS (b1 b2 b3 : Option Addr) (d1 d2 d3 : Nat) (I : In) (n : Int) (w : World) (hI : InAt w b1 b2 b3 I) (h1 : I.nV ≤ 64) (h2 : I.nQ ≤ 1000) :
    Calls Tryz.prog 95 #[.agg #[.slice b1 I.nV d1, .slice b2 I.nQ d2, .slice b3 I.nR d3], .int .i64 n] w fun e w' => e = .returned (.int .i64 (sizeOf I n)) ∧ Below w.heap.size w w' := by
  have HI := Hid.mk hI
  clear hI
  go_enter Tryz.func95, Tryz.ntmps95
  go_wp2_with fail
  refine (stopS b1 b2 b3 d1 d2 d3 I n _ (by omega) (by omega)).mono ?_
  rintro e w1 ⟨rfl, hb⟩
  have HB := Hid.mk (below_then (w := w) (by go_grown) hb)
  have A0 := Hid.mk (blk_below (blk_new w _) hb)
  clear hb
  cases hs : stopB I n with
  | false =>
    have hz : Hid (sizeOf I n = 0) := by unfold Hid sizeOf; rw [hs]; rfl
    go_wp2
    go_ret
    exact ⟨by rw [hz.out]; rfl, HB.out⟩
  | true =>
    obtain ⟨g1, g2, g3, g4⟩ := stop_bd hs
    obtain ⟨q, hq⟩ : ∃ q : Nat, (n - I.nV) / 2 = (q : Int) := ⟨((n - I.nV) / 2).toNat, by omega⟩
    have hz : Hid (sizeOf I n = (I.Q q).a) := by unfold Hid sizeOf; rw [hs, hq]; rfl
    have hq0 : (0 : Int) ≤ (q : Int) := by omega
    have hq1 : (q : Int) < (I.nQ : Int) := by omega
    rcases (HI.out.below HB.out).q with h0 | ⟨gq, oq, rfl, hqq⟩
    · omega
    have hc : w1.rangeAt gq (oq + q * 12) (I.Q q).cells := hqq q (by omega)
    obtain ⟨e0, -⟩ := Req.at hc
    have x0 := blk_cell A0.out 0
    have x1 := blk_cell A0.out 1
    have x2 := blk_cell A0.out 2
    simp only [List.getElem?_toArray, List.getElem?_cons_zero, List.getElem?_cons_succ] at x0 x1 x2
    have HQ := Hid.mk hq
    clear hqq hc g1 g2 g3 g4 hq
    go_upto_region 2 with fail
    go_region_held3 (fun w' => w'.cell? ⟨w.heap.size, 0, none⟩ = some (.slice b1 I.nV d1) ∧ w'.cell? ⟨w.heap.size, 1, none⟩ = some (.slice (some ⟨gq, oq, none⟩) I.nQ d2) ∧ w'.cell? ⟨w.heap.size, 2, none⟩ = some (.slice b3 I.nR d3) ∧ w'.cell? ⟨gq, oq + q * 12, none⟩ = some (.int .i64 (I.Q q).a))
      (first | ((repeat' constructor) <;> first | exact cell_keep hb1 (by assumption)) | go_keep)
      ((go_at_call 66; refine (reqS b1 (some ⟨gq, oq, none⟩) b3 d1 d2 d3 I n _ h1 h2 hs).mono ?_; rintro e w2 ⟨rfl, hb1⟩; rw [HQ.out]))
    have HB2 := Hid.mk (below_then HB.out.drew hb1)
    clear hb1
    go_wp2
    go_ret
    exact ⟨by rw [hz.out]; rfl, HB2.out⟩
end Go.Proofs.YtgooegcmgejfpaaGreatDoor.Mac
