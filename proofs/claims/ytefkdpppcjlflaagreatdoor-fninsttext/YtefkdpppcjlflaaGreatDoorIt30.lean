import Derived.Test.YtefkdpppcjlflaaGreatDoorIt22
import Derived.Test.YtefkdpppcjlflaaGreatDoorIt29
import Derived.Lib.SmallJoins
namespace Go.Proofs.YtefkdpppcjlflaaGreatDoor.Draw
open Go Go.RowKit Go.Proofs.YtefkdpppcjlflaaGreatDoor.Mem Go.Proofs.YtefkdpppcjlflaaGreatDoor.Parse
set_option linter.unusedVariables false
set_option linter.unusedSimpArgs false
attribute [local go_sem ↓] Go.wp_at_zero Go.wp_at_succ

theorem ret3 {B g r0 : Nat} {w0 w : World} {bs : List UInt8} {s : DS} {v1 v2 v3 : Value} {a : Acc} (d : DC B g w bs s) (acc : AccAt w0.heap.size w v1 v2 v3 a) (gb : w0.grownBy w (some g)) (z : w.heap[r0]? = some (.cells #[.slice none 0 0, .slice none 0 0, .slice none 0 0] 27)) (hB : B ≤ r0) (hg : r0 ≠ g) (hr : w0.heap.size ≤ r0) : DC B g (((w.setCell ⟨r0, 0, none⟩ v1).setCell ⟨r0, 1, none⟩ v2).setCell ⟨r0, 2, none⟩ v3) bs s ∧ AccAt w0.heap.size (((w.setCell ⟨r0, 0, none⟩ v1).setCell ⟨r0, 1, none⟩ v2).setCell ⟨r0, 2, none⟩ v3) v1 v2 v3 a ∧ w0.grownBy (((w.setCell ⟨r0, 0, none⟩ v1).setCell ⟨r0, 1, none⟩ v2).setCell ⟨r0, 2, none⟩ v3) (some g) ∧ (((w.setCell ⟨r0, 0, none⟩ v1).setCell ⟨r0, 1, none⟩ v2).setCell ⟨r0, 2, none⟩ v3).heap[r0]? = some (.cells #[v1, v2, v3] 27) := by
  have z0 := blk_set z 0 v1
  have z1 := blk_set z0 1 v2
  have z2 := blk_set z1 2 v3
  simp only [List.setIfInBounds_toArray, List.set_cons_zero, List.set_cons_succ] at z0 z1 z2
  exact ⟨((d.other hB hg.symm).other hB hg.symm).other hB hg.symm, ⟨row_far (row_far (row_far acc.v z (by decide)) z0 (by decide)) z1 (by decide), row_far (row_far (row_far acc.q z (by decide)) z0 (by decide)) z1 (by decide), row_far (row_far (row_far acc.r z (by decide)) z0 (by decide)) z1 (by decide)⟩, gb_new (gb_new (gb_new gb hr) hr) hr, z2⟩
/-- An instance as it is drawn for the printer: once in six with a place spoilt. -/
def dMaybe (bs : List UInt8) (s : DS) (a : Acc) : Acc × DS := if (dOnce bs s 6).1 then dSpoil bs (dOnce bs s 6).2 a else (a, (dOnce bs s 6).2)
set_option maxHeartbeats 6400000 in
set_option maxRecDepth 1000000 in
theorem maybeD (B g : Nat) (bs : List UInt8) (s : DS) (w0 w : World) (L1 : List Veh) (L2 : List Req) (R : List Rd) (v1 v2 v3 : Value) (hB : B ≤ g) (hBs : B ≤ w0.heap.size) (hl : bs.length ≤ 1048576) (hg0 : g < w0.heap.size) (hV : L1.length ≤ 800) (hQ : L2.length ≤ 800) (hR : R.length ≤ 800) (hd : DC B g w bs s) (hacc : AccAt w0.heap.size w v1 v2 v3 ⟨L1, L2, R⟩) (hgb : w0.grownBy w (some g)) :
    Calls Tryz.prog 12 #[.pointer (some ⟨g, 0, none⟩), .agg #[v1, v2, v3]] w fun e w' => ∃ v1 v2 v3, e = .returned (.agg #[v1, v2, v3]) ∧ DC B g w' bs (dMaybe bs s ⟨L1, L2, R⟩).2 ∧ AccAt w0.heap.size w' v1 v2 v3 (dMaybe bs s ⟨L1, L2, R⟩).1 ∧ w0.grownBy w' (some g) := by
  obtain ⟨oo, hoo⟩ : ∃ x, x = (dOnce bs s 6).1 := ⟨_, rfl⟩
  obtain ⟨s1, hs1⟩ : ∃ x, x = (dOnce bs s 6).2 := ⟨_, rfl⟩
  have C1 : Hid (∀ w, DC B g w bs s → Calls Tryz.prog 25 #[.pointer (some ⟨g, 0, none⟩), .int .i64 6] w fun e w' => e = .returned (.bool oo) ∧ DC B g w' bs s1 ∧ w.grownBy w' (some g)) := fun w hd => by rw [hoo, hs1]; exact onceD B g bs s 6 w hB hd hl (by omega) (by omega)
  have HM : Hid (dMaybe bs s ⟨L1, L2, R⟩ = if oo then dSpoil bs s1 ⟨L1, L2, R⟩ else (⟨L1, L2, R⟩, s1)) := by unfold Hid dMaybe; rw [hoo, hs1]
  clear hoo hs1
  obtain ⟨b1, l1, m1, e1⟩ : ∃ a n c, v1 = .slice a n c := by obtain ⟨a, c, h, -⟩ := row_shape hacc.v; exact ⟨_, _, _, h⟩
  obtain ⟨b2, l2, m2, e2⟩ : ∃ a n c, v2 = .slice a n c := by obtain ⟨a, c, h, -⟩ := row_shape hacc.q; exact ⟨_, _, _, h⟩
  obtain ⟨b3, l3, m3, e3⟩ : ∃ a n c, v3 = .slice a n c := by obtain ⟨a, c, h, -⟩ := row_shape hacc.r; exact ⟨_, _, _, h⟩
  subst e1 e2 e3
  have hsz := hgb.size
  obtain ⟨W0, hW0⟩ : ∃ W, W = w.alloc (.cells #[.slice b1 l1 m1, .slice b2 l2 m2, .slice b3 l3 m3] 27) := ⟨_, rfl⟩
  have hz0 : W0.heap.size = w.heap.size + 1 := by rw [hW0]; simp
  have A0 : Hid (Below w.heap.size w W0) := by rw [hW0]; exact below_alloc' (Below.refl _ _) _
  have X0 : Hid (W0.heap[w.heap.size]? = some (.cells #[.slice b1 l1 m1, .slice b2 l2 m2, .slice b3 l3 m3] 27)) := by rw [hW0]; exact blk_new _ _
  obtain ⟨W1, hW1⟩ : ∃ W, W = W0.alloc (.cells #[.slice none 0 0, .slice none 0 0, .slice none 0 0] 27) := ⟨_, rfl⟩
  have A1 : Hid (Below W0.heap.size W0 W1) := by rw [hW1]; exact below_alloc' (Below.refl _ _) _
  have I0 : Hid (IS B g w.heap.size (w.heap.size + 1) w0 W1 bs s (.slice b1 l1 m1) (.slice b2 l2 m2) (.slice b3 l3 m3) ⟨L1, L2, R⟩) :=
    ⟨(hd.keep (by omega) A0.out).keep (by omega) A1.out, blk_below X0.out A1.out, by rw [hW1, ← hz0]; exact blk_new _ _, (hacc.below A0.out).below A1.out, gb_then (gb_then hgb (gb_below A0.out)) (gb_below A1.out)⟩
  have hI1 : w.heap.size ≠ g := by omega
  have hI2 : w.heap.size + 1 ≠ g := by omega
  have hI3 : w.heap.size ≠ w.heap.size + 1 := by omega
  have hI4 : w.heap.size + 1 ≠ w.heap.size := by omega
  clear hd hacc hgb X0 A0 A1 hz0
  go_enter Tryz.func12, Tryz.ntmps12
  go_wp2_with fail
  rw [← hW0, ← hW1]
  clear hW0 hW1
  refine (C1.out _ I0.out.d).mono ?_
  rintro e w1 ⟨rfl, d1, g1⟩
  have J0 := Hid.mk (I0.out.call d1 g1 hI1 hI2)
  clear d1 g1 I0 C1
  have r0 := (blk_cell J0.out.x 0).trans (show _ = some (.slice b1 l1 m1) from rfl)
  have r1 := (blk_cell J0.out.x 1).trans (show _ = some (.slice b2 l2 m2) from rfl)
  have r2 := (blk_cell J0.out.x 2).trans (show _ = some (.slice b3 l3 m3) from rfl)
  cases oo with
  | true =>
    go_wp2_with fail
    refine (spoilD (w.heap.size + 1) B g bs s1 w0 _ L1 L2 R _ _ _ hB hBs hl hg0 hV hQ hR J0.out.d J0.out.acc J0.out.gb hI2 J0.out.z).mono ?_
    rintro e w2 ⟨a1, a2, a3, rfl, d2, acc2, gb2, z2⟩
    clear r0 r1 r2 J0
    obtain ⟨b1, l1, m1, e1⟩ : ∃ a n c, a1 = .slice a n c := by obtain ⟨a, c, h, -⟩ := row_shape acc2.v; exact ⟨_, _, _, h⟩
    obtain ⟨b2, l2, m2, e2⟩ : ∃ a n c, a2 = .slice a n c := by obtain ⟨a, c, h, -⟩ := row_shape acc2.q; exact ⟨_, _, _, h⟩
    obtain ⟨b3, l3, m3, e3⟩ : ∃ a n c, a3 = .slice a n c := by obtain ⟨a, c, h, -⟩ := row_shape acc2.r; exact ⟨_, _, _, h⟩
    subst e1 e2 e3
    have hm := HM.out
    simp only [if_true] at hm
    rw [← hm] at d2 acc2
    have PK := Hid.mk (And.intro d2 (And.intro acc2 (And.intro gb2 z2)))
    have u0' := (blk_cell z2 0).trans (show _ = some (.slice none 0 0) from rfl)
    have u1' := (blk_cell z2 1).trans (show _ = some (.slice none 0 0) from rfl)
    have u2' := (blk_cell z2 2).trans (show _ = some (.slice none 0 0) from rfl)
    have v0 := blk_unfrozen z2 0
    have v1 := blk_unfrozen z2 1
    have v2 := blk_unfrozen z2 2
    clear d2 acc2 gb2 z2 hm
    go_wp2
    clear u0' u1' u2' v0 v1 v2
    obtain ⟨c1, c2, c3, c4⟩ := ret3 PK.out.1 PK.out.2.1 PK.out.2.2.1 PK.out.2.2.2 (by omega) hI2 (by omega)
    obtain ⟨Z, hZ⟩ : ∃ Z : World, Z = ((w2.setCell ⟨w.heap.size + 1, 0, none⟩ (.slice b1 l1 m1)).setCell ⟨w.heap.size + 1, 1, none⟩ (.slice b2 l2 m2)).setCell ⟨w.heap.size + 1, 2, none⟩ (.slice b3 l3 m3) := ⟨_, rfl⟩
    rw [← hZ] at c1 c2 c3 c4 ⊢
    clear hZ
    obtain ⟨s0, s1', s2'⟩ := rec3 c4
    refine bodyPost_ret (v := .agg #[.slice b1 l1 m1, .slice b2 l2 m2, .slice b3 l3 m3]) (by simp [results, Tryz.results12, go_sem, s0, s1', s2']; try rfl) rfl ⟨_, _, _, rfl, c1, c2, c3⟩
  | false =>
    have u0' := (blk_cell J0.out.z 0).trans (show _ = some (.slice none 0 0) from rfl)
    have u1' := (blk_cell J0.out.z 1).trans (show _ = some (.slice none 0 0) from rfl)
    have u2' := (blk_cell J0.out.z 2).trans (show _ = some (.slice none 0 0) from rfl)
    have v0 := blk_unfrozen J0.out.z 0
    have v1 := blk_unfrozen J0.out.z 1
    have v2 := blk_unfrozen J0.out.z 2
    go_wp2
    clear r0 r1 r2 u0' u1' u2' v0 v1 v2
    obtain ⟨c1, c2, c3, c4⟩ := J0.out.ret (by omega) hI2 (by omega)
    clear J0
    obtain ⟨Z, hZ⟩ : ∃ Z : World, Z = ((w1.setCell ⟨w.heap.size + 1, 0, none⟩ (.slice b1 l1 m1)).setCell ⟨w.heap.size + 1, 1, none⟩ (.slice b2 l2 m2)).setCell ⟨w.heap.size + 1, 2, none⟩ (.slice b3 l3 m3) := ⟨_, rfl⟩
    rw [← hZ] at c1 c2 c3 c4 ⊢
    clear hZ
    obtain ⟨s0, s1', s2'⟩ := rec3 c4
    have hm := HM.out
    simp only [Bool.false_eq_true, if_false] at hm
    refine bodyPost_ret (v := .agg #[.slice b1 l1 m1, .slice b2 l2 m2, .slice b3 l3 m3]) (by simp [results, Tryz.results12, go_sem, s0, s1', s2']; try rfl) rfl ⟨_, _, _, rfl, by rw [hm]; exact c1, by rw [hm]; exact c2, c3⟩
end Go.Proofs.YtefkdpppcjlflaaGreatDoor.Draw
namespace Go.Proofs.YtefkdpppcjlflaaGreatDoor.Draw
open Go Go.RowKit Go.Proofs.YtefkdpppcjlflaaGreatDoor.Mem Go.Proofs.YtefkdpppcjlflaaGreatDoor.Parse
set_option linter.unusedVariables false
set_option linter.unusedSimpArgs false
attribute [local go_sem ↓] Go.wp_at_zero Go.wp_at_succ

theorem ite_le {c : Prop} [Decidable c] {a b n : Nat} (ha : a ≤ n) (hb : b ≤ n) : (if c then a else b) ≤ n := by split <;> assumption
theorem limV_len (bs : List UInt8) (s : DS) (L : List Veh) : (limV bs s L).1.length = L.length := by
  unfold limV; dsimp only; split
  · exact List.length_set
  · rfl
theorem limQ_len (bs : List UInt8) (s : DS) (L : List Req) : (limQ bs s L).1.length = L.length := by
  unfold limQ; dsimp only; split
  · exact List.length_set
  · rfl
theorem rds_len (bs : List UInt8) (n : Nat) (s : DS) : (rdsOf bs n s).1.length ≤ 4 := by
  unfold rdsOf; split
  · dsimp only; split
    · have h1 := (roads_bd bs n (dBelow bs (dOnce bs s 2).2 4).2 (by omega) (1 + (dBelow bs (dOnce bs s 2).2 4).1)).2.2.2
      have h2 := below_lt bs (dOnce bs s 2).2 (show 0 < 4 by omega)
      dsimp only; omega
    · exact Nat.zero_le _
  · exact Nat.zero_le _
theorem inst_len (bs : List UInt8) (s : DS) (vs rs : Nat) (hv : 0 < vs) (hr : 0 < rs) : (dInst bs s vs rs).1.V.length ≤ vs ∧ (dInst bs s vs rs).1.Q.length ≤ rs ∧ (dInst bs s vs rs).1.R.length ≤ 4 := by
  have h1 : (dHead bs s vs rs).1 ≤ vs := by
    have := below_lt bs s hv
    unfold dHead
    exact ite_le (Nat.zero_le _) (by omega)
  have h2 : (dHead bs s vs rs).2.1 ≤ rs := by
    have := below_lt bs (dOnce bs (dBelow bs s vs).2 2).2 hr
    unfold dHead
    exact ite_le (Nat.zero_le _) (ite_le (by omega) (Nat.le_refl _))
  unfold dInst instTail
  dsimp only
  rw [limV_len, limQ_len, vehs_len, reqs_len]
  exact ⟨h1, h2, rds_len _ _ _⟩
theorem dSize6 (n : Nat) : 0 < dSize n 6 ∧ dSize n 6 ≤ 6 := by
  unfold dSize; split <;> omega
/-- The instance that is drawn for the printer. -/
def dPrint (bs : List UInt8) : Acc := (dMaybe bs (dInst bs ⟨0, startH bs.length bs⟩ 3 (dSize bs.length 6)).2 (dInst bs ⟨0, startH bs.length bs⟩ 3 (dSize bs.length 6)).1).1
set_option maxHeartbeats 6400000 in
set_option maxRecDepth 1000000 in
theorem drawD (B : Nat) (v : Value) (bs : List UInt8) (w : World) (hBs : B ≤ w.heap.size) (ht : Txt B w v bs) (hl : bs.length ≤ 1048576) :
    Calls Tryz.prog 4 #[v] w fun e w' => ∃ a1 a2 a3, e = .returned (.agg #[a1, a2, a3]) ∧ AccAt w.heap.size w' a1 a2 a3 (dPrint bs) ∧ Below w.heap.size w w' := by
  obtain ⟨W1, hW1⟩ : ∃ W, W = w.alloc (.cells #[.slice none 0 0, .slice none 0 0, .slice none 0 0] 27) := ⟨_, rfl⟩
  have hz1 : W1.heap.size = w.heap.size + 1 := by rw [hW1]; simp
  have A1 : Hid (Below w.heap.size w W1) := by rw [hW1]; exact below_alloc' (Below.refl _ _) _
  have X1 : Hid (W1.heap[w.heap.size]? = some (.cells #[.slice none 0 0, .slice none 0 0, .slice none 0 0] 27)) := by rw [hW1]; exact blk_new _ _
  have T1 : Hid (Txt B W1 v bs) := ht.below (A1.out.mono hBs)
  obtain ⟨p, c, hv, -, -, -⟩ := ht.rd
  subst hv
  obtain ⟨nb, hnb⟩ : ∃ x, x = bs.length := ⟨_, rfl⟩
  have HNB := Hid.mk hnb
  obtain ⟨s0, hs0⟩ : ∃ x : DS, x = ⟨0, startH bs.length bs⟩ := ⟨_, rfl⟩
  obtain ⟨rs, hrs⟩ : ∃ x, x = dSize bs.length 6 := ⟨_, rfl⟩
  have hr1 : 0 < rs := by rw [hrs]; exact (dSize6 _).1
  have hr2 : rs ≤ 6 := by rw [hrs]; exact (dSize6 _).2
  have HS0 := Hid.mk (And.intro hs0 hrs)
  have C1 : Hid (∀ w, B ≤ w.heap.size → Txt B w (.slice p nb c) bs → Calls Tryz.prog 9 #[.slice p nb c] w fun e w' => ∃ g, e = .returned (.pointer (some ⟨g, 0, none⟩)) ∧ w.heap.size ≤ g ∧ DC B g w' bs s0 ∧ Below w.heap.size w w') := fun w hw h => by rw [hs0]; exact newD B _ bs w hw h hl
  have C2 : Hid (∀ w, Calls Tryz.prog 11 #[.slice p nb c, .int .i64 6] w fun e w' => e = .returned (.int .i64 (rs : Int)) ∧ w' = w) := fun w => by rw [hrs, ← hnb]; exact sizeD p nb c 6 w (by omega) (by omega)
  rw [← hnb] at T1 ⊢
  clear hs0 hrs hnb ht
  go_enter Tryz.func4, Tryz.ntmps4
  go_wp2_with fail
  rw [← hW1]
  clear hW1
  refine (C1.out _ (by omega) T1.out).mono ?_
  rintro e w2 ⟨g, rfl, hg, d2, b2⟩
  have D2 := Hid.mk d2
  have B2 := Hid.mk b2
  have hsz2 := b2.size
  clear d2 b2 C1 T1
  go_wp2_with fail
  refine (C2.out _).mono ?_
  rintro e w3 ⟨rfl, rfl⟩
  go_wp2_with fail
  have HX : ∀ x : Acc × DS, ∃ L1 L2 R s1, x = (⟨L1, L2, R⟩, s1) := fun ⟨⟨L1, L2, R⟩, s1⟩ => ⟨L1, L2, R, s1, rfl⟩
  have hI := inst_len bs s0 3 rs (by omega) hr1
  have CI := instD B g bs s0 3 rs w3 (by omega) (by omega) D2.out hl (by omega) (by omega) hr1 (by omega)
  obtain ⟨L1, L2, R, s1, hIA⟩ := HX (dInst bs s0 3 rs)
  rw [hIA] at hI CI
  simp only at hI CI
  have HP : Hid (dPrint bs = (dMaybe bs s1 ⟨L1, L2, R⟩).1) := by unfold Hid dPrint; rw [← HS0.out.1, ← HS0.out.2, hIA]
  clear HX hIA HS0
  refine Calls.mono CI ?_
  rintro e w4 ⟨a1, a2, a3, rfl, d4, acc4, g4⟩
  obtain ⟨b1, l1, m1, e1⟩ : ∃ a n c, a1 = .slice a n c := by obtain ⟨a, c, h, -⟩ := row_shape acc4.v; exact ⟨_, _, _, h⟩
  subst e1
  obtain ⟨b2, l2, m2, e1⟩ : ∃ a n c, a2 = .slice a n c := by obtain ⟨a, c, h, -⟩ := row_shape acc4.q; exact ⟨_, _, _, h⟩
  subst e1
  obtain ⟨b3, l3, m3, e1⟩ : ∃ a n c, a3 = .slice a n c := by obtain ⟨a, c, h, -⟩ := row_shape acc4.r; exact ⟨_, _, _, h⟩
  subst e1
  obtain ⟨W5, hW5⟩ : ∃ W, W = w4.alloc (.cells #[.slice b1 l1 m1, .slice b2 l2 m2, .slice b3 l3 m3] 27) := ⟨_, rfl⟩
  have A5 : Below w4.heap.size w4 W5 := by rw [hW5]; exact below_alloc' (Below.refl _ _) _
  have hs4 := g4.size
  have CM := maybeD B g bs s1 w3 W5 L1 L2 R _ _ _ (by omega) (by omega) hl D2.out.lt (by omega) (by omega) (by omega) (d4.keep (by omega) A5) (acc4.below A5) (gb_then g4 (gb_below A5))
  have HCM := Hid.mk CM
  clear CM CI d4 acc4 g4 A5
  go_wp2_with fail
  rw [← hW5]
  clear hW5
  refine Calls.mono HCM.out ?_
  rintro e w6 ⟨c1, c2, c3, rfl, d6, acc6, g6⟩
  obtain ⟨b1, l1, m1, e1⟩ : ∃ a n c, c1 = .slice a n c := by obtain ⟨a, c, h, -⟩ := row_shape acc6.v; exact ⟨_, _, _, h⟩
  subst e1
  obtain ⟨b2, l2, m2, e1⟩ : ∃ a n c, c2 = .slice a n c := by obtain ⟨a, c, h, -⟩ := row_shape acc6.q; exact ⟨_, _, _, h⟩
  subst e1
  obtain ⟨b3, l3, m3, e1⟩ : ∃ a n c, c3 = .slice a n c := by obtain ⟨a, c, h, -⟩ := row_shape acc6.r; exact ⟨_, _, _, h⟩
  subst e1
  have z6 : w6.heap[w.heap.size]? = some (.cells #[.slice none 0 0, .slice none 0 0, .slice none 0 0] 27) := blk_grown (blk_below X1.out B2.out) g6 (by omega)
  have BZ : Below w.heap.size w w6 := (below_then A1.out B2.out).grown g6 (by omega) (fun k hk => by injection hk with hk; omega)
  rw [← HP.out] at acc6
  have PK := Hid.mk (And.intro acc6 (And.intro z6 BZ))
  have u0' := (blk_cell z6 0).trans (show _ = some (.slice none 0 0) from rfl)
  have u1' := (blk_cell z6 1).trans (show _ = some (.slice none 0 0) from rfl)
  have u2' := (blk_cell z6 2).trans (show _ = some (.slice none 0 0) from rfl)
  have v0 := blk_unfrozen z6 0
  have v1 := blk_unfrozen z6 1
  have v2 := blk_unfrozen z6 2
  clear d6 acc6 g6 z6 BZ HP HCM D2
  go_wp2
  clear u0' u1' u2' v0 v1 v2
  obtain ⟨acc6, z6, BZ⟩ := PK.out
  have z0 := blk_set z6 0 (.slice b1 l1 m1)
  have z1 := blk_set z0 1 (.slice b2 l2 m2)
  have z2 := blk_set z1 2 (.slice b3 l3 m3)
  simp only [List.setIfInBounds_toArray, List.set_cons_zero, List.set_cons_succ] at z0 z1 z2
  have q1 := row_far (i := 2) (v := .slice b3 l3 m3) (row_far (i := 1) (v := .slice b2 l2 m2) (row_far (i := 0) (v := .slice b1 l1 m1) acc6.v z6 (by decide)) z0 (by decide)) z1 (by decide)
  have q2 := row_far (i := 2) (v := .slice b3 l3 m3) (row_far (i := 1) (v := .slice b2 l2 m2) (row_far (i := 0) (v := .slice b1 l1 m1) acc6.q z6 (by decide)) z0 (by decide)) z1 (by decide)
  have q3 := row_far (i := 2) (v := .slice b3 l3 m3) (row_far (i := 1) (v := .slice b2 l2 m2) (row_far (i := 0) (v := .slice b1 l1 m1) acc6.r z6 (by decide)) z0 (by decide)) z1 (by decide)
  have q4 := below_set (below_set (below_set BZ ⟨w.heap.size, 0, none⟩ (Nat.le_refl _) (.slice b1 l1 m1)) ⟨w.heap.size, 1, none⟩ (Nat.le_refl _) (.slice b2 l2 m2)) ⟨w.heap.size, 2, none⟩ (Nat.le_refl _) (.slice b3 l3 m3)
  clear acc6 z6 BZ z0 z1 PK
  obtain ⟨Z, hZ⟩ : ∃ Z : World, Z = ((w6.setCell ⟨w.heap.size, 0, none⟩ (.slice b1 l1 m1)).setCell ⟨w.heap.size, 1, none⟩ (.slice b2 l2 m2)).setCell ⟨w.heap.size, 2, none⟩ (.slice b3 l3 m3) := ⟨_, rfl⟩
  rw [← hZ] at q1 q2 q3 q4 z2 ⊢
  clear hZ
  obtain ⟨t0, t1, t2⟩ := rec3 z2
  refine bodyPost_ret (v := .agg #[.slice b1 l1 m1, .slice b2 l2 m2, .slice b3 l3 m3]) (by simp [results, Tryz.results4, go_sem, t0, t1, t2]; try rfl) rfl ⟨_, _, _, rfl, ⟨Joins.ownsRow_le q1 (by omega), Joins.ownsRow_le q2 (by omega), Joins.ownsRow_le q3 (by omega)⟩, q4⟩
end Go.Proofs.YtefkdpppcjlflaaGreatDoor.Draw
