import Derived.Test.YtefkdpppcjlflaaGreatDoorIt17
import Derived.Test.YtefkdpppcjlflaaGreatDoorIt18
import Derived.Test.YtefkdpppcjlflaaGreatDoorIt19
import Derived.Test.YtefkdpppcjlflaaGreatDoorIt20
import Derived.Test.YtefkdpppcjlflaaGreatDoorIt21
import Derived.Deep.DeepCutAuto
namespace Go.Proofs.YtefkdpppcjlflaaGreatDoor.Draw
open Go Go.RowKit Go.Proofs.YtefkdpppcjlflaaGreatDoor.Mem Go.Proofs.YtefkdpppcjlflaaGreatDoor.Parse
set_option linter.unusedVariables false
set_option linter.unusedSimpArgs false
attribute [local go_sem ↓] Go.wp_at_zero Go.wp_at_succ


set_option maxHeartbeats 6400000 in
set_option maxRecDepth 1000000 in
theorem instD (B g : Nat) (bs : List UInt8) (s : DS) (vs rs : Nat) (w : World) (hB : B ≤ g) (hBs : B ≤ w.heap.size) (h : DC B g w bs s) (hl : bs.length ≤ 1048576) (hv1 : 0 < vs) (hv2 : vs ≤ 60) (hr1 : 0 < rs) (hr2 : rs ≤ 900) :
    Calls Tryz.prog 10 #[.pointer (some ⟨g, 0, none⟩), .int .i64 (vs : Int), .int .i64 (rs : Int)] w fun e w' => ∃ v1 v2 v3, e = .returned (.agg #[v1, v2, v3]) ∧ DC B g w' bs (dInst bs s vs rs).2 ∧ AccAt w.heap.size w' v1 v2 v3 (dInst bs s vs rs).1 ∧ w.grownBy w' (some g) := by
  have hgl := h.lt
  obtain ⟨n0, hn0⟩ : ∃ x, x = 1 + (dBelow bs s vs).1 := ⟨_, rfl⟩
  obtain ⟨s1, hs1⟩ : ∃ t, t = (dBelow bs s vs).2 := ⟨_, rfl⟩
  obtain ⟨o2, ho2⟩ : ∃ x, x = (dOnce bs s1 2).1 := ⟨_, rfl⟩
  obtain ⟨s2, hs2⟩ : ∃ t, t = (dOnce bs s1 2).2 := ⟨_, rfl⟩
  obtain ⟨m3, hm3⟩ : ∃ x, x = 1 + (dBelow bs s2 rs).1 := ⟨_, rfl⟩
  obtain ⟨s3', hs3'⟩ : ∃ t, t = (dBelow bs s2 rs).2 := ⟨_, rfl⟩
  obtain ⟨m, hm⟩ : ∃ x, x = if o2 then m3 else rs := ⟨_, rfl⟩
  obtain ⟨s3, hs3⟩ : ∃ t, t = if o2 then s3' else s2 := ⟨_, rfl⟩
  have C1 : Hid (∀ w, DC B g w bs s → Calls Tryz.prog 24 #[.pointer (some ⟨g, 0, none⟩), .int .i64 1, .int .i64 (vs : Int)] w fun e w' => e = .returned (.int .i64 (n0 : Int)) ∧ DC B g w' bs s1 ∧ w.grownBy w' (some g)) := fun w hd => by
    have := rangeD B g bs s 1 (vs : Int) w hB hd hl (by omega) (by omega) (by omega)
    unfold dRange at this
    rw [show ((vs : Int) - 1 + 1).toNat = vs by omega] at this
    rw [hn0, hs1, Int.natCast_add]; exact this
  have C2 : Hid (∀ w, DC B g w bs s1 → Calls Tryz.prog 25 #[.pointer (some ⟨g, 0, none⟩), .int .i64 2] w fun e w' => e = .returned (.bool o2) ∧ DC B g w' bs s2 ∧ w.grownBy w' (some g)) := fun w hd => by rw [ho2, hs2]; exact onceD B g bs s1 2 w hB hd hl (by omega) (by omega)
  have C3 : Hid (∀ w, DC B g w bs s2 → Calls Tryz.prog 24 #[.pointer (some ⟨g, 0, none⟩), .int .i64 1, .int .i64 (rs : Int)] w fun e w' => e = .returned (.int .i64 (m3 : Int)) ∧ DC B g w' bs s3' ∧ w.grownBy w' (some g)) := fun w hd => by
    have := rangeD B g bs s2 1 (rs : Int) w hB hd hl (by omega) (by omega) (by omega)
    unfold dRange at this
    rw [show ((rs : Int) - 1 + 1).toNat = rs by omega] at this
    rw [hm3, hs3', Int.natCast_add]; exact this
  obtain ⟨o4, ho4⟩ : ∃ x, x = (dOnce bs s3 25).1 := ⟨_, rfl⟩
  obtain ⟨s4, hs4⟩ : ∃ t, t = (dOnce bs s3 25).2 := ⟨_, rfl⟩
  obtain ⟨o5, ho5⟩ : ∃ x, x = (dOnce bs s4 25).1 := ⟨_, rfl⟩
  obtain ⟨s5, hs5⟩ : ∃ t, t = (dOnce bs s4 25).2 := ⟨_, rfl⟩
  obtain ⟨nv, hnv⟩ : ∃ x, x = if o4 then 0 else n0 := ⟨_, rfl⟩
  obtain ⟨nr, hnr⟩ : ∃ x, x = if o5 then 0 else m := ⟨_, rfl⟩
  have C4 : Hid (∀ w, DC B g w bs s3 → Calls Tryz.prog 25 #[.pointer (some ⟨g, 0, none⟩), .int .i64 25] w fun e w' => e = .returned (.bool o4) ∧ DC B g w' bs s4 ∧ w.grownBy w' (some g)) := fun w hd => by rw [ho4, hs4]; exact onceD B g bs s3 25 w hB hd hl (by omega) (by omega)
  have C5 : Hid (∀ w, DC B g w bs s4 → Calls Tryz.prog 25 #[.pointer (some ⟨g, 0, none⟩), .int .i64 25] w fun e w' => e = .returned (.bool o5) ∧ DC B g w' bs s5 ∧ w.grownBy w' (some g)) := fun w hd => by rw [ho5, hs5]; exact onceD B g bs s4 25 w hB hd hl (by omega) (by omega)
  have hnbnv : Hid (nv ≤ 60) := by
    unfold Hid
    have := below_lt bs s hv1
    rw [hnv]; split <;> omega
  have hnbnr : Hid (nr ≤ 900) := by
    unfold Hid
    have := below_lt bs s2 hr1
    rw [hnr, hm]; split
    · omega
    · split <;> omega
  have NE := Hid.mk hnv
  have RE := Hid.mk hnr
  have OE := Hid.mk (And.intro hm hs3)
  have HH : Hid (dHead bs s vs rs = (nv, nr, s5)) := by
    unfold Hid dHead
    simp only [hnr, hnv, hs5, ho5, hs4, ho4, hs3, hm, hs3', hm3, hs2, ho2, hs1, hn0]
  clear ho4 hs4 ho5 hs5 hnv hnr
  obtain ⟨W0, hW0⟩ : ∃ W, W = w.alloc (.cells #[.slice none 0 0, .slice none 0 0, .slice none 0 0] 27) := ⟨_, rfl⟩
  have hz0 : W0.heap.size = w.heap.size + 1 := by rw [hW0]; simp
  have A0 : Hid (Below w.heap.size w W0) := by rw [hW0]; exact below_alloc' (Below.refl _ _) _
  have X0 : Hid (W0.heap[w.heap.size]? = some (.cells #[.slice none 0 0, .slice none 0 0, .slice none 0 0] 27)) := by rw [hW0]; exact blk_new _ _
  obtain ⟨W1, hW1⟩ : ∃ W, W = W0.alloc (.cells #[.slice none 0 0, .slice none 0 0, .slice none 0 0] 27) := ⟨_, rfl⟩
  have A1 : Hid (Below W0.heap.size W0 W1) := by rw [hW1]; exact below_alloc' (Below.refl _ _) _
  have I0 : Hid (IS B g (w.heap.size + 1) w.heap.size w W1 bs s (.slice none 0 0) (.slice none 0 0) (.slice none 0 0) ⟨[], [], []⟩) :=
    ⟨(h.keep hBs A0.out).keep (by omega) A1.out, by rw [hW1, ← hz0]; exact blk_new _ _, blk_below X0.out A1.out, ⟨⟨by simp, Or.inl ⟨rfl, rfl⟩⟩, ⟨by simp, Or.inl ⟨rfl, rfl⟩⟩, ⟨by simp, Or.inl ⟨rfl, rfl⟩⟩⟩, gb_below (below_then A0.out A1.out)⟩
  have hI1 : w.heap.size + 1 ≠ g := by omega
  have hI2 : w.heap.size ≠ g := by omega
  clear h hn0 hs1 ho2 hs2 hm3 hs3' hm hs3
  go_enter Tryz.func10, Tryz.ntmps10
  go_wp2_with fail
  rw [← hW0, ← hW1]
  clear hW0 hW1 X0
  refine (C1.out _ I0.out.d).mono ?_
  rintro e w1 ⟨rfl, d1, g1⟩
  have I1 := Hid.mk (I0.out.call d1 g1 hI1 hI2)
  clear d1 g1 I0
  go_wp2_with fail
  refine (C2.out _ I1.out.d).mono ?_
  rintro e w2 ⟨rfl, d2, g2⟩
  have I2 := Hid.mk (I1.out.call d2 g2 hI1 hI2)
  clear d2 g2 I1
  go_upto_if 28 with fail
  go_cut [9] (fun v wx => v = .int .i64 (m : Int) ∧ Hid (IS B g (w.heap.size + 1) w.heap.size w wx bs s3 (.slice none 0 0) (.slice none 0 0) (.slice none 0 0) ⟨[], [], []⟩))
  case first =>
    as_aux_lemma =>
      obtain ⟨hm, hs3⟩ := OE.out
      cases o2 with
      | true =>
        simp only [if_true] at hm hs3
        subst hm hs3
        go_wp2_with fail
        refine (C3.out _ I2.out.d).mono ?_
        rintro e w3 ⟨rfl, d3, g3⟩
        have I3 := Hid.mk (I2.out.call d3 g3 hI1 hI2)
        clear d3 g3
        go_wp2_with fail
        go_meet
        exact ⟨rfl, I3.out⟩
      | false =>
        simp only [Bool.false_eq_true, if_false] at hm hs3
        subst hm hs3
        go_wp2_with fail
        go_meet
        exact ⟨rfl, I2.out⟩
  case rest =>
    obtain ⟨rfl, I3⟩ := hcut
    (rename ∀ (a : Act) (w : World), Code.wp _ _ _ a w → _ => hK0; refine hK0 _ _ ?_; clear hK0)
    clear I2 OE
    go_wp2_with fail
    refine (C4.out _ I3.out.d).mono ?_
    rintro e w4 ⟨rfl, d4, g4⟩
    have I4 := Hid.mk (I3.out.call d4 g4 hI1 hI2)
    clear d4 g4 I3
    go_upto_if 33 with fail
    go_cut [8] (fun v wx => v = .int .i64 (nv : Int) ∧ wx = w4)
    case first =>
      as_aux_lemma =>
        have hnv := NE.out
        cases o4 with
        | true =>
          simp only [if_true] at hnv
          go_wp2_with fail
          go_meet
          exact ⟨by rw [hnv]; rfl, rfl⟩
        | false =>
          simp only [Bool.false_eq_true, if_false] at hnv
          go_wp2_with fail
          go_meet
          exact ⟨by rw [hnv], rfl⟩
    case rest =>
      obtain ⟨rfl, rfl⟩ := hcut
      (rename ∀ (a : Act) (w : World), Code.wp _ _ _ a w → _ => hK0; refine hK0 _ _ ?_; clear hK0)
      go_wp2_with fail
      refine (C5.out _ I4.out.d).mono ?_
      rintro e w5 ⟨rfl, d5, g5⟩
      have I5 := Hid.mk (I4.out.call d5 g5 hI1 hI2)
      clear d5 g5 I4
      go_upto_if 35 with fail
      go_cut [9] (fun v wx => v = .int .i64 (nr : Int) ∧ wx = w5)
      case first =>
        as_aux_lemma =>
          have hnr := RE.out
          cases o5 with
          | true =>
            simp only [if_true] at hnr
            go_wp2_with fail
            go_meet
            exact ⟨by rw [hnr]; rfl, rfl⟩
          | false =>
            simp only [Bool.false_eq_true, if_false] at hnr
            go_wp2_with fail
            go_meet
            exact ⟨by rw [hnr], rfl⟩
      case rest =>
        obtain ⟨rfl, rfl⟩ := hcut
        (rename ∀ (a : Act) (w : World), Code.wp _ _ _ a w → _ => hK0; refine hK0 _ _ ?_; clear hK0)
        (try clear C1 C2 C3 C4 C5 NE RE A0 A1 hz0)
        refine wp_seq_k (fun K1 h1 => ?_)
        refine vehSeg B g bs w _ hB hBs hl hgl nv nr hnbnv hnbnr hI1 hI2 s5 I5 _ _ _ _ _ _ _ _ _ _ _ _ _ _ _ _ _ _ _ _ _ _ _ _ _ _ _ _ _ _ _ _ _ _ _ _ _ _ _ _ _ _ _ _ _ _ _ _ _ _ _ _ _ _ _ _ _ _ _ _ _ _ _ _ _ _ _ _ _ _ _ _ _ _ _ _ _ _ _ _ _ _ _ _ _ _ _ _ _ _ _ _ _ _ _ _ _ _ _ _ _ _ _ _ _ _ _ _ _ _ _ _ _ _ _ _ _ _ _ _ _ _ _ _ _ _ _ _ _ _ _ _ _ _ _ _ _ _ _ _ _ _ _ _ _ _ _ _ _ _ _ _ _ _ _ _ _ _ _ _ _ _ _ _ _ _ _ _ _ _ _ _ _ _ _ _ _ _ _ _ _ _ _ _ _ ?_
        intro _ _ _ _ _ _ _ _ _ _ _ _ _ _ _ _ _ _ _ _ _ _ _ _ _ _ _ _ _ _ _ _ _ _ _ _ _ _ _ _ _ _ _ _ _ _ _ _ _ _ _ _ _ _ _ _ _ _ _ _ _ _ _ _ _ _ _ _ _ _ _ _ _ _ _ _ _ _ _ _ _ _ _ _ _ _ _ _ _ _ _ _ _ _ _ _ _ _ _ _ _ _ _ _ _ _ _ _ _ _ _ _ _ _ _ _ _ _ _ _ _ _ _ _ _ _ _ _ _ _ _ _ _ _ _ _ _ _ _ _ _ _ _ _ _ _ _ _ _ _ _ _ _ _ _ _ _ _ _ _ _ _ _ _ _ _ _ _ _ _ _ _ _ _ _ _ _ _ _ _ _ _ _ w20 u hI
        refine h1 _ _ ?_
        clear h1 K1 I5
        obtain ⟨L1, hL1⟩ : ∃ L, L = (dVehs bs nv s5).1 := ⟨_, rfl⟩
        obtain ⟨s6, hs6⟩ : ∃ t, t = (dVehs bs nv s5).2 := ⟨_, rfl⟩
        rw [← hL1, ← hs6] at hI
        have LE := Hid.mk (And.intro hL1 hs6)
        clear hL1 hs6
        obtain ⟨z1, hz1⟩ : ∃ z, z = u := ⟨_, rfl⟩
        rw [← hz1] at hI
        clear hz1
        have J0 := hI
        clear hI
        refine wp_seq_k (fun K2 h2 => ?_)
        refine reqSeg B g bs w _ hB hBs hl hgl nv nr hnbnv hnbnr hI1 hI2 s6 z1 L1 J0 _ _ _ _ _ _ _ _ _ _ _ _ _ _ _ _ _ _ _ _ _ _ _ _ _ _ _ _ _ _ _ _ _ _ _ _ _ _ _ _ _ _ _ _ _ _ _ _ _ _ _ _ _ _ _ _ _ _ _ _ _ _ _ _ _ _ _ _ _ _ _ _ _ _ _ _ _ _ _ _ _ _ _ _ _ _ _ _ _ _ _ _ _ _ _ _ _ _ _ _ _ _ _ _ _ _ _ _ _ _ _ _ _ _ _ _ _ _ _ _ _ _ _ _ _ _ _ _ _ _ _ _ _ _ _ _ _ _ _ _ _ _ _ _ _ _ _ _ _ _ _ _ _ _ _ _ _ _ _ _ _ _ _ _ _ _ _ _ _ _ _ _ _ _ _ _ _ _ _ _ _ _ _ _ _ ?_
        intro _ _ _ _ _ _ _ _ _ _ _ _ _ _ _ _ _ _ _ _ _ _ _ _ _ _ _ _ _ _ _ _ _ _ _ _ _ _ _ _ _ _ _ _ _ _ _ _ _ _ _ _ _ _ _ _ _ _ _ _ _ _ _ _ _ _ _ _ _ _ _ _ _ _ _ _ _ _ _ _ _ _ _ _ _ _ _ _ _ _ _ _ _ _ _ _ _ _ _ _ _ _ _ _ _ _ _ _ _ _ _ _ _ _ _ _ _ _ _ _ _ _ _ _ _ _ _ _ _ _ _ _ _ _ _ _ _ _ _ _ _ _ _ _ _ _ _ _ _ _ _ _ _ _ _ _ _ _ _ _ _ _ _ _ _ _ _ _ _ _ _ _ _ _ _ _ _ _ _ _ _ _ _ w21 u hI
        refine h2 _ _ ?_
        clear h2 K2 J0
        obtain ⟨L2, hL2⟩ : ∃ L, L = (dReqs bs nr s6).1 := ⟨_, rfl⟩
        obtain ⟨s7, hs7⟩ : ∃ t, t = (dReqs bs nr s6).2 := ⟨_, rfl⟩
        rw [← hL2, ← hs7] at hI
        have LR := Hid.mk (And.intro hL2 hs7)
        clear hL2 hs7
        obtain ⟨z2, hz2⟩ : ∃ z, z = u := ⟨_, rfl⟩
        rw [← hz2] at hI
        clear hz2
        have J1 := hI
        clear hI
        obtain ⟨n, hn⟩ : ∃ n : Nat, n = nv + 2 * nr := ⟨_, rfl⟩
        have HNN := Hid.mk hn
        have hnb : n ≤ 1860 := by have h1 := hnbnv.out; have h2 := hnbnr.out; omega
        have e20 : IntKind.i64.wrap (2 * (nr : Int)) = 2 * (nr : Int) := by have h2 := hnbnr.out; rw [IntKind.wrap_i64]; omega
        have e21 : IntKind.i64.wrap ((nv : Int) + 2 * (nr : Int)) = (n : Int) := by rw [IntKind.wrap_i64]; omega
        refine wp_seq_k (fun K3 h3 => ?_)
        have H3 := Hid.mk h3
        clear h3
        go_wp2_with fail
        rw [show (nv : Int) + 2 * (nr : Int) = (n : Int) by omega]
        clear e20 e21 hn
        refine H3.out _ _ ?_
        clear H3 K3
        refine wp_seq_k (fun K4 h4 => ?_)
        refine roadSeg B g bs w _ hB hBs hl L1 L2 s7 z1 z2 n hnb hI1 hI2 J1 _ _ _ _ _ _ _ _ _ _ _ _ _ _ _ _ _ _ _ _ _ _ _ _ _ _ _ _ _ _ _ _ _ _ _ _ _ _ _ _ _ _ _ _ _ _ _ _ _ _ _ _ _ _ _ _ _ _ _ _ _ _ _ _ _ _ _ _ _ _ _ _ _ _ _ _ _ _ _ _ _ _ _ _ _ _ _ _ _ _ _ _ _ _ _ _ _ _ _ _ _ _ _ _ _ _ _ _ _ _ _ _ _ _ _ _ _ _ _ _ _ _ _ _ _ _ _ _ _ _ _ _ _ _ _ _ _ _ _ _ _ _ _ _ _ _ _ _ _ _ _ _ _ _ _ _ _ _ _ _ _ _ _ _ _ _ _ _ _ _ _ _ _ _ _ _ _ _ _ _ _ _ _ _ _ _ ?_
        intro _ _ _ _ _ _ _ _ _ _ _ _ _ _ _ _ _ _ _ _ _ _ _ _ _ _ _ _ _ _ _ _ _ _ _ _ _ _ _ _ _ _ _ _ _ _ _ _ _ _ _ _ _ _ _ _ _ _ _ _ _ _ _ _ _ _ _ _ _ _ _ _ _ _ _ _ _ _ _ _ _ _ _ _ _ _ _ _ _ _ _ _ _ _ _ _ _ _ _ _ _ _ _ _ _ _ _ _ _ _ _ _ _ _ _ _ _ _ _ _ _ _ _ _ _ _ _ _ _ _ _ _ _ _ _ _ _ _ _ _ _ _ _ _ _ _ _ _ _ _ _ _ _ _ _ _ _ _ _ _ _ _ _ _ _ _ _ _ _ _ w22 R z3 s9 hR RQ J3
        refine h4 _ _ ?_
        clear h4 K4 J1
        have HL1 : Hid (nv = L1.length) := by unfold Hid; rw [LE.out.1, vehs_len]
        have HL2 : Hid (nr = L2.length) := by unfold Hid; rw [LR.out.1, reqs_len]
        refine wp_seq_k (fun K5 h5 => ?_)
        refine limSeg1 B g bs w _ hB hBs hl hgl nv nr hnbnv hnbnr hI1 hI2 s9 z1 z2 z3 L1 L2 R HL1 J3 _ _ _ _ _ _ _ _ _ _ _ _ _ _ _ _ _ _ _ _ _ _ _ _ _ _ _ _ _ _ _ _ _ _ _ _ _ _ _ _ _ _ _ _ _ _ _ _ _ _ _ _ _ _ _ _ _ _ _ _ _ _ _ _ _ _ _ _ _ _ _ _ _ _ _ _ _ _ _ _ _ _ _ _ _ _ _ _ _ _ _ _ _ _ _ _ _ _ _ _ _ _ _ _ _ _ _ _ _ _ _ _ _ _ _ _ _ _ _ _ _ _ _ _ _ _ _ _ _ _ _ _ _ _ _ _ _ _ _ _ _ _ _ _ _ _ _ _ _ _ _ _ _ _ _ _ _ _ _ _ _ _ _ _ _ _ _ _ _ _ _ _ _ _ _ _ _ _ _ _ _ _ _ _ _ ?_
        intro _ _ _ _ _ _ _ _ _ _ _ _ _ _ _ _ _ _ _ _ _ _ _ _ _ _ _ _ _ _ _ _ _ _ _ _ _ _ _ _ _ _ _ _ _ _ _ _ _ _ _ _ _ _ _ _ _ _ _ _ _ _ _ _ _ _ _ _ _ _ _ _ _ _ _ _ _ _ _ _ _ _ _ _ _ _ _ _ _ _ _ _ _ _ _ _ _ _ _ _ _ _ _ _ _ _ _ _ _ _ _ _ _ _ _ _ _ _ _ _ _ _ _ _ _ _ _ _ _ _ _ _ _ _ _ _ _ _ _ _ _ _ _ _ _ _ _ _ _ _ _ _ _ _ _ _ _ _ _ _ _ _ _ _ _ _ _ _ _ _ _ _ _ _ _ _ _ _ _ _ _ _ _ w23 L1f s10 LV HL1f J6
        refine h5 _ _ ?_
        clear h5 K5 J3
        refine wp_seq_k (fun K6 h6 => ?_)
        refine limSeg2 B g bs w _ hB hBs hl hgl nv nr hnbnv hnbnr hI1 hI2 s10 z1 z2 z3 L1f L2 R HL2 J6 _ _ _ _ _ _ _ _ _ _ _ _ _ _ _ _ _ _ _ _ _ _ _ _ _ _ _ _ _ _ _ _ _ _ _ _ _ _ _ _ _ _ _ _ _ _ _ _ _ _ _ _ _ _ _ _ _ _ _ _ _ _ _ _ _ _ _ _ _ _ _ _ _ _ _ _ _ _ _ _ _ _ _ _ _ _ _ _ _ _ _ _ _ _ _ _ _ _ _ _ _ _ _ _ _ _ _ _ _ _ _ _ _ _ _ _ _ _ _ _ _ _ _ _ _ _ _ _ _ _ _ _ _ _ _ _ _ _ _ _ _ _ _ _ _ _ _ _ _ _ _ _ _ _ _ _ _ _ _ _ _ _ _ _ _ _ _ _ _ _ _ _ _ _ _ _ _ _ _ _ _ _ _ _ _ ?_
        intro _ _ _ _ _ _ _ _ _ _ _ _ _ _ _ _ _ _ _ _ _ _ _ _ _ _ _ _ _ _ _ _ _ _ _ _ _ _ _ _ _ _ _ _ _ _ _ _ _ _ _ _ _ _ _ _ _ _ _ _ _ _ _ _ _ _ _ _ _ _ _ _ _ _ _ _ _ _ _ _ _ _ _ _ _ _ _ _ _ _ _ _ _ _ _ _ _ _ _ _ _ _ _ _ _ _ _ _ _ _ _ _ _ _ _ _ _ _ _ _ _ _ _ _ _ _ _ _ _ _ _ _ _ _ _ _ _ _ _ _ _ _ _ _ _ _ _ _ _ _ _ _ _ _ _ _ _ _ _ _ _ _ _ _ _ _ _ _ _ _ _ _ _ _ _ _ _ _ _ _ _ _ _ w24 L2f s11 LQ HL2f J7
        refine h6 _ _ ?_
        clear h6 K6 J6
        have HF : Hid (dInst bs s vs rs = (⟨L1f, L2f, R⟩, s11)) := by
          unfold Hid dInst
          rw [HH.out]
          unfold instTail
          simp only [← LE.out.1, ← LE.out.2, ← LR.out.1, ← LR.out.2, ← HNN.out, RQ.out, LV.out, LQ.out]
        exact finSeg B g bs w _ hB hBs s vs rs L1f L2f R s11 z1 z2 z3 hI1 hI2 J7 HF _ _ _ _ _ _ _ _ _ _ _ _ _ _ _ _ _ _ _ _ _ _ _ _ _ _ _ _ _ _ _ _ _ _ _ _ _ _ _ _ _ _ _ _ _ _ _ _ _ _ _ _ _ _ _ _ _ _ _ _ _ _ _ _ _ _ _ _ _ _ _ _ _ _ _ _ _ _ _ _ _ _ _ _ _ _ _ _ _ _ _ _ _ _ _ _ _ _ _ _ _ _ _ _ _ _ _ _ _ _ _ _ _ _ _ _ _ _ _ _ _ _ _ _ _ _ _ _ _ _ _ _ _ _ _ _ _ _ _ _ _ _ _ _ _ _ _ _ _ _ _ _ _ _ _ _ _ _ _ _ _ _ _ _ _ _ _ _ _ _ _ _ _ _ _ _ _ _ _ _ _ _ _ _ _
end Go.Proofs.YtefkdpppcjlflaaGreatDoor.Draw
