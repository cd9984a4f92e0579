import Derived.Test.YtdhnjkcebaahcaaDoorEncI
import Derived.Test.YtdhnjkcebaahcaaDoorValCI
import Derived.Test.YtdhnjkcebaahcaaDoorKit
import Derived.Deep.DrawnRows
namespace Go.Proofs.YtdhnjkcebaahcaaDoor.Enc
open Go Go.RowKit Go.Proofs.YtdhnjkcebaahcaaDoor.Mem Go.Proofs.YtdhnjkcebaahcaaDoor.ValC
set_option linter.unusedVariables false
set_option linter.unusedSimpArgs false
attribute [local go_sem ↓] Go.wp_at_zero Go.wp_at_succ

set_option maxHeartbeats 400000 in
set_option maxRecDepth 100000 in
theorem blockI (B : Nat) (bs : List UInt8) (v : Value) (a : Option Addr) (n cap : Nat) (X : Nat → Is) (w : World) (hown : Own B w v bs) (hB : B ≤ w.heap.size) (hs : SliceAt w a n 4 (fun i => (X i).cells)) (hlow : ∀ b, a = some b → b.block < B) (hg : GoodB n X) (hbs : bs.length ≤ 1000000) :
    Calls Tryd.prog 56 #[v, .slice a n cap] w fun e w' => ∃ v', e = .returned v' ∧ Own B w' v' (bs ++ vrs (blkN X n)) ∧ Kp B w w' := by
  have HO := Hid.mk hown
  have HS := Hid.mk hs
  have HG := Hid.mk hg
  have HW := Hid.mk hlow
  have hn := hg.len
  clear hown hs hg hlow
  obtain ⟨a0, ca, hv⟩ := Own.shape HO.out
  rw [hv] at HO ⊢
  clear hv
  go_enter Tryd.func56, Tryd.ntmps56
  go_wp2
  go_loopw [0, 9] (fun v i wr => ∃ k : Nat, k ≤ n ∧ i = .int .i64 k ∧ Hid (Own B wr v (bs ++ vrs (blkN X k))) ∧ Hid (Kp B w wr)) (fun _ i _ => n - (intOf i).toNat)
  case atStart => exact ⟨0, by omega, rfl, by unfold Hid; rw [blkN, vrs, List.append_nil]; exact HO.out, Kp.refl _ _⟩
  case round =>
    obtain ⟨k, hk, rfl, ho, hb⟩ := hrel
    have hkl := blk_len HG.out hk
    by_cases hlt : k < n
    · rcases HS.out with hs | ⟨b, off, rfl, hs⟩
      · omega
      have hlo : b < B := HW.out _ rfl
      have hr : wr.rangeAt b (off + k * 4) (X k).cells := fun j u hu => by
        have := hs k hlt j u hu
        rw [hb.out.1.cell (p := ⟨b, off + k * 4 + j, none⟩) hlo]; exact this
      obtain ⟨e0, e1, e2, e3⟩ := Is.at hr
      clear hs hr
      have hsz := hb.out.1.size
      have k0 : (0 : Int) ≤ (k : Int) := by omega
      have k1 : (k : Int) < (n : Int) := by omega
      have hsm := Hid.mk (HG.out.small k hlt)
      obtain ⟨bb, hbb⟩ : ∃ l, l = bs ++ vrs (blkN X k) := ⟨_, rfl⟩
      have hl1 : bb.length ≤ 10000000 := by rw [hbb, List.length_append]; omega
      rw [← hbb] at ho
      have HBB := Hid.mk hbb
      clear hbb
      obtain ⟨a1, ca1, hv⟩ := Own.shape ho.out
      rw [hv] at ho ⊢
      clear hv
      go_wp2_with fail
      clear e0 e1 e2 e3
      have hbk : ((wr.alloc (.cells #[.int .i64 (X k).p, .int .i64 (X k).a, .int .i64 (X k).b, .int .i64 (X k).c] 90)).alloc (.cells #[.int .i64 (X k).p, .int .i64 (X k).a, .int .i64 (X k).b, .int .i64 (X k).c] 2)).heap[wr.heap.size + 1]? = some (.cells ((insN (X k)).map (Value.int .i64)).toArray 2) := blk_new1 wr _ _
      have ho1 : Own B ((wr.alloc (.cells #[.int .i64 (X k).p, .int .i64 (X k).a, .int .i64 (X k).b, .int .i64 (X k).c] 90)).alloc (.cells #[.int .i64 (X k).p, .int .i64 (X k).a, .int .i64 (X k).b, .int .i64 (X k).c] 2)) (.slice a1 bb.length ca1) bb := (ho.out.alloc _).alloc _
      have hB1 : B ≤ ((wr.alloc (.cells #[.int .i64 (X k).p, .int .i64 (X k).a, .int .i64 (X k).b, .int .i64 (X k).c] 90)).alloc (.cells #[.int .i64 (X k).p, .int .i64 (X k).a, .int .i64 (X k).b, .int .i64 (X k).c] 2)).heap.size := by simp; omega
      refine (codedI B bb (insN (X k)) (.slice a1 bb.length ca1) (wr.heap.size + 1) _ 4 rfl ho1 hB1 hbk hsm.out (by simp [insN]) hl1).mono ?_
      rintro e w2 ⟨v2, rfl, ho2, hk2⟩
      have ho3 : Hid (Own B w2 v2 (bs ++ vrs (blkN X (k + 1)))) := by
        unfold Hid
        rw [blkN, vrs_app, ← List.append_assoc, ← HBB.out]; exact ho2
      have hb3 : Hid (Kp B w w2) := ((hb.out.alloc (by omega) _).alloc (by simp; omega) _).trans hk2
      clear ho2 hk2
      go_wp2
      exact ⟨⟨k + 1, by omega, by go_num, ho3, hb3⟩, by simp [intOf]; omega⟩
    · obtain rfl : n = k := by omega
      go_wp2
      go_ret
      exact ⟨_, rfl, ho.out, hb.out⟩

set_option maxHeartbeats 3200000 in
set_option maxRecDepth 100000 in
theorem encodeI (a1 a2 a3 : Option Addr) (c1 c2 c3 : Nat) (C : Co) (w : World) (h : CoAt w a1 a2 a3 C) (h1 : C.n1 ≤ 1048576) (h2 : C.n2 ≤ 1048576) (h3 : C.n3 ≤ 1048576) (l1 : ∀ b, a1 = some b → b.block < w.heap.size) (l2 : ∀ b, a2 = some b → b.block < w.heap.size) (l3 : ∀ b, a3 = some b → b.block < w.heap.size) (hT : TabC w) :
    Calls Tryd.prog 22 #[.agg #[.int .i64 C.R, .int .i64 C.S, .slice a1 C.n1 c1, .slice a2 C.n2 c2, .slice a3 C.n3 c3]] w fun e w' => ∃ v, e = .returned v ∧ Own (w.heap.size + 1) w' v (answer C) ∧ Below w.heap.size w w' := by
  have H := Hid.mk h
  have HT := Hid.mk hT
  have HL := Hid.mk (And.intro l1 (And.intro l2 l3))
  clear h hT l1 l2 l3
  have hK : Below w.heap.size w ((w.alloc (.cells #[.int .i64 C.R, .int .i64 C.S, .slice a1 C.n1 c1, .slice a2 C.n2 c2, .slice a3 C.n3 c3] 48)).alloc (.cells #[] 5)) := by go_grown
  have HK := Hid.mk hK
  go_enter Tryd.func22, Tryd.ntmps22
  go_wp2_with fail
  refine (validI a1 a2 a3 c1 c2 c3 C _ (H.out.below HK.out) h1 h2 h3 (HT.out.below HK.out)).mono ?_
  rintro e w1 ⟨rfl, hb1⟩
  have HB1 := Hid.mk (below_then HK.out hb1)
  have A1 := Hid.mk (blk_below (blk_alloc (blk_new w (.cells #[.int .i64 C.R, .int .i64 C.S, .slice a1 C.n1 c1, .slice a2 C.n2 c2, .slice a3 C.n3 c3] 48)) (.cells #[] 5)) hb1)
  have O1 := Hid.mk ((own_empty1 w (.cells #[.int .i64 C.R, .int .i64 C.S, .slice a1 C.n1 c1, .slice a2 C.n2 c2, .slice a3 C.n3 c3] 48)).below hb1)
  clear hb1 hK
  cases hok : okCo C with
  | false =>
    have ha : Hid (answer C = []) := by unfold Hid answer; rw [hok]; rfl
    go_wp2
    go_ret
    exact ⟨_, rfl, by rw [ha.out]; exact O1.out, HB1.out⟩
  | true =>
      have ha : Hid (answer C = vrs (headN C) ++ (vrs (blkN C.B1 C.n1) ++ (vrs (blkN C.B2 C.n2) ++ vrs (blkN C.B3 C.n3)))) := by unfold Hid answer; rw [if_pos hok, encB, numsC, vrs_app, vrs_app, vrs_app]
      have HG := Hid.mk (good_co hok)
      have x0 := blk_cell A1.out 0
      have x1 := blk_cell A1.out 1
      have x2 := blk_cell A1.out 2
      have x3 := blk_cell A1.out 3
      have x4 := blk_cell A1.out 4
      simp only [List.getElem?_toArray, List.getElem?_cons_zero, List.getElem?_cons_succ] at x0 x1 x2 x3 x4
      have zz := blk_lt A1.out
      go_wp2_with fail
      clear x0 x1 x2 x3 x4
      have hbk : (w1.alloc (.cells #[.int .i64 C.R, .int .i64 C.S, .int .i64 (C.n1 : Int), .int .i64 (C.n2 : Int), .int .i64 (C.n3 : Int)] 2)).heap[w1.heap.size]? = some (.cells ((headN C).map (Value.int .i64)).toArray 2) := blk_new w1 _
      have ho1 : Own (w.heap.size + 1) (w1.alloc (.cells #[.int .i64 C.R, .int .i64 C.S, .int .i64 (C.n1 : Int), .int .i64 (C.n2 : Int), .int .i64 (C.n3 : Int)] 2)) (.slice (some ⟨w.heap.size + 1, 0, none⟩) 0 0) [] := O1.out.alloc _
      refine (codedI (w.heap.size + 1) [] (headN C) (.slice (some ⟨w.heap.size + 1, 0, none⟩) 0 0) w1.heap.size _ 5 rfl ho1 (by simp; omega) hbk (head_small HG.out) (by simp [headN]) (by simp)).mono ?_
      rintro e w2 ⟨v2, rfl, ho2, hk2⟩
      rw [List.nil_append] at ho2
      have HB2 := Hid.mk ((HB1.out.alloc HB1.out.size _).trans (hk2.1.mono (Nat.le_succ _)))
      have A2 : Hid (w2.heap[w.heap.size]? = some (.cells #[.int .i64 C.R, .int .i64 C.S, .slice a1 C.n1 c1, .slice a2 C.n2 c2, .slice a3 C.n3 c3] 48)) := (hk2.1.block _ (Nat.lt_succ_self _)).trans (blk_alloc A1.out _)
      obtain ⟨t0, ht0⟩ : ∃ l, l = vrs (headN C) := ⟨_, rfl⟩
      have hl0 : t0.length ≤ 25 := by rw [ht0]; exact head_len HG.out
      rw [← ht0] at ho2 ha
      have O2 := Hid.mk ho2
      clear ho2 hk2 ht0 hbk ho1 HB1 A1 O1
      have x2 := blk_cell A2.out 2
      simp only [List.getElem?_toArray, List.getElem?_cons_zero, List.getElem?_cons_succ] at x2
      obtain ⟨d1, e1, hv⟩ := Own.shape O2.out
      rw [hv] at O2 ⊢
      clear hv
      go_wp2_with fail
      clear x2
      refine (blockI (w.heap.size + 1) t0 (.slice d1 t0.length e1) a1 C.n1 c1 C.B1 w2 O2.out (by have := A2.out; have := blk_lt this; omega) (H.out.b1.below HB2.out) (fun b hb => Nat.lt_succ_of_lt (HL.out.1 b hb)) HG.out.b1 (by omega)).mono ?_
      rintro e w3 ⟨v3, rfl, ho3, hk3⟩
      have HB3 := Hid.mk (HB2.out.trans (hk3.1.mono (Nat.le_succ _)))
      have A3 : Hid (w3.heap[w.heap.size]? = some (.cells #[.int .i64 C.R, .int .i64 C.S, .slice a1 C.n1 c1, .slice a2 C.n2 c2, .slice a3 C.n3 c3] 48)) := (hk3.1.block _ (Nat.lt_succ_self _)).trans A2.out
      obtain ⟨t1, ht1⟩ : ∃ l, l = t0 ++ vrs (blkN C.B1 C.n1) := ⟨_, rfl⟩
      have hl1 : t1.length ≤ 25 + 1 * 327680 := by rw [ht1, List.length_append]; have := blk_len HG.out.b1 (Nat.le_refl _); have := HG.out.b1.len; omega
      rw [← ht1] at ho3
      have O3 := Hid.mk ho3
      have HT1 := Hid.mk ht1
      clear ho3 hk3 ht1 HB2 A2 O2
      have x3 := blk_cell A3.out 3
      simp only [List.getElem?_toArray, List.getElem?_cons_zero, List.getElem?_cons_succ] at x3
      obtain ⟨d2, e2, hv⟩ := Own.shape O3.out
      rw [hv] at O3 ⊢
      clear hv
      go_wp2_with fail
      clear x3
      refine (blockI (w.heap.size + 1) t1 (.slice d2 t1.length e2) a2 C.n2 c2 C.B2 w3 O3.out (by have := A3.out; have := blk_lt this; omega) (H.out.b2.below HB3.out) (fun b hb => Nat.lt_succ_of_lt (HL.out.2.1 b hb)) HG.out.b2 (by omega)).mono ?_
      rintro e w4 ⟨v4, rfl, ho4, hk4⟩
      have HB4 := Hid.mk (HB3.out.trans (hk4.1.mono (Nat.le_succ _)))
      have A4 : Hid (w4.heap[w.heap.size]? = some (.cells #[.int .i64 C.R, .int .i64 C.S, .slice a1 C.n1 c1, .slice a2 C.n2 c2, .slice a3 C.n3 c3] 48)) := (hk4.1.block _ (Nat.lt_succ_self _)).trans A3.out
      obtain ⟨t2, ht2⟩ : ∃ l, l = t1 ++ vrs (blkN C.B2 C.n2) := ⟨_, rfl⟩
      have hl2 : t2.length ≤ 25 + 2 * 327680 := by rw [ht2, List.length_append]; have := blk_len HG.out.b2 (Nat.le_refl _); have := HG.out.b2.len; omega
      rw [← ht2] at ho4
      have O4 := Hid.mk ho4
      have HT2 := Hid.mk ht2
      clear ho4 hk4 ht2 HB3 A3 O3
      have x4 := blk_cell A4.out 4
      simp only [List.getElem?_toArray, List.getElem?_cons_zero, List.getElem?_cons_succ] at x4
      obtain ⟨d3, e3, hv⟩ := Own.shape O4.out
      rw [hv] at O4 ⊢
      clear hv
      go_wp2_with fail
      clear x4
      refine (blockI (w.heap.size + 1) t2 (.slice d3 t2.length e3) a3 C.n3 c3 C.B3 w4 O4.out (by have := A4.out; have := blk_lt this; omega) (H.out.b3.below HB4.out) (fun b hb => Nat.lt_succ_of_lt (HL.out.2.2 b hb)) HG.out.b3 (by omega)).mono ?_
      rintro e w5 ⟨v5, rfl, ho5, hk5⟩
      have HB5 := Hid.mk (HB4.out.trans (hk5.1.mono (Nat.le_succ _)))
      have A5 : Hid (w5.heap[w.heap.size]? = some (.cells #[.int .i64 C.R, .int .i64 C.S, .slice a1 C.n1 c1, .slice a2 C.n2 c2, .slice a3 C.n3 c3] 48)) := (hk5.1.block _ (Nat.lt_succ_self _)).trans A4.out
      obtain ⟨t3, ht3⟩ : ∃ l, l = t2 ++ vrs (blkN C.B3 C.n3) := ⟨_, rfl⟩
      have hl3 : t3.length ≤ 25 + 3 * 327680 := by rw [ht3, List.length_append]; have := blk_len HG.out.b3 (Nat.le_refl _); have := HG.out.b3.len; omega
      rw [← ht3] at ho5
      have O5 := Hid.mk ho5
      have HT3 := Hid.mk ht3
      clear ho5 hk5 ht3 HB4 A4 O4
      go_wp2
      go_ret
      refine ⟨_, rfl, ?_, HB5.out⟩
      rw [ha.out, ← List.append_assoc, ← HT1.out, ← List.append_assoc, ← HT2.out, ← HT3.out]
      exact O5.out
end Go.Proofs.YtdhnjkcebaahcaaDoor.Enc
