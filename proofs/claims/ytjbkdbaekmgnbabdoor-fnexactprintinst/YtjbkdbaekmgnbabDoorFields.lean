import Derived.Test.YtjbkdbaekmgnbabDoorTags
import Derived.Deep.RegionHeld3
import Derived.Deep.DrawnRows
namespace Go.Proofs.YtjbkdbaekmgnbabDoor.Print
open Go Go.RowKit Go.Proofs.YtjbkdbaekmgnbabDoor.Mem
set_option linter.unusedVariables false
attribute [local go_sem ↓] Go.wp_at_zero Go.wp_at_succ

/-- A value that leads to the bytes bs, in a block from B on. -/
def FV (B : Nat) (w : World) (v : Value) (bs : List UInt8) : Prop := ∃ g o n c, v = .slice (some ⟨g, o, none⟩) n c ∧ B ≤ g ∧ Rb w g o n bs
def FVs (B : Nat) (w : World) : List Value → List (List UInt8) → Prop
  | [], [] => True
  | v :: vs, b :: bs => FV B w v b ∧ FVs B w vs bs
  | _, _ => False
theorem FV.below {B : Nat} {w w' : World} {v : Value} {bs : List UInt8} (h : FV B w v bs) (hb : Below w.heap.size w w') : FV B w' v bs := by
  obtain ⟨g, o, n, c, e, hg, h⟩ := h
  exact ⟨g, o, n, c, e, hg, h.below hb⟩
theorem FV.low {B : Nat} {w : World} {v : Value} {bs : List UInt8} (h : FV B w v bs) : FV 0 w v bs := by
  obtain ⟨g, o, n, c, e, hg, h⟩ := h
  exact ⟨g, o, n, c, e, Nat.zero_le _, h⟩
theorem FV.grown {B : Nat} {w w' : World} {row : Option Nat} {v : Value} {bs : List UInt8} (h : FV B w v bs) (hg : w.grownBy w' row) (hr : ∀ k, row = some k → k < B) : FV B w' v bs := by
  obtain ⟨g, o, n, c, e, hB, h1, h2, h3⟩ := h
  refine ⟨g, o, n, c, e, hB, h1, Nat.lt_of_lt_of_le h2 hg.size, fun j u hu => hg.cell (h3 j u hu) ?_⟩
  rw [Addr.add_mid]
  intro he
  have := hr g he.symm
  omega
theorem FVs.below {B : Nat} {w w' : World} (hb : Below w.heap.size w w') : ∀ {vs : List Value} {L : List (List UInt8)}, FVs B w vs L → FVs B w' vs L
  | [], [], _ => trivial
  | _ :: _, _ :: _, h => ⟨h.1.below hb, FVs.below hb h.2⟩
theorem FVs.low {B : Nat} {w : World} : ∀ {vs : List Value} {L : List (List UInt8)}, FVs B w vs L → FVs 0 w vs L
  | [], [], _ => trivial
  | _ :: _, _ :: _, h => ⟨h.1.low, FVs.low h.2⟩
theorem FVs.grown {B : Nat} {w w' : World} {row : Option Nat} (hg : w.grownBy w' row) (hr : ∀ k, row = some k → k < B) : ∀ {vs : List Value} {L : List (List UInt8)}, FVs B w vs L → FVs B w' vs L
  | [], [], _ => trivial
  | _ :: _, _ :: _, h => ⟨h.1.grown hg hr, FVs.grown hg hr h.2⟩
theorem FVs.append {B : Nat} {w : World} : ∀ {vs : List Value} {L : List (List UInt8)} {vs' : List Value} {L' : List (List UInt8)}, FVs B w vs L → FVs B w vs' L' → FVs B w (vs ++ vs') (L ++ L')
  | [], [], _, _, _, h => h
  | _ :: _, _ :: _, _, _, h, h' => ⟨h.1, FVs.append h.2 h'⟩
theorem FVs.get {B : Nat} {w : World} : ∀ {vs : List Value} {L : List (List UInt8)}, FVs B w vs L → ∀ (k : Nat) (hk : k < L.length), ∃ v, vs[k]? = some v ∧ FV B w v L[k]
  | [], [], _, k, hk => by simp at hk
  | _ :: _, _ :: _, h, 0, _ => ⟨_, rfl, h.1⟩
  | _ :: _, _ :: _, h, k + 1, hk => by
    obtain ⟨v, h1, h2⟩ := FVs.get h.2 k (by simpa using hk)
    exact ⟨v, by simpa using h1, by simpa using h2⟩
theorem FVs.one {B : Nat} {w : World} : ∀ {vs : List Value} {L : List (List UInt8)}, FVs B w vs L → ∀ u ∈ vs, u.oneCell' = true
  | [], [], _, _, hu => by cases hu
  | _ :: _, _ :: _, h, u, hu => by
    rcases List.mem_cons.1 hu with rfl | hu
    · obtain ⟨g, o, n, c, rfl, _⟩ := h.1; rfl
    · exact FVs.one h.2 u hu

set_option maxHeartbeats 3200000 in
set_option maxRecDepth 100000 in
theorem placeFieldsS (x y o c h : Int) (w : World) (b0 : -1000000000 ≤ x ∧ x ≤ 1000000000) (b1 : -1000000000 ≤ y ∧ y ≤ 1000000000) (b2 : -1000000000 ≤ o ∧ o ≤ 1000000000) (b3 : -1000000000 ≤ c ∧ c ≤ 1000000000) (b4 : -1000000000 ≤ h ∧ h ≤ 1000000000) :
    Calls Tryd.prog 65 #[.agg #[.int .i64 x, .int .i64 y, .int .i64 o, .int .i64 c, .int .i64 h]] w fun e w' => ∃ g v1 v2 v3 v4 v5, e = .returned (.slice (some ⟨g, 0, none⟩) 5 5) ∧ w'.heap[g]? = some (.cells #[v1, v2, v3, v4, v5] 28) ∧ FVs w.heap.size w' [v1, v2, v3, v4, v5] [Lib.itoa x, Lib.itoa y, Lib.itoa o, Lib.itoa c, Lib.itoa h] ∧ Below w.heap.size w w' := by
  go_enter Tryd.func65, Tryd.ntmps65
  go_wp2
  go_region_held3 (fun w' => w'.cell? ⟨w.heap.size, 0, none⟩ = some (.int .i64 x) ∧ w'.cell? ⟨w.heap.size, 1, none⟩ = some (.int .i64 y) ∧ w'.cell? ⟨w.heap.size, 2, none⟩ = some (.int .i64 o) ∧ w'.cell? ⟨w.heap.size, 3, none⟩ = some (.int .i64 c) ∧ w'.cell? ⟨w.heap.size, 4, none⟩ = some (.int .i64 h)) (first | go_keep | ((repeat' constructor) <;> exact cell_keep hb1 (by first | assumption | (simp [*]; done)))) ((go_at_call 63; refine (decimalR _ _ (by omega) (by omega)).mono ?_; rintro e w1 ⟨g1, o1, n1, c1, rfl, hg1, hr1, hb1⟩; have hz1 := hb1.size; (try simp only [size_drew, World.size_alloc] at hg1 hz1)))
  go_wp2
  go_ret
  refine ⟨_, _, _, _, _, _, rfl, blk_new _ _, ⟨⟨_, _, _, _, rfl, by omega, ?_⟩, ⟨_, _, _, _, rfl, by omega, ?_⟩, ⟨_, _, _, _, rfl, by omega, ?_⟩, ⟨_, _, _, _, rfl, by omega, ?_⟩, ⟨_, _, _, _, rfl, by omega, ?_⟩, trivial⟩, ?_⟩
  · refine Rb.alloc ?_ _; repeat (first | assumption | (refine Rb.below ?_ (by assumption)))
  · refine Rb.alloc ?_ _; repeat (first | assumption | (refine Rb.below ?_ (by assumption)))
  · refine Rb.alloc ?_ _; repeat (first | assumption | (refine Rb.below ?_ (by assumption)))
  · refine Rb.alloc ?_ _; repeat (first | assumption | (refine Rb.below ?_ (by assumption)))
  · refine Rb.alloc ?_ _; repeat (first | assumption | (refine Rb.below ?_ (by assumption)))
  · refine below_alloc' ?_ _; repeat (first | (refine below_then ?_ (by assumption)))
    exact Below.drew ((Below.refl _ _).alloc (Nat.le_refl _) _)

/-- The first k fields of a line, a blank between two. -/
def jn (L : List (List UInt8)) : Nat → List UInt8
  | 0 => []
  | k + 1 => (if k = 0 then jn L k else jn L k ++ [32]) ++ L.getD k []
/-- A line of these fields. -/
def line (L : List (List UInt8)) : List UInt8 := jn L L.length ++ [10]
theorem getD_get {L : List (List UInt8)} {k : Nat} (hk : k < L.length) : L.getD k [] = L[k] := by simp [List.getD, hk]
theorem jn_len {L : List (List UInt8)} (h : ∀ b ∈ L, b.length ≤ 40) : ∀ k, k ≤ L.length → (jn L k).length ≤ 41 * k
  | 0, _ => by simp [jn]
  | k + 1, hk => by
    have ih := jn_len h k (by omega)
    have hb : (L.getD k []).length ≤ 40 := by
      rw [getD_get (by omega)]
      exact h _ (List.getElem_mem _)
    unfold jn
    split
    · rw [List.length_append]; omega
    · rw [List.length_append, List.length_append, List.length_singleton]; omega

theorem own_app {B : Nat} {w : World} {v : Value} {bs cs : List UInt8} {n : Nat} (hn : n = cs.length) (h : w.ownsRow B 5 1 v (bs.length + n) (Lib.byteCells bs ++ Lib.byteCells cs)) : Own B w v (bs ++ cs) := by
  unfold Own
  rw [List.length_append, Lib.byteCells_append, ← hn]
  exact h

set_option maxHeartbeats 3200000 in
set_option maxRecDepth 100000 in
theorem joinS (L : List (List UInt8)) (vs : List Value) (g off c : Nat) (w : World) (hvs : FVs 0 w vs L) (hc : ∀ j u, vs[j]? = some u → w.cell? ((⟨g, off, none⟩ : Addr).add j) = some u) (hL : L.length ≤ 20) (hb : ∀ b ∈ L, b.length ≤ 40) :
    Calls Tryd.prog 66 #[.slice (some ⟨g, off, none⟩) L.length c] w fun e w' => ∃ v, e = .returned v ∧ Own w.heap.size w' v (line L) ∧ Below w.heap.size w w' := by
  obtain ⟨i0, hi, hz0, hz1, hz2⟩ := info_parts infoB
  have HF := Hid.mk hvs
  have HC := Hid.mk hc
  have HJ := Hid.mk (fun k hk => jn_len hb k hk)
  have HB := Hid.mk hb
  clear hvs hc hb
  obtain ⟨N, hN⟩ : ∃ N, N = L.length := ⟨_, rfl⟩
  have HN := Hid.mk hN
  rw [← hN] at hL ⊢
  clear hN
  go_enter Tryd.func66, Tryd.ntmps66
  go_wp2
  go_loopw [3, 4] (fun v i wr => ∃ k : Nat, k ≤ N ∧ i = .int .i64 k ∧ Hid (Own w.heap.size wr v (jn L k)) ∧ Hid (Below w.heap.size w wr)) (fun _ i _ => N - (intOf i).toNat)
  case atStart => exact ⟨0, by omega, rfl, own_empty w _ rfl, (Below.refl _ _).alloc (Nat.le_refl _) _⟩
  case round =>
    obtain ⟨k, hk, rfl, ho, hb⟩ := hrel
    have hl := HJ.out k (by rw [← HN.out]; exact hk)
    obtain ⟨a, ca, hv⟩ := Own.shape ho.out
    rw [hv] at ho ⊢
    clear hv
    by_cases hlt : k < N
    · have hkl : k < L.length := by rw [← HN.out]; exact hlt
      obtain ⟨u, hu, gg, oo, nn, cc, rfl, -, hrb⟩ := FVs.get HF.out k hkl
      have hcell := cell_keep hb.out (HC.out k _ hu)
      rw [Addr.add_mid] at hcell
      have hln : nn ≤ 40 := by rw [hrb.1]; exact HB.out _ (List.getElem_mem _)
      have hs : Hid (jn L (k + 1) = (if k = 0 then jn L k else jn L k ++ [32]) ++ L[k]) := by
        unfold Hid; rw [jn, getD_get hkl]
      have HR0 := Hid.mk hrb
      have HR := Hid.mk (hrb.below hb.out)
      have HU := Hid.mk hu
      clear hu hrb
      have k0 : (0 : Int) ≤ (k : Int) := by omega
      have k1 : (k : Int) < (N : Int) := by omega
      by_cases hz : k = 0
      · have hz' : decide (0 < k) = false := by simp; omega
        have hs' : Hid (jn L (k + 1) = jn L k ++ L[k]) := by unfold Hid; rw [hs.out, if_pos hz]
        clear hs
        have HZ := Hid.mk hz
        clear hz
        go_wp2_with (at_builtin; refine wpList_append_own _ rfl _ _ 28 rfl w.heap.size 5 i0 (.int .u8 0) 1 1 Tryd.underlying28 hi hz0 hz1 hz2 rfl (by decide) _ _ _ rfl ho.out ⟨gg, oo, none⟩ nn cc (Lib.byteCells L[k]) rfl (by simp [Lib.byteCells]; exact HR.out.1.symm) HR.out.2.2 (byteCells_one _) (by unfold maxLen; omega) (by omega) (by have := hb.out.size; omega) ?_)
        intro v2 w2 hown2 hgrow _
        have hb2 : Hid (Below w.heap.size w w2) := hb.out.grown hgrow hb.out.size (fun k hk => (ho.out.lt k hk).1)
        have ho2 : Hid (Own w.heap.size w2 v2 (jn L (k + 1))) := by rw [hs'.out]; exact own_app HR.out.1 hown2
        clear hown2 hgrow
        go_wp2
        exact ⟨⟨k + 1, by omega, by go_num, ho2, hb2⟩, by simp [intOf]; omega⟩
      · have hz' : decide (0 < k) = true := by simp; omega
        have hs' : Hid (jn L (k + 1) = (jn L k ++ [32]) ++ L[k]) := by unfold Hid; rw [hs.out, if_neg hz]
        clear hs
        have HZ := Hid.mk hz
        clear hz
        go_wp2_with (at_builtin; refine wpList_append_own _ rfl _ _ 28 rfl w.heap.size 5 i0 (.int .u8 0) 1 1 Tryd.underlying28 hi hz0 hz1 hz2 rfl (by decide) _ _ _ rfl (ho.out.alloc _) ⟨wr.heap.size, 0, none⟩ 1 1 [Value.int .u8 32] rfl rfl (by intro j u' hj; match j, hj with | 0, hj => simp at hj; subst hj; simp [Addr.add]) (by intro u' hu'; simp at hu'; subst hu'; rfl) (by unfold maxLen; omega) (by omega) (by have := hb.out.size; simp; omega) ?_)
        intro v2 w2 hown2 hgrow _
        have hb2 : Hid (Below w.heap.size w w2) := (hb.out.alloc hb.out.size _).grown hgrow (by have := hb.out.size; simp; omega) (fun k hk => (ho.out.lt k hk).1)
        have ho2 : Hid (Own w.heap.size w2 v2 (jn L k ++ [32])) := own_snoc rfl hown2
        have hcell2 := cell_keep hb2.out (HC.out k _ HU.out)
        rw [Addr.add_mid] at hcell2
        have HR2 := Hid.mk (HR0.out.below hb2.out)
        obtain ⟨a2, ca2, hv⟩ := Own.shape ho2.out
        rw [hv] at ho2 ⊢
        clear hown2 hgrow hv hcell
        rw [List.length_append, List.length_singleton] at ho2 ⊢
        go_wp2_with (at_builtin; refine wpList_append_own _ rfl _ _ 28 rfl w.heap.size 5 i0 (.int .u8 0) 1 1 Tryd.underlying28 hi hz0 hz1 hz2 rfl (by decide) _ _ _ rfl ho2.out ⟨gg, oo, none⟩ nn cc (Lib.byteCells L[k]) rfl (by simp [Lib.byteCells]; exact HR.out.1.symm) HR2.out.2.2 (byteCells_one _) (by rw [List.length_append, List.length_singleton]; unfold maxLen; omega) (by rw [List.length_append, List.length_singleton]; omega) (by have := hb2.out.size; omega) ?_)
        intro v3 w3 hown3 hgrow3 _
        have hb3 : Hid (Below w.heap.size w w3) := hb2.out.grown hgrow3 hb2.out.size (fun k hk => (ho2.out.lt k hk).1)
        have ho3 : Hid (Own w.heap.size w3 v3 (jn L (k + 1))) := by rw [hs'.out]; refine own_app HR.out.1 ?_; rw [List.length_append, List.length_singleton]; exact hown3
        clear hown3 hgrow3
        go_wp2
        exact ⟨⟨k + 1, by omega, by go_num, ho3, hb3⟩, by simp [intOf]; omega⟩
    · obtain rfl : k = N := by omega
      go_wp2_with (at_builtin; refine wpList_append_own _ rfl _ _ 28 rfl w.heap.size 5 i0 (.int .u8 0) 1 1 Tryd.underlying28 hi hz0 hz1 hz2 rfl (by decide) _ _ _ rfl (ho.out.alloc _) ⟨wr.heap.size, 0, none⟩ 1 1 [Value.int .u8 10] rfl rfl (by intro j u' hj; match j, hj with | 0, hj => simp at hj; subst hj; simp [Addr.add]) (by intro u' hu'; simp at hu'; subst hu'; rfl) (by unfold maxLen; omega) (by omega) (by have := hb.out.size; simp; omega) ?_)
      intro v2 w2 hown2 hgrow _
      have hb2 : Hid (Below w.heap.size w w2) := (hb.out.alloc hb.out.size _).grown hgrow (by have := hb.out.size; simp; omega) (fun k hk => (ho.out.lt k hk).1)
      have ho2 : Hid (Own w.heap.size w2 v2 (line L)) := by unfold line; rw [← HN.out]; exact own_snoc rfl hown2
      clear hown2 hgrow
      go_wp2
      go_ret
      exact ⟨_, rfl, ho2.out, hb2.out⟩
end Go.Proofs.YtjbkdbaekmgnbabDoor.Print
