import Derived.Test.YtgooegcmgejfpaaGreatDoorGs30
import Derived.Deep.DrawnRows
import Derived.Deep.CutRange
import Derived.Deep.Cut
import Derived.Deep.DeepCutAuto
namespace Go.Proofs.YtgooegcmgejfpaaGreatDoor.Mac
open Go Go.RowKit Go.Proofs.YtgooegcmgejfpaaGreatDoor.Mem
set_option linter.unusedVariables false
set_option linter.unusedSimpArgs false
attribute [local go_sem ↓] Go.wp_at_zero Go.wp_at_succ

/-- A list of the call's own, from block B on, below block E. -/
def Ow (B E : Nat) (w : World) (l : List Int) (a : Option Addr) : Prop := l.length = 0 ∨ ∃ g, a = some ⟨g, 0, none⟩ ∧ B ≤ g ∧ g < E ∧ Rw w g l
theorem Ow.below {B E : Nat} {w w' : World} {l : List Int} {a : Option Addr} (h : Ow B E w l a) (hb : Below w.heap.size w w') : Ow B E w' l a := by
  rcases h with h | ⟨g, h1, h2, h3, h4⟩
  · exact Or.inl h
  · exact Or.inr ⟨g, h1, h2, h3, h4.below hb⟩
theorem Ow.set {B E : Nat} {w : World} {l : List Int} {a : Option Addr} (h : Ow B E w l a) {p : Addr} (hp : p.block < B) (v : Value) : Ow B E (w.setCell p v) l a := by
  rcases h with h | ⟨g, h1, h2, h3, h4⟩
  · exact Or.inl h
  · exact Or.inr ⟨g, h1, h2, h3, h4.other (by omega) v⟩
theorem blk_drew' {w : World} {V : Nat} {o : Obj} (h : w.heap[V]? = some o) : w.drew.heap[V]? = some o := h
/-- A frame that goes on from a state. -/
structure Goes (w0 w : World) (F M : Nat) (S : St) (f : Fr) : Prop where
  ok : Ok w F f (lst S.n2 S.L2) (lst S.n3 S.L3)
  bel : Below w0.heap.size w0 w
  bF : w0.heap.size ≤ F
  bR : w0.heap.size ≤ f.gR
  bS : w0.heap.size ≤ f.gS
  p : f.p = S.p
  u : f.u = S.r
  d : f.d = S.d
  t : f.t = S.t
  s : f.s = S.s
  l : f.l = S.l
  nT : f.nT = S.n1
  m : f.M = M
  lS : f.gS < w.heap.size
  st : S.n1 = 0 ∨ ∃ g, f.aT = some ⟨g, 0, none⟩ ∧ w0.heap.size ≤ g ∧ g ≠ F ∧ g ≠ f.gR ∧ g ≠ f.gS ∧ Rw w g (lst S.n1 S.L1)
/-- The frame as it lies in memory. -/
def Gone (w : World) (M : Nat) (S : St) (e : Ending) (w' : World) : Prop :=
  ∃ (wc : World) (a1 a2 a3 : Option Addr) (e1 e2 e3 E1 E2 : Nat), e = .returned (.pointer (some ⟨wc.heap.size, 0, none⟩)) ∧ w' = wc.alloc (.cells #[.int .i64 S.p, .int .i64 S.r, .int .i64 S.d, .int .i64 S.t, .int .i64 S.s, .int .i64 S.l, .slice a1 S.n1 e1, .slice a2 S.n2 e2, .slice a3 S.n3 e3, .pointer (some ⟨M, 0, none⟩), .int .i64 0, .int .i64 0] 93) ∧ Below w.heap.size w wc ∧ (w.heap.size < E1 ∧ E1 ≤ E2 ∧ E2 ≤ wc.heap.size) ∧ Ow (w.heap.size + 1) E1 wc (lst S.n1 S.L1) a1 ∧ Ow E1 E2 wc (lst S.n2 S.L2) a2 ∧ Ow E2 wc.heap.size wc (lst S.n3 S.L3) a3
theorem gone_goes {w w' : World} {M : Nat} {S : St} {e : Ending} (h : Gone w M S e w') (h13 : 13 ≤ S.n2) : ∃ F f, e = .returned (.pointer (some ⟨F, 0, none⟩)) ∧ Goes w w' F M S f := by
  obtain ⟨wc, a1, a2, a3, e1, e2, e3, E1, E2, rfl, rfl, HB, ⟨q1, q2, q3⟩, o1, o2, o3⟩ := h
  have B1 : Below wc.heap.size wc (wc.alloc (.cells #[.int .i64 S.p, .int .i64 S.r, .int .i64 S.d, .int .i64 S.t, .int .i64 S.s, .int .i64 S.l, .slice a1 S.n1 e1, .slice a2 S.n2 e2, .slice a3 S.n3 e3, .pointer (some ⟨M, 0, none⟩), .int .i64 0, .int .i64 0] 93)) := (Below.refl _ _).alloc (Nat.le_refl _) _
  have r1 := o1.below B1
  have r2 := o2.below B1
  have r3 := o3.below B1
  have hF := blk_new wc (.cells #[.int .i64 S.p, .int .i64 S.r, .int .i64 S.d, .int .i64 S.t, .int .i64 S.s, .int .i64 S.l, .slice a1 S.n1 e1, .slice a2 S.n2 e2, .slice a3 S.n3 e3, .pointer (some ⟨M, 0, none⟩), .int .i64 0, .int .i64 0] 93)
  rcases r2 with r2 | ⟨gR, rfl, b2, b3, hR⟩
  · rw [lst_len] at r2; omega
  obtain ⟨gS, hgS, hs3⟩ : ∃ gS, ((gS = w.heap.size ∨ E2 ≤ gS) ∧ gS < wc.heap.size) ∧ Rw (wc.alloc (.cells #[.int .i64 S.p, .int .i64 S.r, .int .i64 S.d, .int .i64 S.t, .int .i64 S.s, .int .i64 S.l, .slice a1 S.n1 e1, .slice (some ⟨gR, 0, none⟩) S.n2 e2, .slice a3 S.n3 e3, .pointer (some ⟨M, 0, none⟩), .int .i64 0, .int .i64 0] 93)) gS (lst S.n3 S.L3) ∧ (S.n3 = 0 ∨ a3 = some ⟨gS, 0, none⟩) := by
    rcases r3 with r3 | ⟨g, h1, h2, h3, h4⟩
    · exact ⟨w.heap.size, ⟨Or.inl rfl, by omega⟩, fun i hi => by rw [r3] at hi; omega, Or.inl (by rw [lst_len] at r3; exact r3)⟩
    · exact ⟨g, ⟨Or.inr h2, by omega⟩, h4, Or.inr h1⟩
  refine ⟨wc.heap.size, ⟨S.p, S.r, S.d, S.t, S.s, S.l, a1, S.n1, e1, gR, S.n2, e2, a3, gS, S.n3, e3, M, 0, 0⟩, rfl, ⟨hF, hR, hs3.1, (lst_len _ _).symm, (lst_len _ _).symm, hs3.2, by show _ ≠ gR; omega, by show _ ≠ gS; omega, by show gR ≠ gS; omega⟩, below_then HB B1, HB.size, by show _ ≤ gR; omega, by show _ ≤ gS; omega, rfl, rfl, rfl, rfl, rfl, rfl, rfl, rfl, by show gS < _; rw [World.size_alloc]; omega, ?_⟩
  rcases r1 with r1 | ⟨g, h1, h2, h3, h4⟩
  · rw [lst_len] at r1; exact Or.inl r1
  · exact Or.inr ⟨g, h1, by omega, by omega, by show g ≠ gR; omega, by show g ≠ gS; omega, h4⟩
set_option maxHeartbeats 4000000 in
set_option maxRecDepth 100000 in
theorem goOnR (s1 s2 s3 : Option Addr) (t1 t2 t3 M : Nat) (S : St) (w : World) (hS : StAt w s1 s2 s3 S) (j1 : S.n1 ≤ 1048576) (j2 : S.n2 ≤ 1048576) (j3 : S.n3 ≤ 1048576) :
    Calls Tryz.prog 74 #[.pointer (some ⟨M, 0, none⟩), .agg #[.int .i64 S.p, .int .i64 S.r, .int .i64 S.d, .int .i64 S.t, .int .i64 S.s, .int .i64 S.l, .slice s1 S.n1 t1, .slice s2 S.n2 t2, .slice s3 S.n3 t3]] w (Gone w M S) := by
  have HS := Hid.mk hS
  clear hS
  go_enter Tryz.func74, Tryz.ntmps74
  go_upto_region 1 with fail
  have A := Hid.mk (blk_drew' (blk_new w (.cells #[.int .i64 S.p, .int .i64 S.r, .int .i64 S.d, .int .i64 S.t, .int .i64 S.s, .int .i64 S.l, .slice s1 S.n1 t1, .slice s2 S.n2 t2, .slice s3 S.n3 t3] 34)))
  have HB := Hid.mk (((Below.refl w.heap.size w).alloc (Nat.le_refl _) (.cells #[.int .i64 S.p, .int .i64 S.r, .int .i64 S.d, .int .i64 S.t, .int .i64 S.s, .int .i64 S.l, .slice s1 S.n1 t1, .slice s2 S.n2 t2, .slice s3 S.n3 t3] 34)).drew)
  go_cut [] (fun wx => ∃ (a1 a2 a3 : Option Addr) (e1 e2 e3 E1 E2 : Nat), Hid (wx.heap[w.heap.size]? = some (.cells #[.int .i64 S.p, .int .i64 S.r, .int .i64 S.d, .int .i64 S.t, .int .i64 S.s, .int .i64 S.l, .slice a1 S.n1 e1, .slice a2 S.n2 e2, .slice a3 S.n3 e3] 34)) ∧ Hid (Below w.heap.size w wx) ∧ Hid (w.heap.size < E1 ∧ E1 ≤ E2 ∧ E2 ≤ wx.heap.size) ∧ Hid (Ow (w.heap.size + 1) E1 wx (lst S.n1 S.L1) a1) ∧ Hid (Ow E1 E2 wx (lst S.n2 S.L2) a2) ∧ Hid (Ow E2 wx.heap.size wx (lst S.n3 S.L3) a3))
  case first =>
    have y6 := blk_cell A.out 6
    have y7 := blk_cell A.out 7
    have y8 := blk_cell A.out 8
    simp only [List.getElem?_toArray, List.getElem?_cons_zero, List.getElem?_cons_succ] at y6 y7 y8
    have z6 := blk_unfrozen A.out 6
    have z7 := blk_unfrozen A.out 7
    have z8 := blk_unfrozen A.out 8
    refine wp_region_held_drew (S := (fun _ => True)) (by kernel_rfl) ?_ (fun hHeld => ?_)
    · exact trivial
    refine wpAnyH_take (i := 0) (v := ?_) rfl (by kernel_rfl) (by kernel_rfl) (by kernel_rfl) (fun _ _ _ h => h) (Or.inl ⟨by rfl, ?_⟩) (by assumption) ?_
    rotate_left
    · intro w hSw; (try dsimp only at hSw); go_simp; (try with_reducible rfl)
    rotate_left
    simp only [Act.put, List.setIfInBounds_toArray, List.set_cons_zero, List.set_cons_succ, List.getElem_toArray, List.getElem_cons_zero, List.getElem_cons_succ]
    refine wpAnyH_take (i := 3) (v := ?_) rfl (by kernel_rfl) (by kernel_rfl) (by kernel_rfl) (fun _ _ _ h => h) (Or.inl ⟨by rfl, ?_⟩) (by assumption) ?_
    rotate_left
    · intro w hSw; (try dsimp only at hSw); go_simp; (try with_reducible rfl)
    rotate_left
    simp only [Act.put, List.setIfInBounds_toArray, List.set_cons_zero, List.set_cons_succ, List.getElem_toArray, List.getElem_cons_zero, List.getElem_cons_succ]
    refine wpAnyH_take (i := 6) (v := ?_) rfl (by kernel_rfl) (by kernel_rfl) (by kernel_rfl) (fun _ _ _ h => h) (Or.inl ⟨by rfl, ?_⟩) (by assumption) ?_
    rotate_left
    · intro w hSw; (try dsimp only at hSw); go_simp; (try with_reducible rfl)
    rotate_left
    simp only [Act.put, List.setIfInBounds_toArray, List.set_cons_zero, List.set_cons_succ, List.getElem_toArray, List.getElem_cons_zero, List.getElem_cons_succ]
    refine wpAnyH_ready (rs := [1, 4, 7]) (by kernel_rfl) (by simp) ?_
    refine AllReadyH.cons rfl (fun K hK => ?_) ?_
    · go_simp
      refine hK.out _ _ ?_ (fun hHeld => ?_)
      · exact trivial
      clear hK K
      (try simp only [Act.put, List.setIfInBounds_toArray, List.set_cons_zero, List.set_cons_succ, List.getElem_toArray, List.getElem_cons_zero, List.getElem_cons_succ])
      refine wpAnyH_ready (rs := [2, 4, 7]) (by kernel_rfl) (by simp) ?_
      refine AllReadyH.cons rfl (fun K hK => ?_) ?_
      · go_simp
        refine (cloneI s1 S.n1 t1 (lst S.n1 S.L1) _ (lst_len _ _).symm (li_lst (HS.out.below HB.out).s1) j1).mono ?_
        rintro e v1 ⟨a1, e1, rfl, hb, hc⟩
        have hz := hb.size
        have zz1 : Hid (w.heap.size < v1.heap.size) := Hid.mk (Nat.lt_of_lt_of_le (blk_lt A.out) hz)
        have o1 : Hid (Ow (w.heap.size + 1) v1.heap.size v1 (lst S.n1 S.L1) a1) := Hid.mk (hc.imp id fun ⟨g, h1, h2, h3, h4⟩ => ⟨g, h1, Nat.le_trans (blk_lt A.out) h2, h3, h4⟩)
        have HB := Hid.mk (below_then HB.out hb)
        have A := Hid.mk (blk_below A.out hb)
        clear hb hc hz y6 y7 y8 z6 z7 z8
        rw [lst_len]
        have y6 := blk_cell A.out 6
        have y7 := blk_cell A.out 7
        have y8 := blk_cell A.out 8
        simp only [List.getElem?_toArray, List.getElem?_cons_zero, List.getElem?_cons_succ] at y6 y7 y8
        have z6 := blk_unfrozen A.out 6
        have z7 := blk_unfrozen A.out 7
        have z8 := blk_unfrozen A.out 8
        refine hK.out _ _ ?_ (fun hHeld => ?_)
        · exact trivial
        clear hK K
        (try simp only [Act.put, List.setIfInBounds_toArray, List.set_cons_zero, List.set_cons_succ, List.getElem_toArray, List.getElem_cons_zero, List.getElem_cons_succ])
        refine wpAnyH_ready (rs := [4, 7]) (by kernel_rfl) (by simp) ?_
        refine AllReadyH.cons rfl (fun K hK => ?_) ?_
        · go_simp
          refine hK.out _ _ ?_ (fun hHeld => ?_)
          · exact trivial
          clear hK K
          (try simp only [Act.put, List.setIfInBounds_toArray, List.set_cons_zero, List.set_cons_succ, List.getElem_toArray, List.getElem_cons_zero, List.getElem_cons_succ])
          refine wpAnyH_ready (rs := [5, 7]) (by kernel_rfl) (by simp) ?_
          refine AllReadyH.cons rfl (fun K hK => ?_) ?_
          · go_simp
            refine (cloneI s2 S.n2 t2 (lst S.n2 S.L2) _ (lst_len _ _).symm (li_lst (HS.out.below HB.out).s2) j2).mono ?_
            rintro e v2 ⟨a2, e2, rfl, hb, hc⟩
            have hz := hb.size
            have zz2 : Hid (v1.heap.size ≤ v2.heap.size) := Hid.mk hz
            have o2 : Hid (Ow v1.heap.size v2.heap.size v2 (lst S.n2 S.L2) a2) := Hid.mk hc
            have o1 := Hid.mk (o1.out.below hb)
            have HB := Hid.mk (below_then HB.out hb)
            have A := Hid.mk (blk_below A.out hb)
            clear hb hc hz y6 y7 y8 z6 z7 z8
            rw [lst_len]
            have y6 := blk_cell A.out 6
            have y7 := blk_cell A.out 7
            have y8 := blk_cell A.out 8
            simp only [List.getElem?_toArray, List.getElem?_cons_zero, List.getElem?_cons_succ] at y6 y7 y8
            have z6 := blk_unfrozen A.out 6
            have z7 := blk_unfrozen A.out 7
            have z8 := blk_unfrozen A.out 8
            refine hK.out _ _ ?_ (fun hHeld => ?_)
            · exact trivial
            clear hK K
            (try simp only [Act.put, List.setIfInBounds_toArray, List.set_cons_zero, List.set_cons_succ, List.getElem_toArray, List.getElem_cons_zero, List.getElem_cons_succ])
            refine wpAnyH_ready (rs := [7]) (by kernel_rfl) (by simp) ?_
            refine AllReadyH.cons rfl (fun K hK => ?_) ?_
            · go_simp
              refine hK.out _ _ ?_ (fun hHeld => ?_)
              · exact trivial
              clear hK K
              (try simp only [Act.put, List.setIfInBounds_toArray, List.set_cons_zero, List.set_cons_succ, List.getElem_toArray, List.getElem_cons_zero, List.getElem_cons_succ])
              refine wpAnyH_take (i := 9) (v := ?_) rfl (by kernel_rfl) (by kernel_rfl) (by kernel_rfl) (fun _ _ _ h => h) (Or.inl ⟨by rfl, ?_⟩) (by assumption) ?_
              rotate_left
              · intro w hSw; (try dsimp only at hSw); go_simp; (try with_reducible rfl)
              rotate_left
              simp only [Act.put, List.setIfInBounds_toArray, List.set_cons_zero, List.set_cons_succ, List.getElem_toArray, List.getElem_cons_zero, List.getElem_cons_succ]
              refine wpAnyH_ready (rs := [8]) (by kernel_rfl) (by simp) ?_
              refine AllReadyH.cons rfl (fun K hK => ?_) ?_
              · go_simp
                refine (cloneI s3 S.n3 t3 (lst S.n3 S.L3) _ (lst_len _ _).symm (li_lst (HS.out.below HB.out).s3) j3).mono ?_
                rintro e v3 ⟨a3, e3, rfl, hb, hc⟩
                have hz := hb.size
                have zz3 : Hid (v2.heap.size ≤ v3.heap.size) := Hid.mk hz
                have o3 : Hid (Ow v2.heap.size v3.heap.size v3 (lst S.n3 S.L3) a3) := Hid.mk hc
                have o1 := Hid.mk (o1.out.below hb)
                have o2 := Hid.mk (o2.out.below hb)
                have HB := Hid.mk (below_then HB.out hb)
                have A := Hid.mk (blk_below A.out hb)
                clear hb hc hz y6 y7 y8 z6 z7 z8
                rw [lst_len]
                have y6 := blk_cell A.out 6
                have y7 := blk_cell A.out 7
                have y8 := blk_cell A.out 8
                simp only [List.getElem?_toArray, List.getElem?_cons_zero, List.getElem?_cons_succ] at y6 y7 y8
                have z6 := blk_unfrozen A.out 6
                have z7 := blk_unfrozen A.out 7
                have z8 := blk_unfrozen A.out 8
                refine hK.out _ _ ?_ (fun hHeld => ?_)
                · exact trivial
                clear hK K
                (try simp only [Act.put, List.setIfInBounds_toArray, List.set_cons_zero, List.set_cons_succ, List.getElem_toArray, List.getElem_cons_zero, List.getElem_cons_succ])
                refine wpAnyH_ready (rs := [10]) (by kernel_rfl) (by simp) ?_
                refine AllReadyH.cons rfl (fun K hK => ?_) ?_
                · go_simp
                  refine hK.out _ _ ?_ (fun hHeld => ?_)
                  · exact trivial
                  clear hK K
                  (try simp only [Act.put, List.setIfInBounds_toArray, List.set_cons_zero, List.set_cons_succ, List.getElem_toArray, List.getElem_cons_zero, List.getElem_cons_succ])
                  refine wpAnyH_take (i := 11) (v := ?_) rfl (by kernel_rfl) (by kernel_rfl) (by kernel_rfl) (fun _ _ _ h => h) (Or.inl ⟨by rfl, ?_⟩) (by assumption) ?_
                  rotate_left
                  · intro w hSw; (try dsimp only at hSw); go_simp; (try with_reducible rfl)
                  rotate_left
                  simp only [Act.put, List.setIfInBounds_toArray, List.set_cons_zero, List.set_cons_succ, List.getElem_toArray, List.getElem_cons_zero, List.getElem_cons_succ]
                  refine wpAnyH_ready (rs := [12]) (by kernel_rfl) (by simp) ?_
                  refine AllReadyH.cons rfl (fun K hK => ?_) ?_
                  · go_simp
                    refine hK.out _ _ ?_ (fun hHeld => ?_)
                    · exact trivial
                    clear hK K
                    (try simp only [Act.put, List.setIfInBounds_toArray, List.set_cons_zero, List.set_cons_succ, List.getElem_toArray, List.getElem_cons_zero, List.getElem_cons_succ])
                    refine wpAnyH_take (i := 13) (v := ?_) rfl (by kernel_rfl) (by kernel_rfl) (by kernel_rfl) (fun _ _ _ h => h) (Or.inl ⟨by rfl, ?_⟩) (by assumption) ?_
                    rotate_left
                    · intro w hSw; (try dsimp only at hSw); go_simp; (try with_reducible rfl)
                    rotate_left
                    simp only [Act.put, List.setIfInBounds_toArray, List.set_cons_zero, List.set_cons_succ, List.getElem_toArray, List.getElem_cons_zero, List.getElem_cons_succ]
                    refine wpAnyH_ready (rs := [14]) (by kernel_rfl) (by simp) ?_
                    refine AllReadyH.cons rfl (fun K hK => ?_) ?_
                    · go_simp
                      refine hK.out _ _ ?_ (fun hHeld => ?_)
                      · exact trivial
                      clear hK K
                      (try simp only [Act.put, List.setIfInBounds_toArray, List.set_cons_zero, List.set_cons_succ, List.getElem_toArray, List.getElem_cons_zero, List.getElem_cons_succ])
                      refine wpAnyH_done (by kernel_rfl) ?_ _
                      go_wp2_with fail
                      go_meet
                      have A' := blk_set (blk_set (blk_set A.out 6 (.slice a1 S.n1 e1)) 7 (.slice a2 S.n2 e2)) 8 (.slice a3 S.n3 e3)
                      simp only [List.setIfInBounds_toArray, List.set_cons_zero, List.set_cons_succ] at A'
                      have q1 := zz1.out
                      have q2 := zz2.out
                      have q3 := zz3.out
                      exact ⟨a1, a2, a3, e1, e2, e3, v1.heap.size, v2.heap.size, Hid.mk A', Hid.mk (((HB.out.setCell (p := ⟨w.heap.size, 6, none⟩) (Nat.le_refl _) _).setCell (p := ⟨w.heap.size, 7, none⟩) (Nat.le_refl _) _).setCell (p := ⟨w.heap.size, 8, none⟩) (Nat.le_refl _) _), Hid.mk ⟨q1, q2, by rw [size_set, size_set, size_set]; exact q3⟩, Hid.mk (((o1.out.set (p := ⟨w.heap.size, 6, none⟩) (by show w.heap.size < _; omega) _).set (p := ⟨w.heap.size, 7, none⟩) (by show w.heap.size < _; omega) _).set (p := ⟨w.heap.size, 8, none⟩) (by show w.heap.size < _; omega) _), Hid.mk (((o2.out.set (p := ⟨w.heap.size, 6, none⟩) (by show w.heap.size < _; omega) _).set (p := ⟨w.heap.size, 7, none⟩) (by show w.heap.size < _; omega) _).set (p := ⟨w.heap.size, 8, none⟩) (by show w.heap.size < _; omega) _), Hid.mk (by rw [size_set, size_set, size_set]; exact ((o3.out.set (p := ⟨w.heap.size, 6, none⟩) (by show w.heap.size < _; omega) _).set (p := ⟨w.heap.size, 7, none⟩) (by show w.heap.size < _; omega) _).set (p := ⟨w.heap.size, 8, none⟩) (by show w.heap.size < _; omega) _)⟩
                    exact AllReadyH.nil
                  exact AllReadyH.nil
                exact AllReadyH.nil
              exact AllReadyH.nil
            exact AllReadyH.nil
          refine AllReadyH.cons rfl (fun K hK => ?_) ?_
          · go_simp
            refine hK.out _ _ ?_ (fun hHeld => ?_)
            · exact trivial
            clear hK K
            (try simp only [Act.put, List.setIfInBounds_toArray, List.set_cons_zero, List.set_cons_succ, List.getElem_toArray, List.getElem_cons_zero, List.getElem_cons_succ])
            refine wpAnyH_take (i := 9) (v := ?_) rfl (by kernel_rfl) (by kernel_rfl) (by kernel_rfl) (fun _ _ _ h => h) (Or.inl ⟨by rfl, ?_⟩) (by assumption) ?_
            rotate_left
            · intro w hSw; (try dsimp only at hSw); go_simp; (try with_reducible rfl)
            rotate_left
            simp only [Act.put, List.setIfInBounds_toArray, List.set_cons_zero, List.set_cons_succ, List.getElem_toArray, List.getElem_cons_zero, List.getElem_cons_succ]
            refine wpAnyH_ready (rs := [5]) (by kernel_rfl) (by simp) ?_
            refine AllReadyH.cons rfl (fun K hK => ?_) ?_
            · go_simp
              refine (cloneI s2 S.n2 t2 (lst S.n2 S.L2) _ (lst_len _ _).symm (li_lst (HS.out.below HB.out).s2) j2).mono ?_
              rintro e v2 ⟨a2, e2, rfl, hb, hc⟩
              have hz := hb.size
              have zz2 : Hid (v1.heap.size ≤ v2.heap.size) := Hid.mk hz
              have o2 : Hid (Ow v1.heap.size v2.heap.size v2 (lst S.n2 S.L2) a2) := Hid.mk hc
              have o1 := Hid.mk (o1.out.below hb)
              have HB := Hid.mk (below_then HB.out hb)
              have A := Hid.mk (blk_below A.out hb)
              clear hb hc hz y6 y7 y8 z6 z7 z8
              rw [lst_len]
              have y6 := blk_cell A.out 6
              have y7 := blk_cell A.out 7
              have y8 := blk_cell A.out 8
              simp only [List.getElem?_toArray, List.getElem?_cons_zero, List.getElem?_cons_succ] at y6 y7 y8
              have z6 := blk_unfrozen A.out 6
              have z7 := blk_unfrozen A.out 7
              have z8 := blk_unfrozen A.out 8
              refine hK.out _ _ ?_ (fun hHeld => ?_)
              · exact trivial
              clear hK K
              (try simp only [Act.put, List.setIfInBounds_toArray, List.set_cons_zero, List.set_cons_succ, List.getElem_toArray, List.getElem_cons_zero, List.getElem_cons_succ])
              refine wpAnyH_ready (rs := [8]) (by kernel_rfl) (by simp) ?_
              refine AllReadyH.cons rfl (fun K hK => ?_) ?_
              · go_simp
                refine (cloneI s3 S.n3 t3 (lst S.n3 S.L3) _ (lst_len _ _).symm (li_lst (HS.out.below HB.out).s3) j3).mono ?_
                rintro e v3 ⟨a3, e3, rfl, hb, hc⟩
                have hz := hb.size
                have zz3 : Hid (v2.heap.size ≤ v3.heap.size) := Hid.mk hz
                have o3 : Hid (Ow v2.heap.size v3.heap.size v3 (lst S.n3 S.L3) a3) := Hid.mk hc
                have o1 := Hid.mk (o1.out.below hb)
                have o2 := Hid.mk (o2.out.below hb)
                have HB := Hid.mk (below_then HB.out hb)
                have A := Hid.mk (blk_below A.out hb)
                clear hb hc hz y6 y7 y8 z6 z7 z8
                rw [lst_len]
                have y6 := blk_cell A.out 6
                have y7 := blk_cell A.out 7
                have y8 := blk_cell A.out 8
                simp only [List.getElem?_toArray, List.getElem?_cons_zero, List.getElem?_cons_succ] at y6 y7 y8
                have z6 := blk_unfrozen A.out 6
                have z7 := blk_unfrozen A.out 7
                have z8 := blk_unfrozen A.out 8
                refine hK.out _ _ ?_ (fun hHeld => ?_)
                · exact trivial
                clear hK K
                (try simp only [Act.put, List.setIfInBounds_toArray, List.set_cons_zero, List.set_cons_succ, List.getElem_toArray, List.getElem_cons_zero, List.getElem_cons_succ])
                refine wpAnyH_ready (rs := [10]) (by kernel_rfl) (by simp) ?_
                refine AllReadyH.cons rfl (fun K hK => ?_) ?_
                · go_simp
                  refine hK.out _ _ ?_ (fun hHeld => ?_)
                  · exact trivial
                  clear hK K
                  (try simp only [Act.put, List.setIfInBounds_toArray, List.set_cons_zero, List.set_cons_succ, List.getElem_toArray, List.getElem_cons_zero, List.getElem_cons_succ])
                  refine wpAnyH_take (i := 11) (v := ?_) rfl (by kernel_rfl) (by kernel_rfl) (by kernel_rfl) (fun _ _ _ h => h) (Or.inl ⟨by rfl, ?_⟩) (by assumption) ?_
                  rotate_left
                  · intro w hSw; (try dsimp only at hSw); go_simp; (try with_reducible rfl)
                  rotate_left
                  simp only [Act.put, List.setIfInBounds_toArray, List.set_cons_zero, List.set_cons_succ, List.getElem_toArray, List.getElem_cons_zero, List.getElem_cons_succ]
                  refine wpAnyH_ready (rs := [12]) (by kernel_rfl) (by simp) ?_
                  refine AllReadyH.cons rfl (fun K hK => ?_) ?_
                  · go_simp
                    refine hK.out _ _ ?_ (fun hHeld => ?_)
                    · exact trivial
                    clear hK K
                    (try simp only [Act.put, List.setIfInBounds_toArray, List.set_cons_zero, List.set_cons_succ, List.getElem_toArray, List.getElem_cons_zero, List.getElem_cons_succ])
                    refine wpAnyH_take (i := 13) (v := ?_) rfl (by kernel_rfl) (by kernel_rfl) (by kernel_rfl) (fun _ _ _ h => h) (Or.inl ⟨by rfl, ?_⟩) (by assumption) ?_
                    rotate_left
                    · intro w hSw; (try dsimp only at hSw); go_simp; (try with_reducible rfl)
                    rotate_left
                    simp only [Act.put, List.setIfInBounds_toArray, List.set_cons_zero, List.set_cons_succ, List.getElem_toArray, List.getElem_cons_zero, List.getElem_cons_succ]
                    refine wpAnyH_ready (rs := [14]) (by kernel_rfl) (by simp) ?_
                    refine AllReadyH.cons rfl (fun K hK => ?_) ?_
                    · go_simp
                      refine hK.out _ _ ?_ (fun hHeld => ?_)
                      · exact trivial
                      clear hK K
                      (try simp only [Act.put, List.setIfInBounds_toArray, List.set_cons_zero, List.set_cons_succ, List.getElem_toArray, List.getElem_cons_zero, List.getElem_cons_succ])
                      refine wpAnyH_done (by kernel_rfl) ?_ _
                      go_wp2_with fail
                      go_meet
                      have A' := blk_set (blk_set (blk_set A.out 6 (.slice a1 S.n1 e1)) 7 (.slice a2 S.n2 e2)) 8 (.slice a3 S.n3 e3)
                      simp only [List.setIfInBounds_toArray, List.set_cons_zero, List.set_cons_succ] at A'
                      have q1 := zz1.out
                      have q2 := zz2.out
                      have q3 := zz3.out
                      exact ⟨a1, a2, a3, e1, e2, e3, v1.heap.size, v2.heap.size, Hid.mk A', Hid.mk (((HB.out.setCell (p := ⟨w.heap.size, 6, none⟩) (Nat.le_refl _) _).setCell (p := ⟨w.heap.size, 7, none⟩) (Nat.le_refl _) _).setCell (p := ⟨w.heap.size, 8, none⟩) (Nat.le_refl _) _), Hid.mk ⟨q1, q2, by rw [size_set, size_set, size_set]; exact q3⟩, Hid.mk (((o1.out.set (p := ⟨w.heap.size, 6, none⟩) (by show w.heap.size < _; omega) _).set (p := ⟨w.heap.size, 7, none⟩) (by show w.heap.size < _; omega) _).set (p := ⟨w.heap.size, 8, none⟩) (by show w.heap.size < _; omega) _), Hid.mk (((o2.out.set (p := ⟨w.heap.size, 6, none⟩) (by show w.heap.size < _; omega) _).set (p := ⟨w.heap.size, 7, none⟩) (by show w.heap.size < _; omega) _).set (p := ⟨w.heap.size, 8, none⟩) (by show w.heap.size < _; omega) _), Hid.mk (by rw [size_set, size_set, size_set]; exact ((o3.out.set (p := ⟨w.heap.size, 6, none⟩) (by show w.heap.size < _; omega) _).set (p := ⟨w.heap.size, 7, none⟩) (by show w.heap.size < _; omega) _).set (p := ⟨w.heap.size, 8, none⟩) (by show w.heap.size < _; omega) _)⟩
                    exact AllReadyH.nil
                  exact AllReadyH.nil
                exact AllReadyH.nil
              exact AllReadyH.nil
            exact AllReadyH.nil
          exact AllReadyH.nil
        refine AllReadyH.cons rfl (fun K hK => ?_) ?_
        · go_simp
          refine hK.out _ _ ?_ (fun hHeld => ?_)
          · exact trivial
          clear hK K
          (try simp only [Act.put, List.setIfInBounds_toArray, List.set_cons_zero, List.set_cons_succ, List.getElem_toArray, List.getElem_cons_zero, List.getElem_cons_succ])
          refine wpAnyH_ready (rs := [4]) (by kernel_rfl) (by simp) ?_
          refine AllReadyH.cons rfl (fun K hK => ?_) ?_
          · go_simp
            refine hK.out _ _ ?_ (fun hHeld => ?_)
            · exact trivial
            clear hK K
            (try simp only [Act.put, List.setIfInBounds_toArray, List.set_cons_zero, List.set_cons_succ, List.getElem_toArray, List.getElem_cons_zero, List.getElem_cons_succ])
            refine wpAnyH_take (i := 9) (v := ?_) rfl (by kernel_rfl) (by kernel_rfl) (by kernel_rfl) (fun _ _ _ h => h) (Or.inl ⟨by rfl, ?_⟩) (by assumption) ?_
            rotate_left
            · intro w hSw; (try dsimp only at hSw); go_simp; (try with_reducible rfl)
            rotate_left
            simp only [Act.put, List.setIfInBounds_toArray, List.set_cons_zero, List.set_cons_succ, List.getElem_toArray, List.getElem_cons_zero, List.getElem_cons_succ]
            refine wpAnyH_ready (rs := [5]) (by kernel_rfl) (by simp) ?_
            refine AllReadyH.cons rfl (fun K hK => ?_) ?_
            · go_simp
              refine (cloneI s2 S.n2 t2 (lst S.n2 S.L2) _ (lst_len _ _).symm (li_lst (HS.out.below HB.out).s2) j2).mono ?_
              rintro e v2 ⟨a2, e2, rfl, hb, hc⟩
              have hz := hb.size
              have zz2 : Hid (v1.heap.size ≤ v2.heap.size) := Hid.mk hz
              have o2 : Hid (Ow v1.heap.size v2.heap.size v2 (lst S.n2 S.L2) a2) := Hid.mk hc
              have o1 := Hid.mk (o1.out.below hb)
              have HB := Hid.mk (below_then HB.out hb)
              have A := Hid.mk (blk_below A.out hb)
              clear hb hc hz y6 y7 y8 z6 z7 z8
              rw [lst_len]
              have y6 := blk_cell A.out 6
              have y7 := blk_cell A.out 7
              have y8 := blk_cell A.out 8
              simp only [List.getElem?_toArray, List.getElem?_cons_zero, List.getElem?_cons_succ] at y6 y7 y8
              have z6 := blk_unfrozen A.out 6
              have z7 := blk_unfrozen A.out 7
              have z8 := blk_unfrozen A.out 8
              refine hK.out _ _ ?_ (fun hHeld => ?_)
              · exact trivial
              clear hK K
              (try simp only [Act.put, List.setIfInBounds_toArray, List.set_cons_zero, List.set_cons_succ, List.getElem_toArray, List.getElem_cons_zero, List.getElem_cons_succ])
              refine wpAnyH_ready (rs := [8]) (by kernel_rfl) (by simp) ?_
              refine AllReadyH.cons rfl (fun K hK => ?_) ?_
              · go_simp
                refine (cloneI s3 S.n3 t3 (lst S.n3 S.L3) _ (lst_len _ _).symm (li_lst (HS.out.below HB.out).s3) j3).mono ?_
                rintro e v3 ⟨a3, e3, rfl, hb, hc⟩
                have hz := hb.size
                have zz3 : Hid (v2.heap.size ≤ v3.heap.size) := Hid.mk hz
                have o3 : Hid (Ow v2.heap.size v3.heap.size v3 (lst S.n3 S.L3) a3) := Hid.mk hc
                have o1 := Hid.mk (o1.out.below hb)
                have o2 := Hid.mk (o2.out.below hb)
                have HB := Hid.mk (below_then HB.out hb)
                have A := Hid.mk (blk_below A.out hb)
                clear hb hc hz y6 y7 y8 z6 z7 z8
                rw [lst_len]
                have y6 := blk_cell A.out 6
                have y7 := blk_cell A.out 7
                have y8 := blk_cell A.out 8
                simp only [List.getElem?_toArray, List.getElem?_cons_zero, List.getElem?_cons_succ] at y6 y7 y8
                have z6 := blk_unfrozen A.out 6
                have z7 := blk_unfrozen A.out 7
                have z8 := blk_unfrozen A.out 8
                refine hK.out _ _ ?_ (fun hHeld => ?_)
                · exact trivial
                clear hK K
                (try simp only [Act.put, List.setIfInBounds_toArray, List.set_cons_zero, List.set_cons_succ, List.getElem_toArray, List.getElem_cons_zero, List.getElem_cons_succ])
                refine wpAnyH_ready (rs := [10]) (by kernel_rfl) (by simp) ?_
                refine AllReadyH.cons rfl (fun K hK => ?_) ?_
                · go_simp
                  refine hK.out _ _ ?_ (fun hHeld => ?_)
                  · exact trivial
                  clear hK K
                  (try simp only [Act.put, List.setIfInBounds_toArray, List.set_cons_zero, List.set_cons_succ, List.getElem_toArray, List.getElem_cons_zero, List.getElem_cons_succ])
                  refine wpAnyH_take (i := 11) (v := ?_) rfl (by kernel_rfl) (by kernel_rfl) (by kernel_rfl) (fun _ _ _ h => h) (Or.inl ⟨by rfl, ?_⟩) (by assumption) ?_
                  rotate_left
                  · intro w hSw; (try dsimp only at hSw); go_simp; (try with_reducible rfl)
                  rotate_left
                  simp only [Act.put, List.setIfInBounds_toArray, List.set_cons_zero, List.set_cons_succ, List.getElem_toArray, List.getElem_cons_zero, List.getElem_cons_succ]
                  refine wpAnyH_ready (rs := [12]) (by kernel_rfl) (by simp) ?_
                  refine AllReadyH.cons rfl (fun K hK => ?_) ?_
                  · go_simp
                    refine hK.out _ _ ?_ (fun hHeld => ?_)
                    · exact trivial
                    clear hK K
                    (try simp only [Act.put, List.setIfInBounds_toArray, List.set_cons_zero, List.set_cons_succ, List.getElem_toArray, List.getElem_cons_zero, List.getElem_cons_succ])
                    refine wpAnyH_take (i := 13) (v := ?_) rfl (by kernel_rfl) (by kernel_rfl) (by kernel_rfl) (fun _ _ _ h => h) (Or.inl ⟨by rfl, ?_⟩) (by assumption) ?_
                    rotate_left
                    · intro w hSw; (try dsimp only at hSw); go_simp; (try with_reducible rfl)
                    rotate_left
                    simp only [Act.put, List.setIfInBounds_toArray, List.set_cons_zero, List.set_cons_succ, List.getElem_toArray, List.getElem_cons_zero, List.getElem_cons_succ]
                    refine wpAnyH_ready (rs := [14]) (by kernel_rfl) (by simp) ?_
                    refine AllReadyH.cons rfl (fun K hK => ?_) ?_
                    · go_simp
                      refine hK.out _ _ ?_ (fun hHeld => ?_)
                      · exact trivial
                      clear hK K
                      (try simp only [Act.put, List.setIfInBounds_toArray, List.set_cons_zero, List.set_cons_succ, List.getElem_toArray, List.getElem_cons_zero, List.getElem_cons_succ])
                      refine wpAnyH_done (by kernel_rfl) ?_ _
                      go_wp2_with fail
                      go_meet
                      have A' := blk_set (blk_set (blk_set A.out 6 (.slice a1 S.n1 e1)) 7 (.slice a2 S.n2 e2)) 8 (.slice a3 S.n3 e3)
                      simp only [List.setIfInBounds_toArray, List.set_cons_zero, List.set_cons_succ] at A'
                      have q1 := zz1.out
                      have q2 := zz2.out
                      have q3 := zz3.out
                      exact ⟨a1, a2, a3, e1, e2, e3, v1.heap.size, v2.heap.size, Hid.mk A', Hid.mk (((HB.out.setCell (p := ⟨w.heap.size, 6, none⟩) (Nat.le_refl _) _).setCell (p := ⟨w.heap.size, 7, none⟩) (Nat.le_refl _) _).setCell (p := ⟨w.heap.size, 8, none⟩) (Nat.le_refl _) _), Hid.mk ⟨q1, q2, by rw [size_set, size_set, size_set]; exact q3⟩, Hid.mk (((o1.out.set (p := ⟨w.heap.size, 6, none⟩) (by show w.heap.size < _; omega) _).set (p := ⟨w.heap.size, 7, none⟩) (by show w.heap.size < _; omega) _).set (p := ⟨w.heap.size, 8, none⟩) (by show w.heap.size < _; omega) _), Hid.mk (((o2.out.set (p := ⟨w.heap.size, 6, none⟩) (by show w.heap.size < _; omega) _).set (p := ⟨w.heap.size, 7, none⟩) (by show w.heap.size < _; omega) _).set (p := ⟨w.heap.size, 8, none⟩) (by show w.heap.size < _; omega) _), Hid.mk (by rw [size_set, size_set, size_set]; exact ((o3.out.set (p := ⟨w.heap.size, 6, none⟩) (by show w.heap.size < _; omega) _).set (p := ⟨w.heap.size, 7, none⟩) (by show w.heap.size < _; omega) _).set (p := ⟨w.heap.size, 8, none⟩) (by show w.heap.size < _; omega) _)⟩
                    exact AllReadyH.nil
                  exact AllReadyH.nil
                exact AllReadyH.nil
              exact AllReadyH.nil
            exact AllReadyH.nil
          exact AllReadyH.nil
        exact AllReadyH.nil
      refine AllReadyH.cons rfl (fun K hK => ?_) ?_
      · go_simp
        refine hK.out _ _ ?_ (fun hHeld => ?_)
        · exact trivial
        clear hK K
        (try simp only [Act.put, List.setIfInBounds_toArray, List.set_cons_zero, List.set_cons_succ, List.getElem_toArray, List.getElem_cons_zero, List.getElem_cons_succ])
        refine wpAnyH_ready (rs := [2, 7]) (by kernel_rfl) (by simp) ?_
        refine AllReadyH.cons rfl (fun K hK => ?_) ?_
        · go_simp
          refine (cloneI s1 S.n1 t1 (lst S.n1 S.L1) _ (lst_len _ _).symm (li_lst (HS.out.below HB.out).s1) j1).mono ?_
          rintro e v1 ⟨a1, e1, rfl, hb, hc⟩
          have hz := hb.size
          have zz1 : Hid (w.heap.size < v1.heap.size) := Hid.mk (Nat.lt_of_lt_of_le (blk_lt A.out) hz)
          have o1 : Hid (Ow (w.heap.size + 1) v1.heap.size v1 (lst S.n1 S.L1) a1) := Hid.mk (hc.imp id fun ⟨g, h1, h2, h3, h4⟩ => ⟨g, h1, Nat.le_trans (blk_lt A.out) h2, h3, h4⟩)
          have HB := Hid.mk (below_then HB.out hb)
          have A := Hid.mk (blk_below A.out hb)
          clear hb hc hz y6 y7 y8 z6 z7 z8
          rw [lst_len]
          have y6 := blk_cell A.out 6
          have y7 := blk_cell A.out 7
          have y8 := blk_cell A.out 8
          simp only [List.getElem?_toArray, List.getElem?_cons_zero, List.getElem?_cons_succ] at y6 y7 y8
          have z6 := blk_unfrozen A.out 6
          have z7 := blk_unfrozen A.out 7
          have z8 := blk_unfrozen A.out 8
          refine hK.out _ _ ?_ (fun hHeld => ?_)
          · exact trivial
          clear hK K
          (try simp only [Act.put, List.setIfInBounds_toArray, List.set_cons_zero, List.set_cons_succ, List.getElem_toArray, List.getElem_cons_zero, List.getElem_cons_succ])
          refine wpAnyH_ready (rs := [5, 7]) (by kernel_rfl) (by simp) ?_
          refine AllReadyH.cons rfl (fun K hK => ?_) ?_
          · go_simp
            refine (cloneI s2 S.n2 t2 (lst S.n2 S.L2) _ (lst_len _ _).symm (li_lst (HS.out.below HB.out).s2) j2).mono ?_
            rintro e v2 ⟨a2, e2, rfl, hb, hc⟩
            have hz := hb.size
            have zz2 : Hid (v1.heap.size ≤ v2.heap.size) := Hid.mk hz
            have o2 : Hid (Ow v1.heap.size v2.heap.size v2 (lst S.n2 S.L2) a2) := Hid.mk hc
            have o1 := Hid.mk (o1.out.below hb)
            have HB := Hid.mk (below_then HB.out hb)
            have A := Hid.mk (blk_below A.out hb)
            clear hb hc hz y6 y7 y8 z6 z7 z8
            rw [lst_len]
            have y6 := blk_cell A.out 6
            have y7 := blk_cell A.out 7
            have y8 := blk_cell A.out 8
            simp only [List.getElem?_toArray, List.getElem?_cons_zero, List.getElem?_cons_succ] at y6 y7 y8
            have z6 := blk_unfrozen A.out 6
            have z7 := blk_unfrozen A.out 7
            have z8 := blk_unfrozen A.out 8
            refine hK.out _ _ ?_ (fun hHeld => ?_)
            · exact trivial
            clear hK K
            (try simp only [Act.put, List.setIfInBounds_toArray, List.set_cons_zero, List.set_cons_succ, List.getElem_toArray, List.getElem_cons_zero, List.getElem_cons_succ])
            refine wpAnyH_ready (rs := [7]) (by kernel_rfl) (by simp) ?_
            refine AllReadyH.cons rfl (fun K hK => ?_) ?_
            · go_simp
              refine hK.out _ _ ?_ (fun hHeld => ?_)
              · exact trivial
              clear hK K
              (try simp only [Act.put, List.setIfInBounds_toArray, List.set_cons_zero, List.set_cons_succ, List.getElem_toArray, List.getElem_cons_zero, List.getElem_cons_succ])
              refine wpAnyH_take (i := 9) (v := ?_) rfl (by kernel_rfl) (by kernel_rfl) (by kernel_rfl) (fun _ _ _ h => h) (Or.inl ⟨by rfl, ?_⟩) (by assumption) ?_
              rotate_left
              · intro w hSw; (try dsimp only at hSw); go_simp; (try with_reducible rfl)
              rotate_left
              simp only [Act.put, List.setIfInBounds_toArray, List.set_cons_zero, List.set_cons_succ, List.getElem_toArray, List.getElem_cons_zero, List.getElem_cons_succ]
              refine wpAnyH_ready (rs := [8]) (by kernel_rfl) (by simp) ?_
              refine AllReadyH.cons rfl (fun K hK => ?_) ?_
              · go_simp
                refine (cloneI s3 S.n3 t3 (lst S.n3 S.L3) _ (lst_len _ _).symm (li_lst (HS.out.below HB.out).s3) j3).mono ?_
                rintro e v3 ⟨a3, e3, rfl, hb, hc⟩
                have hz := hb.size
                have zz3 : Hid (v2.heap.size ≤ v3.heap.size) := Hid.mk hz
                have o3 : Hid (Ow v2.heap.size v3.heap.size v3 (lst S.n3 S.L3) a3) := Hid.mk hc
                have o1 := Hid.mk (o1.out.below hb)
                have o2 := Hid.mk (o2.out.below hb)
                have HB := Hid.mk (below_then HB.out hb)
                have A := Hid.mk (blk_below A.out hb)
                clear hb hc hz y6 y7 y8 z6 z7 z8
                rw [lst_len]
                have y6 := blk_cell A.out 6
                have y7 := blk_cell A.out 7
                have y8 := blk_cell A.out 8
                simp only [List.getElem?_toArray, List.getElem?_cons_zero, List.getElem?_cons_succ] at y6 y7 y8
                have z6 := blk_unfrozen A.out 6
                have z7 := blk_unfrozen A.out 7
                have z8 := blk_unfrozen A.out 8
                refine hK.out _ _ ?_ (fun hHeld => ?_)
                · exact trivial
                clear hK K
                (try simp only [Act.put, List.setIfInBounds_toArray, List.set_cons_zero, List.set_cons_succ, List.getElem_toArray, List.getElem_cons_zero, List.getElem_cons_succ])
                refine wpAnyH_ready (rs := [10]) (by kernel_rfl) (by simp) ?_
                refine AllReadyH.cons rfl (fun K hK => ?_) ?_
                · go_simp
                  refine hK.out _ _ ?_ (fun hHeld => ?_)
                  · exact trivial
                  clear hK K
                  (try simp only [Act.put, List.setIfInBounds_toArray, List.set_cons_zero, List.set_cons_succ, List.getElem_toArray, List.getElem_cons_zero, List.getElem_cons_succ])
                  refine wpAnyH_take (i := 11) (v := ?_) rfl (by kernel_rfl) (by kernel_rfl) (by kernel_rfl) (fun _ _ _ h => h) (Or.inl ⟨by rfl, ?_⟩) (by assumption) ?_
                  rotate_left
                  · intro w hSw; (try dsimp only at hSw); go_simp; (try with_reducible rfl)
                  rotate_left
                  simp only [Act.put, List.setIfInBounds_toArray, List.set_cons_zero, List.set_cons_succ, List.getElem_toArray, List.getElem_cons_zero, List.getElem_cons_succ]
                  refine wpAnyH_ready (rs := [12]) (by kernel_rfl) (by simp) ?_
                  refine AllReadyH.cons rfl (fun K hK => ?_) ?_
                  · go_simp
                    refine hK.out _ _ ?_ (fun hHeld => ?_)
                    · exact trivial
                    clear hK K
                    (try simp only [Act.put, List.setIfInBounds_toArray, List.set_cons_zero, List.set_cons_succ, List.getElem_toArray, List.getElem_cons_zero, List.getElem_cons_succ])
                    refine wpAnyH_take (i := 13) (v := ?_) rfl (by kernel_rfl) (by kernel_rfl) (by kernel_rfl) (fun _ _ _ h => h) (Or.inl ⟨by rfl, ?_⟩) (by assumption) ?_
                    rotate_left
                    · intro w hSw; (try dsimp only at hSw); go_simp; (try with_reducible rfl)
                    rotate_left
                    simp only [Act.put, List.setIfInBounds_toArray, List.set_cons_zero, List.set_cons_succ, List.getElem_toArray, List.getElem_cons_zero, List.getElem_cons_succ]
                    refine wpAnyH_ready (rs := [14]) (by kernel_rfl) (by simp) ?_
                    refine AllReadyH.cons rfl (fun K hK => ?_) ?_
                    · go_simp
                      refine hK.out _ _ ?_ (fun hHeld => ?_)
                      · exact trivial
                      clear hK K
                      (try simp only [Act.put, List.setIfInBounds_toArray, List.set_cons_zero, List.set_cons_succ, List.getElem_toArray, List.getElem_cons_zero, List.getElem_cons_succ])
                      refine wpAnyH_done (by kernel_rfl) ?_ _
                      go_wp2_with fail
                      go_meet
                      have A' := blk_set (blk_set (blk_set A.out 6 (.slice a1 S.n1 e1)) 7 (.slice a2 S.n2 e2)) 8 (.slice a3 S.n3 e3)
                      simp only [List.setIfInBounds_toArray, List.set_cons_zero, List.set_cons_succ] at A'
                      have q1 := zz1.out
                      have q2 := zz2.out
                      have q3 := zz3.out
                      exact ⟨a1, a2, a3, e1, e2, e3, v1.heap.size, v2.heap.size, Hid.mk A', Hid.mk (((HB.out.setCell (p := ⟨w.heap.size, 6, none⟩) (Nat.le_refl _) _).setCell (p := ⟨w.heap.size, 7, none⟩) (Nat.le_refl _) _).setCell (p := ⟨w.heap.size, 8, none⟩) (Nat.le_refl _) _), Hid.mk ⟨q1, q2, by rw [size_set, size_set, size_set]; exact q3⟩, Hid.mk (((o1.out.set (p := ⟨w.heap.size, 6, none⟩) (by show w.heap.size < _; omega) _).set (p := ⟨w.heap.size, 7, none⟩) (by show w.heap.size < _; omega) _).set (p := ⟨w.heap.size, 8, none⟩) (by show w.heap.size < _; omega) _), Hid.mk (((o2.out.set (p := ⟨w.heap.size, 6, none⟩) (by show w.heap.size < _; omega) _).set (p := ⟨w.heap.size, 7, none⟩) (by show w.heap.size < _; omega) _).set (p := ⟨w.heap.size, 8, none⟩) (by show w.heap.size < _; omega) _), Hid.mk (by rw [size_set, size_set, size_set]; exact ((o3.out.set (p := ⟨w.heap.size, 6, none⟩) (by show w.heap.size < _; omega) _).set (p := ⟨w.heap.size, 7, none⟩) (by show w.heap.size < _; omega) _).set (p := ⟨w.heap.size, 8, none⟩) (by show w.heap.size < _; omega) _)⟩
                    exact AllReadyH.nil
                  exact AllReadyH.nil
                exact AllReadyH.nil
              exact AllReadyH.nil
            exact AllReadyH.nil
          refine AllReadyH.cons rfl (fun K hK => ?_) ?_
          · go_simp
            refine hK.out _ _ ?_ (fun hHeld => ?_)
            · exact trivial
            clear hK K
            (try simp only [Act.put, List.setIfInBounds_toArray, List.set_cons_zero, List.set_cons_succ, List.getElem_toArray, List.getElem_cons_zero, List.getElem_cons_succ])
            refine wpAnyH_take (i := 9) (v := ?_) rfl (by kernel_rfl) (by kernel_rfl) (by kernel_rfl) (fun _ _ _ h => h) (Or.inl ⟨by rfl, ?_⟩) (by assumption) ?_
            rotate_left
            · intro w hSw; (try dsimp only at hSw); go_simp; (try with_reducible rfl)
            rotate_left
            simp only [Act.put, List.setIfInBounds_toArray, List.set_cons_zero, List.set_cons_succ, List.getElem_toArray, List.getElem_cons_zero, List.getElem_cons_succ]
            refine wpAnyH_ready (rs := [5]) (by kernel_rfl) (by simp) ?_
            refine AllReadyH.cons rfl (fun K hK => ?_) ?_
            · go_simp
              refine (cloneI s2 S.n2 t2 (lst S.n2 S.L2) _ (lst_len _ _).symm (li_lst (HS.out.below HB.out).s2) j2).mono ?_
              rintro e v2 ⟨a2, e2, rfl, hb, hc⟩
              have hz := hb.size
              have zz2 : Hid (v1.heap.size ≤ v2.heap.size) := Hid.mk hz
              have o2 : Hid (Ow v1.heap.size v2.heap.size v2 (lst S.n2 S.L2) a2) := Hid.mk hc
              have o1 := Hid.mk (o1.out.below hb)
              have HB := Hid.mk (below_then HB.out hb)
              have A := Hid.mk (blk_below A.out hb)
              clear hb hc hz y6 y7 y8 z6 z7 z8
              rw [lst_len]
              have y6 := blk_cell A.out 6
              have y7 := blk_cell A.out 7
              have y8 := blk_cell A.out 8
              simp only [List.getElem?_toArray, List.getElem?_cons_zero, List.getElem?_cons_succ] at y6 y7 y8
              have z6 := blk_unfrozen A.out 6
              have z7 := blk_unfrozen A.out 7
              have z8 := blk_unfrozen A.out 8
              refine hK.out _ _ ?_ (fun hHeld => ?_)
              · exact trivial
              clear hK K
              (try simp only [Act.put, List.setIfInBounds_toArray, List.set_cons_zero, List.set_cons_succ, List.getElem_toArray, List.getElem_cons_zero, List.getElem_cons_succ])
              refine wpAnyH_ready (rs := [8]) (by kernel_rfl) (by simp) ?_
              refine AllReadyH.cons rfl (fun K hK => ?_) ?_
              · go_simp
                refine (cloneI s3 S.n3 t3 (lst S.n3 S.L3) _ (lst_len _ _).symm (li_lst (HS.out.below HB.out).s3) j3).mono ?_
                rintro e v3 ⟨a3, e3, rfl, hb, hc⟩
                have hz := hb.size
                have zz3 : Hid (v2.heap.size ≤ v3.heap.size) := Hid.mk hz
                have o3 : Hid (Ow v2.heap.size v3.heap.size v3 (lst S.n3 S.L3) a3) := Hid.mk hc
                have o1 := Hid.mk (o1.out.below hb)
                have o2 := Hid.mk (o2.out.below hb)
                have HB := Hid.mk (below_then HB.out hb)
                have A := Hid.mk (blk_below A.out hb)
                clear hb hc hz y6 y7 y8 z6 z7 z8
                rw [lst_len]
                have y6 := blk_cell A.out 6
                have y7 := blk_cell A.out 7
                have y8 := blk_cell A.out 8
                simp only [List.getElem?_toArray, List.getElem?_cons_zero, List.getElem?_cons_succ] at y6 y7 y8
                have z6 := blk_unfrozen A.out 6
                have z7 := blk_unfrozen A.out 7
                have z8 := blk_unfrozen A.out 8
                refine hK.out _ _ ?_ (fun hHeld => ?_)
                · exact trivial
                clear hK K
                (try simp only [Act.put, List.setIfInBounds_toArray, List.set_cons_zero, List.set_cons_succ, List.getElem_toArray, List.getElem_cons_zero, List.getElem_cons_succ])
                refine wpAnyH_ready (rs := [10]) (by kernel_rfl) (by simp) ?_
                refine AllReadyH.cons rfl (fun K hK => ?_) ?_
                · go_simp
                  refine hK.out _ _ ?_ (fun hHeld => ?_)
                  · exact trivial
                  clear hK K
                  (try simp only [Act.put, List.setIfInBounds_toArray, List.set_cons_zero, List.set_cons_succ, List.getElem_toArray, List.getElem_cons_zero, List.getElem_cons_succ])
                  refine wpAnyH_take (i := 11) (v := ?_) rfl (by kernel_rfl) (by kernel_rfl) (by kernel_rfl) (fun _ _ _ h => h) (Or.inl ⟨by rfl, ?_⟩) (by assumption) ?_
                  rotate_left
                  · intro w hSw; (try dsimp only at hSw); go_simp; (try with_reducible rfl)
                  rotate_left
                  simp only [Act.put, List.setIfInBounds_toArray, List.set_cons_zero, List.set_cons_succ, List.getElem_toArray, List.getElem_cons_zero, List.getElem_cons_succ]
                  refine wpAnyH_ready (rs := [12]) (by kernel_rfl) (by simp) ?_
                  refine AllReadyH.cons rfl (fun K hK => ?_) ?_
                  · go_simp
                    refine hK.out _ _ ?_ (fun hHeld => ?_)
                    · exact trivial
                    clear hK K
                    (try simp only [Act.put, List.setIfInBounds_toArray, List.set_cons_zero, List.set_cons_succ, List.getElem_toArray, List.getElem_cons_zero, List.getElem_cons_succ])
                    refine wpAnyH_take (i := 13) (v := ?_) rfl (by kernel_rfl) (by kernel_rfl) (by kernel_rfl) (fun _ _ _ h => h) (Or.inl ⟨by rfl, ?_⟩) (by assumption) ?_
                    rotate_left
                    · intro w hSw; (try dsimp only at hSw); go_simp; (try with_reducible rfl)
                    rotate_left
                    simp only [Act.put, List.setIfInBounds_toArray, List.set_cons_zero, List.set_cons_succ, List.getElem_toArray, List.getElem_cons_zero, List.getElem_cons_succ]
                    refine wpAnyH_ready (rs := [14]) (by kernel_rfl) (by simp) ?_
                    refine AllReadyH.cons rfl (fun K hK => ?_) ?_
                    · go_simp
                      refine hK.out _ _ ?_ (fun hHeld => ?_)
                      · exact trivial
                      clear hK K
                      (try simp only [Act.put, List.setIfInBounds_toArray, List.set_cons_zero, List.set_cons_succ, List.getElem_toArray, List.getElem_cons_zero, List.getElem_cons_succ])
                      refine wpAnyH_done (by kernel_rfl) ?_ _
                      go_wp2_with fail
                      go_meet
                      have A' := blk_set (blk_set (blk_set A.out 6 (.slice a1 S.n1 e1)) 7 (.slice a2 S.n2 e2)) 8 (.slice a3 S.n3 e3)
                      simp only [List.setIfInBounds_toArray, List.set_cons_zero, List.set_cons_succ] at A'
                      have q1 := zz1.out
                      have q2 := zz2.out
                      have q3 := zz3.out
                      exact ⟨a1, a2, a3, e1, e2, e3, v1.heap.size, v2.heap.size, Hid.mk A', Hid.mk (((HB.out.setCell (p := ⟨w.heap.size, 6, none⟩) (Nat.le_refl _) _).setCell (p := ⟨w.heap.size, 7, none⟩) (Nat.le_refl _) _).setCell (p := ⟨w.heap.size, 8, none⟩) (Nat.le_refl _) _), Hid.mk ⟨q1, q2, by rw [size_set, size_set, size_set]; exact q3⟩, Hid.mk (((o1.out.set (p := ⟨w.heap.size, 6, none⟩) (by show w.heap.size < _; omega) _).set (p := ⟨w.heap.size, 7, none⟩) (by show w.heap.size < _; omega) _).set (p := ⟨w.heap.size, 8, none⟩) (by show w.heap.size < _; omega) _), Hid.mk (((o2.out.set (p := ⟨w.heap.size, 6, none⟩) (by show w.heap.size < _; omega) _).set (p := ⟨w.heap.size, 7, none⟩) (by show w.heap.size < _; omega) _).set (p := ⟨w.heap.size, 8, none⟩) (by show w.heap.size < _; omega) _), Hid.mk (by rw [size_set, size_set, size_set]; exact ((o3.out.set (p := ⟨w.heap.size, 6, none⟩) (by show w.heap.size < _; omega) _).set (p := ⟨w.heap.size, 7, none⟩) (by show w.heap.size < _; omega) _).set (p := ⟨w.heap.size, 8, none⟩) (by show w.heap.size < _; omega) _)⟩
                    exact AllReadyH.nil
                  exact AllReadyH.nil
                exact AllReadyH.nil
              exact AllReadyH.nil
            exact AllReadyH.nil
          exact AllReadyH.nil
        refine AllReadyH.cons rfl (fun K hK => ?_) ?_
        · go_simp
          refine hK.out _ _ ?_ (fun hHeld => ?_)
          · exact trivial
          clear hK K
          (try simp only [Act.put, List.setIfInBounds_toArray, List.set_cons_zero, List.set_cons_succ, List.getElem_toArray, List.getElem_cons_zero, List.getElem_cons_succ])
          refine wpAnyH_ready (rs := [2]) (by kernel_rfl) (by simp) ?_
          refine AllReadyH.cons rfl (fun K hK => ?_) ?_
          · go_simp
            refine (cloneI s1 S.n1 t1 (lst S.n1 S.L1) _ (lst_len _ _).symm (li_lst (HS.out.below HB.out).s1) j1).mono ?_
            rintro e v1 ⟨a1, e1, rfl, hb, hc⟩
            have hz := hb.size
            have zz1 : Hid (w.heap.size < v1.heap.size) := Hid.mk (Nat.lt_of_lt_of_le (blk_lt A.out) hz)
            have o1 : Hid (Ow (w.heap.size + 1) v1.heap.size v1 (lst S.n1 S.L1) a1) := Hid.mk (hc.imp id fun ⟨g, h1, h2, h3, h4⟩ => ⟨g, h1, Nat.le_trans (blk_lt A.out) h2, h3, h4⟩)
            have HB := Hid.mk (below_then HB.out hb)
            have A := Hid.mk (blk_below A.out hb)
            clear hb hc hz y6 y7 y8 z6 z7 z8
            rw [lst_len]
            have y6 := blk_cell A.out 6
            have y7 := blk_cell A.out 7
            have y8 := blk_cell A.out 8
            simp only [List.getElem?_toArray, List.getElem?_cons_zero, List.getElem?_cons_succ] at y6 y7 y8
            have z6 := blk_unfrozen A.out 6
            have z7 := blk_unfrozen A.out 7
            have z8 := blk_unfrozen A.out 8
            refine hK.out _ _ ?_ (fun hHeld => ?_)
            · exact trivial
            clear hK K
            (try simp only [Act.put, List.setIfInBounds_toArray, List.set_cons_zero, List.set_cons_succ, List.getElem_toArray, List.getElem_cons_zero, List.getElem_cons_succ])
            refine wpAnyH_take (i := 9) (v := ?_) rfl (by kernel_rfl) (by kernel_rfl) (by kernel_rfl) (fun _ _ _ h => h) (Or.inl ⟨by rfl, ?_⟩) (by assumption) ?_
            rotate_left
            · intro w hSw; (try dsimp only at hSw); go_simp; (try with_reducible rfl)
            rotate_left
            simp only [Act.put, List.setIfInBounds_toArray, List.set_cons_zero, List.set_cons_succ, List.getElem_toArray, List.getElem_cons_zero, List.getElem_cons_succ]
            refine wpAnyH_ready (rs := [5]) (by kernel_rfl) (by simp) ?_
            refine AllReadyH.cons rfl (fun K hK => ?_) ?_
            · go_simp
              refine (cloneI s2 S.n2 t2 (lst S.n2 S.L2) _ (lst_len _ _).symm (li_lst (HS.out.below HB.out).s2) j2).mono ?_
              rintro e v2 ⟨a2, e2, rfl, hb, hc⟩
              have hz := hb.size
              have zz2 : Hid (v1.heap.size ≤ v2.heap.size) := Hid.mk hz
              have o2 : Hid (Ow v1.heap.size v2.heap.size v2 (lst S.n2 S.L2) a2) := Hid.mk hc
              have o1 := Hid.mk (o1.out.below hb)
              have HB := Hid.mk (below_then HB.out hb)
              have A := Hid.mk (blk_below A.out hb)
              clear hb hc hz y6 y7 y8 z6 z7 z8
              rw [lst_len]
              have y6 := blk_cell A.out 6
              have y7 := blk_cell A.out 7
              have y8 := blk_cell A.out 8
              simp only [List.getElem?_toArray, List.getElem?_cons_zero, List.getElem?_cons_succ] at y6 y7 y8
              have z6 := blk_unfrozen A.out 6
              have z7 := blk_unfrozen A.out 7
              have z8 := blk_unfrozen A.out 8
              refine hK.out _ _ ?_ (fun hHeld => ?_)
              · exact trivial
              clear hK K
              (try simp only [Act.put, List.setIfInBounds_toArray, List.set_cons_zero, List.set_cons_succ, List.getElem_toArray, List.getElem_cons_zero, List.getElem_cons_succ])
              refine wpAnyH_ready (rs := [8]) (by kernel_rfl) (by simp) ?_
              refine AllReadyH.cons rfl (fun K hK => ?_) ?_
              · go_simp
                refine (cloneI s3 S.n3 t3 (lst S.n3 S.L3) _ (lst_len _ _).symm (li_lst (HS.out.below HB.out).s3) j3).mono ?_
                rintro e v3 ⟨a3, e3, rfl, hb, hc⟩
                have hz := hb.size
                have zz3 : Hid (v2.heap.size ≤ v3.heap.size) := Hid.mk hz
                have o3 : Hid (Ow v2.heap.size v3.heap.size v3 (lst S.n3 S.L3) a3) := Hid.mk hc
                have o1 := Hid.mk (o1.out.below hb)
                have o2 := Hid.mk (o2.out.below hb)
                have HB := Hid.mk (below_then HB.out hb)
                have A := Hid.mk (blk_below A.out hb)
                clear hb hc hz y6 y7 y8 z6 z7 z8
                rw [lst_len]
                have y6 := blk_cell A.out 6
                have y7 := blk_cell A.out 7
                have y8 := blk_cell A.out 8
                simp only [List.getElem?_toArray, List.getElem?_cons_zero, List.getElem?_cons_succ] at y6 y7 y8
                have z6 := blk_unfrozen A.out 6
                have z7 := blk_unfrozen A.out 7
                have z8 := blk_unfrozen A.out 8
                refine hK.out _ _ ?_ (fun hHeld => ?_)
                · exact trivial
                clear hK K
                (try simp only [Act.put, List.setIfInBounds_toArray, List.set_cons_zero, List.set_cons_succ, List.getElem_toArray, List.getElem_cons_zero, List.getElem_cons_succ])
                refine wpAnyH_ready (rs := [10]) (by kernel_rfl) (by simp) ?_
                refine AllReadyH.cons rfl (fun K hK => ?_) ?_
                · go_simp
                  refine hK.out _ _ ?_ (fun hHeld => ?_)
                  · exact trivial
                  clear hK K
                  (try simp only [Act.put, List.setIfInBounds_toArray, List.set_cons_zero, List.set_cons_succ, List.getElem_toArray, List.getElem_cons_zero, List.getElem_cons_succ])
                  refine wpAnyH_take (i := 11) (v := ?_) rfl (by kernel_rfl) (by kernel_rfl) (by kernel_rfl) (fun _ _ _ h => h) (Or.inl ⟨by rfl, ?_⟩) (by assumption) ?_
                  rotate_left
                  · intro w hSw; (try dsimp only at hSw); go_simp; (try with_reducible rfl)
                  rotate_left
                  simp only [Act.put, List.setIfInBounds_toArray, List.set_cons_zero, List.set_cons_succ, List.getElem_toArray, List.getElem_cons_zero, List.getElem_cons_succ]
                  refine wpAnyH_ready (rs := [12]) (by kernel_rfl) (by simp) ?_
                  refine AllReadyH.cons rfl (fun K hK => ?_) ?_
                  · go_simp
                    refine hK.out _ _ ?_ (fun hHeld => ?_)
                    · exact trivial
                    clear hK K
                    (try simp only [Act.put, List.setIfInBounds_toArray, List.set_cons_zero, List.set_cons_succ, List.getElem_toArray, List.getElem_cons_zero, List.getElem_cons_succ])
                    refine wpAnyH_take (i := 13) (v := ?_) rfl (by kernel_rfl) (by kernel_rfl) (by kernel_rfl) (fun _ _ _ h => h) (Or.inl ⟨by rfl, ?_⟩) (by assumption) ?_
                    rotate_left
                    · intro w hSw; (try dsimp only at hSw); go_simp; (try with_reducible rfl)
                    rotate_left
                    simp only [Act.put, List.setIfInBounds_toArray, List.set_cons_zero, List.set_cons_succ, List.getElem_toArray, List.getElem_cons_zero, List.getElem_cons_succ]
                    refine wpAnyH_ready (rs := [14]) (by kernel_rfl) (by simp) ?_
                    refine AllReadyH.cons rfl (fun K hK => ?_) ?_
                    · go_simp
                      refine hK.out _ _ ?_ (fun hHeld => ?_)
                      · exact trivial
                      clear hK K
                      (try simp only [Act.put, List.setIfInBounds_toArray, List.set_cons_zero, List.set_cons_succ, List.getElem_toArray, List.getElem_cons_zero, List.getElem_cons_succ])
                      refine wpAnyH_done (by kernel_rfl) ?_ _
                      go_wp2_with fail
                      go_meet
                      have A' := blk_set (blk_set (blk_set A.out 6 (.slice a1 S.n1 e1)) 7 (.slice a2 S.n2 e2)) 8 (.slice a3 S.n3 e3)
                      simp only [List.setIfInBounds_toArray, List.set_cons_zero, List.set_cons_succ] at A'
                      have q1 := zz1.out
                      have q2 := zz2.out
                      have q3 := zz3.out
                      exact ⟨a1, a2, a3, e1, e2, e3, v1.heap.size, v2.heap.size, Hid.mk A', Hid.mk (((HB.out.setCell (p := ⟨w.heap.size, 6, none⟩) (Nat.le_refl _) _).setCell (p := ⟨w.heap.size, 7, none⟩) (Nat.le_refl _) _).setCell (p := ⟨w.heap.size, 8, none⟩) (Nat.le_refl _) _), Hid.mk ⟨q1, q2, by rw [size_set, size_set, size_set]; exact q3⟩, Hid.mk (((o1.out.set (p := ⟨w.heap.size, 6, none⟩) (by show w.heap.size < _; omega) _).set (p := ⟨w.heap.size, 7, none⟩) (by show w.heap.size < _; omega) _).set (p := ⟨w.heap.size, 8, none⟩) (by show w.heap.size < _; omega) _), Hid.mk (((o2.out.set (p := ⟨w.heap.size, 6, none⟩) (by show w.heap.size < _; omega) _).set (p := ⟨w.heap.size, 7, none⟩) (by show w.heap.size < _; omega) _).set (p := ⟨w.heap.size, 8, none⟩) (by show w.heap.size < _; omega) _), Hid.mk (by rw [size_set, size_set, size_set]; exact ((o3.out.set (p := ⟨w.heap.size, 6, none⟩) (by show w.heap.size < _; omega) _).set (p := ⟨w.heap.size, 7, none⟩) (by show w.heap.size < _; omega) _).set (p := ⟨w.heap.size, 8, none⟩) (by show w.heap.size < _; omega) _)⟩
                    exact AllReadyH.nil
                  exact AllReadyH.nil
                exact AllReadyH.nil
              exact AllReadyH.nil
            exact AllReadyH.nil
          exact AllReadyH.nil
        exact AllReadyH.nil
      refine AllReadyH.cons rfl (fun K hK => ?_) ?_
      · go_simp
        refine hK.out _ _ ?_ (fun hHeld => ?_)
        · exact trivial
        clear hK K
        (try simp only [Act.put, List.setIfInBounds_toArray, List.set_cons_zero, List.set_cons_succ, List.getElem_toArray, List.getElem_cons_zero, List.getElem_cons_succ])
        refine wpAnyH_ready (rs := [2, 4]) (by kernel_rfl) (by simp) ?_
        refine AllReadyH.cons rfl (fun K hK => ?_) ?_
        · go_simp
          refine (cloneI s1 S.n1 t1 (lst S.n1 S.L1) _ (lst_len _ _).symm (li_lst (HS.out.below HB.out).s1) j1).mono ?_
          rintro e v1 ⟨a1, e1, rfl, hb, hc⟩
          have hz := hb.size
          have zz1 : Hid (w.heap.size < v1.heap.size) := Hid.mk (Nat.lt_of_lt_of_le (blk_lt A.out) hz)
          have o1 : Hid (Ow (w.heap.size + 1) v1.heap.size v1 (lst S.n1 S.L1) a1) := Hid.mk (hc.imp id fun ⟨g, h1, h2, h3, h4⟩ => ⟨g, h1, Nat.le_trans (blk_lt A.out) h2, h3, h4⟩)
          have HB := Hid.mk (below_then HB.out hb)
          have A := Hid.mk (blk_below A.out hb)
          clear hb hc hz y6 y7 y8 z6 z7 z8
          rw [lst_len]
          have y6 := blk_cell A.out 6
          have y7 := blk_cell A.out 7
          have y8 := blk_cell A.out 8
          simp only [List.getElem?_toArray, List.getElem?_cons_zero, List.getElem?_cons_succ] at y6 y7 y8
          have z6 := blk_unfrozen A.out 6
          have z7 := blk_unfrozen A.out 7
          have z8 := blk_unfrozen A.out 8
          refine hK.out _ _ ?_ (fun hHeld => ?_)
          · exact trivial
          clear hK K
          (try simp only [Act.put, List.setIfInBounds_toArray, List.set_cons_zero, List.set_cons_succ, List.getElem_toArray, List.getElem_cons_zero, List.getElem_cons_succ])
          refine wpAnyH_ready (rs := [4]) (by kernel_rfl) (by simp) ?_
          refine AllReadyH.cons rfl (fun K hK => ?_) ?_
          · go_simp
            refine hK.out _ _ ?_ (fun hHeld => ?_)
            · exact trivial
            clear hK K
            (try simp only [Act.put, List.setIfInBounds_toArray, List.set_cons_zero, List.set_cons_succ, List.getElem_toArray, List.getElem_cons_zero, List.getElem_cons_succ])
            refine wpAnyH_take (i := 9) (v := ?_) rfl (by kernel_rfl) (by kernel_rfl) (by kernel_rfl) (fun _ _ _ h => h) (Or.inl ⟨by rfl, ?_⟩) (by assumption) ?_
            rotate_left
            · intro w hSw; (try dsimp only at hSw); go_simp; (try with_reducible rfl)
            rotate_left
            simp only [Act.put, List.setIfInBounds_toArray, List.set_cons_zero, List.set_cons_succ, List.getElem_toArray, List.getElem_cons_zero, List.getElem_cons_succ]
            refine wpAnyH_ready (rs := [5]) (by kernel_rfl) (by simp) ?_
            refine AllReadyH.cons rfl (fun K hK => ?_) ?_
            · go_simp
              refine (cloneI s2 S.n2 t2 (lst S.n2 S.L2) _ (lst_len _ _).symm (li_lst (HS.out.below HB.out).s2) j2).mono ?_
              rintro e v2 ⟨a2, e2, rfl, hb, hc⟩
              have hz := hb.size
              have zz2 : Hid (v1.heap.size ≤ v2.heap.size) := Hid.mk hz
              have o2 : Hid (Ow v1.heap.size v2.heap.size v2 (lst S.n2 S.L2) a2) := Hid.mk hc
              have o1 := Hid.mk (o1.out.below hb)
              have HB := Hid.mk (below_then HB.out hb)
              have A := Hid.mk (blk_below A.out hb)
              clear hb hc hz y6 y7 y8 z6 z7 z8
              rw [lst_len]
              have y6 := blk_cell A.out 6
              have y7 := blk_cell A.out 7
              have y8 := blk_cell A.out 8
              simp only [List.getElem?_toArray, List.getElem?_cons_zero, List.getElem?_cons_succ] at y6 y7 y8
              have z6 := blk_unfrozen A.out 6
              have z7 := blk_unfrozen A.out 7
              have z8 := blk_unfrozen A.out 8
              refine hK.out _ _ ?_ (fun hHeld => ?_)
              · exact trivial
              clear hK K
              (try simp only [Act.put, List.setIfInBounds_toArray, List.set_cons_zero, List.set_cons_succ, List.getElem_toArray, List.getElem_cons_zero, List.getElem_cons_succ])
              refine wpAnyH_ready (rs := [8]) (by kernel_rfl) (by simp) ?_
              refine AllReadyH.cons rfl (fun K hK => ?_) ?_
              · go_simp
                refine (cloneI s3 S.n3 t3 (lst S.n3 S.L3) _ (lst_len _ _).symm (li_lst (HS.out.below HB.out).s3) j3).mono ?_
                rintro e v3 ⟨a3, e3, rfl, hb, hc⟩
                have hz := hb.size
                have zz3 : Hid (v2.heap.size ≤ v3.heap.size) := Hid.mk hz
                have o3 : Hid (Ow v2.heap.size v3.heap.size v3 (lst S.n3 S.L3) a3) := Hid.mk hc
                have o1 := Hid.mk (o1.out.below hb)
                have o2 := Hid.mk (o2.out.below hb)
                have HB := Hid.mk (below_then HB.out hb)
                have A := Hid.mk (blk_below A.out hb)
                clear hb hc hz y6 y7 y8 z6 z7 z8
                rw [lst_len]
                have y6 := blk_cell A.out 6
                have y7 := blk_cell A.out 7
                have y8 := blk_cell A.out 8
                simp only [List.getElem?_toArray, List.getElem?_cons_zero, List.getElem?_cons_succ] at y6 y7 y8
                have z6 := blk_unfrozen A.out 6
                have z7 := blk_unfrozen A.out 7
                have z8 := blk_unfrozen A.out 8
                refine hK.out _ _ ?_ (fun hHeld => ?_)
                · exact trivial
                clear hK K
                (try simp only [Act.put, List.setIfInBounds_toArray, List.set_cons_zero, List.set_cons_succ, List.getElem_toArray, List.getElem_cons_zero, List.getElem_cons_succ])
                refine wpAnyH_ready (rs := [10]) (by kernel_rfl) (by simp) ?_
                refine AllReadyH.cons rfl (fun K hK => ?_) ?_
                · go_simp
                  refine hK.out _ _ ?_ (fun hHeld => ?_)
                  · exact trivial
                  clear hK K
                  (try simp only [Act.put, List.setIfInBounds_toArray, List.set_cons_zero, List.set_cons_succ, List.getElem_toArray, List.getElem_cons_zero, List.getElem_cons_succ])
                  refine wpAnyH_take (i := 11) (v := ?_) rfl (by kernel_rfl) (by kernel_rfl) (by kernel_rfl) (fun _ _ _ h => h) (Or.inl ⟨by rfl, ?_⟩) (by assumption) ?_
                  rotate_left
                  · intro w hSw; (try dsimp only at hSw); go_simp; (try with_reducible rfl)
                  rotate_left
                  simp only [Act.put, List.setIfInBounds_toArray, List.set_cons_zero, List.set_cons_succ, List.getElem_toArray, List.getElem_cons_zero, List.getElem_cons_succ]
                  refine wpAnyH_ready (rs := [12]) (by kernel_rfl) (by simp) ?_
                  refine AllReadyH.cons rfl (fun K hK => ?_) ?_
                  · go_simp
                    refine hK.out _ _ ?_ (fun hHeld => ?_)
                    · exact trivial
                    clear hK K
                    (try simp only [Act.put, List.setIfInBounds_toArray, List.set_cons_zero, List.set_cons_succ, List.getElem_toArray, List.getElem_cons_zero, List.getElem_cons_succ])
                    refine wpAnyH_take (i := 13) (v := ?_) rfl (by kernel_rfl) (by kernel_rfl) (by kernel_rfl) (fun _ _ _ h => h) (Or.inl ⟨by rfl, ?_⟩) (by assumption) ?_
                    rotate_left
                    · intro w hSw; (try dsimp only at hSw); go_simp; (try with_reducible rfl)
                    rotate_left
                    simp only [Act.put, List.setIfInBounds_toArray, List.set_cons_zero, List.set_cons_succ, List.getElem_toArray, List.getElem_cons_zero, List.getElem_cons_succ]
                    refine wpAnyH_ready (rs := [14]) (by kernel_rfl) (by simp) ?_
                    refine AllReadyH.cons rfl (fun K hK => ?_) ?_
                    · go_simp
                      refine hK.out _ _ ?_ (fun hHeld => ?_)
                      · exact trivial
                      clear hK K
                      (try simp only [Act.put, List.setIfInBounds_toArray, List.set_cons_zero, List.set_cons_succ, List.getElem_toArray, List.getElem_cons_zero, List.getElem_cons_succ])
                      refine wpAnyH_done (by kernel_rfl) ?_ _
                      go_wp2_with fail
                      go_meet
                      have A' := blk_set (blk_set (blk_set A.out 6 (.slice a1 S.n1 e1)) 7 (.slice a2 S.n2 e2)) 8 (.slice a3 S.n3 e3)
                      simp only [List.setIfInBounds_toArray, List.set_cons_zero, List.set_cons_succ] at A'
                      have q1 := zz1.out
                      have q2 := zz2.out
                      have q3 := zz3.out
                      exact ⟨a1, a2, a3, e1, e2, e3, v1.heap.size, v2.heap.size, Hid.mk A', Hid.mk (((HB.out.setCell (p := ⟨w.heap.size, 6, none⟩) (Nat.le_refl _) _).setCell (p := ⟨w.heap.size, 7, none⟩) (Nat.le_refl _) _).setCell (p := ⟨w.heap.size, 8, none⟩) (Nat.le_refl _) _), Hid.mk ⟨q1, q2, by rw [size_set, size_set, size_set]; exact q3⟩, Hid.mk (((o1.out.set (p := ⟨w.heap.size, 6, none⟩) (by show w.heap.size < _; omega) _).set (p := ⟨w.heap.size, 7, none⟩) (by show w.heap.size < _; omega) _).set (p := ⟨w.heap.size, 8, none⟩) (by show w.heap.size < _; omega) _), Hid.mk (((o2.out.set (p := ⟨w.heap.size, 6, none⟩) (by show w.heap.size < _; omega) _).set (p := ⟨w.heap.size, 7, none⟩) (by show w.heap.size < _; omega) _).set (p := ⟨w.heap.size, 8, none⟩) (by show w.heap.size < _; omega) _), Hid.mk (by rw [size_set, size_set, size_set]; exact ((o3.out.set (p := ⟨w.heap.size, 6, none⟩) (by show w.heap.size < _; omega) _).set (p := ⟨w.heap.size, 7, none⟩) (by show w.heap.size < _; omega) _).set (p := ⟨w.heap.size, 8, none⟩) (by show w.heap.size < _; omega) _)⟩
                    exact AllReadyH.nil
                  exact AllReadyH.nil
                exact AllReadyH.nil
              exact AllReadyH.nil
            exact AllReadyH.nil
          exact AllReadyH.nil
        refine AllReadyH.cons rfl (fun K hK => ?_) ?_
        · go_simp
          refine hK.out _ _ ?_ (fun hHeld => ?_)
          · exact trivial
          clear hK K
          (try simp only [Act.put, List.setIfInBounds_toArray, List.set_cons_zero, List.set_cons_succ, List.getElem_toArray, List.getElem_cons_zero, List.getElem_cons_succ])
          refine wpAnyH_ready (rs := [2]) (by kernel_rfl) (by simp) ?_
          refine AllReadyH.cons rfl (fun K hK => ?_) ?_
          · go_simp
            refine (cloneI s1 S.n1 t1 (lst S.n1 S.L1) _ (lst_len _ _).symm (li_lst (HS.out.below HB.out).s1) j1).mono ?_
            rintro e v1 ⟨a1, e1, rfl, hb, hc⟩
            have hz := hb.size
            have zz1 : Hid (w.heap.size < v1.heap.size) := Hid.mk (Nat.lt_of_lt_of_le (blk_lt A.out) hz)
            have o1 : Hid (Ow (w.heap.size + 1) v1.heap.size v1 (lst S.n1 S.L1) a1) := Hid.mk (hc.imp id fun ⟨g, h1, h2, h3, h4⟩ => ⟨g, h1, Nat.le_trans (blk_lt A.out) h2, h3, h4⟩)
            have HB := Hid.mk (below_then HB.out hb)
            have A := Hid.mk (blk_below A.out hb)
            clear hb hc hz y6 y7 y8 z6 z7 z8
            rw [lst_len]
            have y6 := blk_cell A.out 6
            have y7 := blk_cell A.out 7
            have y8 := blk_cell A.out 8
            simp only [List.getElem?_toArray, List.getElem?_cons_zero, List.getElem?_cons_succ] at y6 y7 y8
            have z6 := blk_unfrozen A.out 6
            have z7 := blk_unfrozen A.out 7
            have z8 := blk_unfrozen A.out 8
            refine hK.out _ _ ?_ (fun hHeld => ?_)
            · exact trivial
            clear hK K
            (try simp only [Act.put, List.setIfInBounds_toArray, List.set_cons_zero, List.set_cons_succ, List.getElem_toArray, List.getElem_cons_zero, List.getElem_cons_succ])
            refine wpAnyH_take (i := 9) (v := ?_) rfl (by kernel_rfl) (by kernel_rfl) (by kernel_rfl) (fun _ _ _ h => h) (Or.inl ⟨by rfl, ?_⟩) (by assumption) ?_
            rotate_left
            · intro w hSw; (try dsimp only at hSw); go_simp; (try with_reducible rfl)
            rotate_left
            simp only [Act.put, List.setIfInBounds_toArray, List.set_cons_zero, List.set_cons_succ, List.getElem_toArray, List.getElem_cons_zero, List.getElem_cons_succ]
            refine wpAnyH_ready (rs := [5]) (by kernel_rfl) (by simp) ?_
            refine AllReadyH.cons rfl (fun K hK => ?_) ?_
            · go_simp
              refine (cloneI s2 S.n2 t2 (lst S.n2 S.L2) _ (lst_len _ _).symm (li_lst (HS.out.below HB.out).s2) j2).mono ?_
              rintro e v2 ⟨a2, e2, rfl, hb, hc⟩
              have hz := hb.size
              have zz2 : Hid (v1.heap.size ≤ v2.heap.size) := Hid.mk hz
              have o2 : Hid (Ow v1.heap.size v2.heap.size v2 (lst S.n2 S.L2) a2) := Hid.mk hc
              have o1 := Hid.mk (o1.out.below hb)
              have HB := Hid.mk (below_then HB.out hb)
              have A := Hid.mk (blk_below A.out hb)
              clear hb hc hz y6 y7 y8 z6 z7 z8
              rw [lst_len]
              have y6 := blk_cell A.out 6
              have y7 := blk_cell A.out 7
              have y8 := blk_cell A.out 8
              simp only [List.getElem?_toArray, List.getElem?_cons_zero, List.getElem?_cons_succ] at y6 y7 y8
              have z6 := blk_unfrozen A.out 6
              have z7 := blk_unfrozen A.out 7
              have z8 := blk_unfrozen A.out 8
              refine hK.out _ _ ?_ (fun hHeld => ?_)
              · exact trivial
              clear hK K
              (try simp only [Act.put, List.setIfInBounds_toArray, List.set_cons_zero, List.set_cons_succ, List.getElem_toArray, List.getElem_cons_zero, List.getElem_cons_succ])
              refine wpAnyH_ready (rs := [8]) (by kernel_rfl) (by simp) ?_
              refine AllReadyH.cons rfl (fun K hK => ?_) ?_
              · go_simp
                refine (cloneI s3 S.n3 t3 (lst S.n3 S.L3) _ (lst_len _ _).symm (li_lst (HS.out.below HB.out).s3) j3).mono ?_
                rintro e v3 ⟨a3, e3, rfl, hb, hc⟩
                have hz := hb.size
                have zz3 : Hid (v2.heap.size ≤ v3.heap.size) := Hid.mk hz
                have o3 : Hid (Ow v2.heap.size v3.heap.size v3 (lst S.n3 S.L3) a3) := Hid.mk hc
                have o1 := Hid.mk (o1.out.below hb)
                have o2 := Hid.mk (o2.out.below hb)
                have HB := Hid.mk (below_then HB.out hb)
                have A := Hid.mk (blk_below A.out hb)
                clear hb hc hz y6 y7 y8 z6 z7 z8
                rw [lst_len]
                have y6 := blk_cell A.out 6
                have y7 := blk_cell A.out 7
                have y8 := blk_cell A.out 8
                simp only [List.getElem?_toArray, List.getElem?_cons_zero, List.getElem?_cons_succ] at y6 y7 y8
                have z6 := blk_unfrozen A.out 6
                have z7 := blk_unfrozen A.out 7
                have z8 := blk_unfrozen A.out 8
                refine hK.out _ _ ?_ (fun hHeld => ?_)
                · exact trivial
                clear hK K
                (try simp only [Act.put, List.setIfInBounds_toArray, List.set_cons_zero, List.set_cons_succ, List.getElem_toArray, List.getElem_cons_zero, List.getElem_cons_succ])
                refine wpAnyH_ready (rs := [10]) (by kernel_rfl) (by simp) ?_
                refine AllReadyH.cons rfl (fun K hK => ?_) ?_
                · go_simp
                  refine hK.out _ _ ?_ (fun hHeld => ?_)
                  · exact trivial
                  clear hK K
                  (try simp only [Act.put, List.setIfInBounds_toArray, List.set_cons_zero, List.set_cons_succ, List.getElem_toArray, List.getElem_cons_zero, List.getElem_cons_succ])
                  refine wpAnyH_take (i := 11) (v := ?_) rfl (by kernel_rfl) (by kernel_rfl) (by kernel_rfl) (fun _ _ _ h => h) (Or.inl ⟨by rfl, ?_⟩) (by assumption) ?_
                  rotate_left
                  · intro w hSw; (try dsimp only at hSw); go_simp; (try with_reducible rfl)
                  rotate_left
                  simp only [Act.put, List.setIfInBounds_toArray, List.set_cons_zero, List.set_cons_succ, List.getElem_toArray, List.getElem_cons_zero, List.getElem_cons_succ]
                  refine wpAnyH_ready (rs := [12]) (by kernel_rfl) (by simp) ?_
                  refine AllReadyH.cons rfl (fun K hK => ?_) ?_
                  · go_simp
                    refine hK.out _ _ ?_ (fun hHeld => ?_)
                    · exact trivial
                    clear hK K
                    (try simp only [Act.put, List.setIfInBounds_toArray, List.set_cons_zero, List.set_cons_succ, List.getElem_toArray, List.getElem_cons_zero, List.getElem_cons_succ])
                    refine wpAnyH_take (i := 13) (v := ?_) rfl (by kernel_rfl) (by kernel_rfl) (by kernel_rfl) (fun _ _ _ h => h) (Or.inl ⟨by rfl, ?_⟩) (by assumption) ?_
                    rotate_left
                    · intro w hSw; (try dsimp only at hSw); go_simp; (try with_reducible rfl)
                    rotate_left
                    simp only [Act.put, List.setIfInBounds_toArray, List.set_cons_zero, List.set_cons_succ, List.getElem_toArray, List.getElem_cons_zero, List.getElem_cons_succ]
                    refine wpAnyH_ready (rs := [14]) (by kernel_rfl) (by simp) ?_
                    refine AllReadyH.cons rfl (fun K hK => ?_) ?_
                    · go_simp
                      refine hK.out _ _ ?_ (fun hHeld => ?_)
                      · exact trivial
                      clear hK K
                      (try simp only [Act.put, List.setIfInBounds_toArray, List.set_cons_zero, List.set_cons_succ, List.getElem_toArray, List.getElem_cons_zero, List.getElem_cons_succ])
                      refine wpAnyH_done (by kernel_rfl) ?_ _
                      go_wp2_with fail
                      go_meet
                      have A' := blk_set (blk_set (blk_set A.out 6 (.slice a1 S.n1 e1)) 7 (.slice a2 S.n2 e2)) 8 (.slice a3 S.n3 e3)
                      simp only [List.setIfInBounds_toArray, List.set_cons_zero, List.set_cons_succ] at A'
                      have q1 := zz1.out
                      have q2 := zz2.out
                      have q3 := zz3.out
                      exact ⟨a1, a2, a3, e1, e2, e3, v1.heap.size, v2.heap.size, Hid.mk A', Hid.mk (((HB.out.setCell (p := ⟨w.heap.size, 6, none⟩) (Nat.le_refl _) _).setCell (p := ⟨w.heap.size, 7, none⟩) (Nat.le_refl _) _).setCell (p := ⟨w.heap.size, 8, none⟩) (Nat.le_refl _) _), Hid.mk ⟨q1, q2, by rw [size_set, size_set, size_set]; exact q3⟩, Hid.mk (((o1.out.set (p := ⟨w.heap.size, 6, none⟩) (by show w.heap.size < _; omega) _).set (p := ⟨w.heap.size, 7, none⟩) (by show w.heap.size < _; omega) _).set (p := ⟨w.heap.size, 8, none⟩) (by show w.heap.size < _; omega) _), Hid.mk (((o2.out.set (p := ⟨w.heap.size, 6, none⟩) (by show w.heap.size < _; omega) _).set (p := ⟨w.heap.size, 7, none⟩) (by show w.heap.size < _; omega) _).set (p := ⟨w.heap.size, 8, none⟩) (by show w.heap.size < _; omega) _), Hid.mk (by rw [size_set, size_set, size_set]; exact ((o3.out.set (p := ⟨w.heap.size, 6, none⟩) (by show w.heap.size < _; omega) _).set (p := ⟨w.heap.size, 7, none⟩) (by show w.heap.size < _; omega) _).set (p := ⟨w.heap.size, 8, none⟩) (by show w.heap.size < _; omega) _)⟩
                    exact AllReadyH.nil
                  exact AllReadyH.nil
                exact AllReadyH.nil
              exact AllReadyH.nil
            exact AllReadyH.nil
          exact AllReadyH.nil
        exact AllReadyH.nil
      exact AllReadyH.nil
    refine AllReadyH.cons rfl (fun K hK => ?_) ?_
    · go_simp
      refine hK.out _ _ ?_ (fun hHeld => ?_)
      · exact trivial
      clear hK K
      (try simp only [Act.put, List.setIfInBounds_toArray, List.set_cons_zero, List.set_cons_succ, List.getElem_toArray, List.getElem_cons_zero, List.getElem_cons_succ])
      refine wpAnyH_ready (rs := [1, 7]) (by kernel_rfl) (by simp) ?_
      refine AllReadyH.cons rfl (fun K hK => ?_) ?_
      · go_simp
        refine hK.out _ _ ?_ (fun hHeld => ?_)
        · exact trivial
        clear hK K
        (try simp only [Act.put, List.setIfInBounds_toArray, List.set_cons_zero, List.set_cons_succ, List.getElem_toArray, List.getElem_cons_zero, List.getElem_cons_succ])
        refine wpAnyH_ready (rs := [2, 7]) (by kernel_rfl) (by simp) ?_
        refine AllReadyH.cons rfl (fun K hK => ?_) ?_
        · go_simp
          refine (cloneI s1 S.n1 t1 (lst S.n1 S.L1) _ (lst_len _ _).symm (li_lst (HS.out.below HB.out).s1) j1).mono ?_
          rintro e v1 ⟨a1, e1, rfl, hb, hc⟩
          have hz := hb.size
          have zz1 : Hid (w.heap.size < v1.heap.size) := Hid.mk (Nat.lt_of_lt_of_le (blk_lt A.out) hz)
          have o1 : Hid (Ow (w.heap.size + 1) v1.heap.size v1 (lst S.n1 S.L1) a1) := Hid.mk (hc.imp id fun ⟨g, h1, h2, h3, h4⟩ => ⟨g, h1, Nat.le_trans (blk_lt A.out) h2, h3, h4⟩)
          have HB := Hid.mk (below_then HB.out hb)
          have A := Hid.mk (blk_below A.out hb)
          clear hb hc hz y6 y7 y8 z6 z7 z8
          rw [lst_len]
          have y6 := blk_cell A.out 6
          have y7 := blk_cell A.out 7
          have y8 := blk_cell A.out 8
          simp only [List.getElem?_toArray, List.getElem?_cons_zero, List.getElem?_cons_succ] at y6 y7 y8
          have z6 := blk_unfrozen A.out 6
          have z7 := blk_unfrozen A.out 7
          have z8 := blk_unfrozen A.out 8
          refine hK.out _ _ ?_ (fun hHeld => ?_)
          · exact trivial
          clear hK K
          (try simp only [Act.put, List.setIfInBounds_toArray, List.set_cons_zero, List.set_cons_succ, List.getElem_toArray, List.getElem_cons_zero, List.getElem_cons_succ])
          refine wpAnyH_ready (rs := [5, 7]) (by kernel_rfl) (by simp) ?_
          refine AllReadyH.cons rfl (fun K hK => ?_) ?_
          · go_simp
            refine (cloneI s2 S.n2 t2 (lst S.n2 S.L2) _ (lst_len _ _).symm (li_lst (HS.out.below HB.out).s2) j2).mono ?_
            rintro e v2 ⟨a2, e2, rfl, hb, hc⟩
            have hz := hb.size
            have zz2 : Hid (v1.heap.size ≤ v2.heap.size) := Hid.mk hz
            have o2 : Hid (Ow v1.heap.size v2.heap.size v2 (lst S.n2 S.L2) a2) := Hid.mk hc
            have o1 := Hid.mk (o1.out.below hb)
            have HB := Hid.mk (below_then HB.out hb)
            have A := Hid.mk (blk_below A.out hb)
            clear hb hc hz y6 y7 y8 z6 z7 z8
            rw [lst_len]
            have y6 := blk_cell A.out 6
            have y7 := blk_cell A.out 7
            have y8 := blk_cell A.out 8
            simp only [List.getElem?_toArray, List.getElem?_cons_zero, List.getElem?_cons_succ] at y6 y7 y8
            have z6 := blk_unfrozen A.out 6
            have z7 := blk_unfrozen A.out 7
            have z8 := blk_unfrozen A.out 8
            refine hK.out _ _ ?_ (fun hHeld => ?_)
            · exact trivial
            clear hK K
            (try simp only [Act.put, List.setIfInBounds_toArray, List.set_cons_zero, List.set_cons_succ, List.getElem_toArray, List.getElem_cons_zero, List.getElem_cons_succ])
            refine wpAnyH_ready (rs := [7]) (by kernel_rfl) (by simp) ?_
            refine AllReadyH.cons rfl (fun K hK => ?_) ?_
            · go_simp
              refine hK.out _ _ ?_ (fun hHeld => ?_)
              · exact trivial
              clear hK K
              (try simp only [Act.put, List.setIfInBounds_toArray, List.set_cons_zero, List.set_cons_succ, List.getElem_toArray, List.getElem_cons_zero, List.getElem_cons_succ])
              refine wpAnyH_take (i := 9) (v := ?_) rfl (by kernel_rfl) (by kernel_rfl) (by kernel_rfl) (fun _ _ _ h => h) (Or.inl ⟨by rfl, ?_⟩) (by assumption) ?_
              rotate_left
              · intro w hSw; (try dsimp only at hSw); go_simp; (try with_reducible rfl)
              rotate_left
              simp only [Act.put, List.setIfInBounds_toArray, List.set_cons_zero, List.set_cons_succ, List.getElem_toArray, List.getElem_cons_zero, List.getElem_cons_succ]
              refine wpAnyH_ready (rs := [8]) (by kernel_rfl) (by simp) ?_
              refine AllReadyH.cons rfl (fun K hK => ?_) ?_
              · go_simp
                refine (cloneI s3 S.n3 t3 (lst S.n3 S.L3) _ (lst_len _ _).symm (li_lst (HS.out.below HB.out).s3) j3).mono ?_
                rintro e v3 ⟨a3, e3, rfl, hb, hc⟩
                have hz := hb.size
                have zz3 : Hid (v2.heap.size ≤ v3.heap.size) := Hid.mk hz
                have o3 : Hid (Ow v2.heap.size v3.heap.size v3 (lst S.n3 S.L3) a3) := Hid.mk hc
                have o1 := Hid.mk (o1.out.below hb)
                have o2 := Hid.mk (o2.out.below hb)
                have HB := Hid.mk (below_then HB.out hb)
                have A := Hid.mk (blk_below A.out hb)
                clear hb hc hz y6 y7 y8 z6 z7 z8
                rw [lst_len]
                have y6 := blk_cell A.out 6
                have y7 := blk_cell A.out 7
                have y8 := blk_cell A.out 8
                simp only [List.getElem?_toArray, List.getElem?_cons_zero, List.getElem?_cons_succ] at y6 y7 y8
                have z6 := blk_unfrozen A.out 6
                have z7 := blk_unfrozen A.out 7
                have z8 := blk_unfrozen A.out 8
                refine hK.out _ _ ?_ (fun hHeld => ?_)
                · exact trivial
                clear hK K
                (try simp only [Act.put, List.setIfInBounds_toArray, List.set_cons_zero, List.set_cons_succ, List.getElem_toArray, List.getElem_cons_zero, List.getElem_cons_succ])
                refine wpAnyH_ready (rs := [10]) (by kernel_rfl) (by simp) ?_
                refine AllReadyH.cons rfl (fun K hK => ?_) ?_
                · go_simp
                  refine hK.out _ _ ?_ (fun hHeld => ?_)
                  · exact trivial
                  clear hK K
                  (try simp only [Act.put, List.setIfInBounds_toArray, List.set_cons_zero, List.set_cons_succ, List.getElem_toArray, List.getElem_cons_zero, List.getElem_cons_succ])
                  refine wpAnyH_take (i := 11) (v := ?_) rfl (by kernel_rfl) (by kernel_rfl) (by kernel_rfl) (fun _ _ _ h => h) (Or.inl ⟨by rfl, ?_⟩) (by assumption) ?_
                  rotate_left
                  · intro w hSw; (try dsimp only at hSw); go_simp; (try with_reducible rfl)
                  rotate_left
                  simp only [Act.put, List.setIfInBounds_toArray, List.set_cons_zero, List.set_cons_succ, List.getElem_toArray, List.getElem_cons_zero, List.getElem_cons_succ]
                  refine wpAnyH_ready (rs := [12]) (by kernel_rfl) (by simp) ?_
                  refine AllReadyH.cons rfl (fun K hK => ?_) ?_
                  · go_simp
                    refine hK.out _ _ ?_ (fun hHeld => ?_)
                    · exact trivial
                    clear hK K
                    (try simp only [Act.put, List.setIfInBounds_toArray, List.set_cons_zero, List.set_cons_succ, List.getElem_toArray, List.getElem_cons_zero, List.getElem_cons_succ])
                    refine wpAnyH_take (i := 13) (v := ?_) rfl (by kernel_rfl) (by kernel_rfl) (by kernel_rfl) (fun _ _ _ h => h) (Or.inl ⟨by rfl, ?_⟩) (by assumption) ?_
                    rotate_left
                    · intro w hSw; (try dsimp only at hSw); go_simp; (try with_reducible rfl)
                    rotate_left
                    simp only [Act.put, List.setIfInBounds_toArray, List.set_cons_zero, List.set_cons_succ, List.getElem_toArray, List.getElem_cons_zero, List.getElem_cons_succ]
                    refine wpAnyH_ready (rs := [14]) (by kernel_rfl) (by simp) ?_
                    refine AllReadyH.cons rfl (fun K hK => ?_) ?_
                    · go_simp
                      refine hK.out _ _ ?_ (fun hHeld => ?_)
                      · exact trivial
                      clear hK K
                      (try simp only [Act.put, List.setIfInBounds_toArray, List.set_cons_zero, List.set_cons_succ, List.getElem_toArray, List.getElem_cons_zero, List.getElem_cons_succ])
                      refine wpAnyH_done (by kernel_rfl) ?_ _
                      go_wp2_with fail
                      go_meet
                      have A' := blk_set (blk_set (blk_set A.out 6 (.slice a1 S.n1 e1)) 7 (.slice a2 S.n2 e2)) 8 (.slice a3 S.n3 e3)
                      simp only [List.setIfInBounds_toArray, List.set_cons_zero, List.set_cons_succ] at A'
                      have q1 := zz1.out
                      have q2 := zz2.out
                      have q3 := zz3.out
                      exact ⟨a1, a2, a3, e1, e2, e3, v1.heap.size, v2.heap.size, Hid.mk A', Hid.mk (((HB.out.setCell (p := ⟨w.heap.size, 6, none⟩) (Nat.le_refl _) _).setCell (p := ⟨w.heap.size, 7, none⟩) (Nat.le_refl _) _).setCell (p := ⟨w.heap.size, 8, none⟩) (Nat.le_refl _) _), Hid.mk ⟨q1, q2, by rw [size_set, size_set, size_set]; exact q3⟩, Hid.mk (((o1.out.set (p := ⟨w.heap.size, 6, none⟩) (by show w.heap.size < _; omega) _).set (p := ⟨w.heap.size, 7, none⟩) (by show w.heap.size < _; omega) _).set (p := ⟨w.heap.size, 8, none⟩) (by show w.heap.size < _; omega) _), Hid.mk (((o2.out.set (p := ⟨w.heap.size, 6, none⟩) (by show w.heap.size < _; omega) _).set (p := ⟨w.heap.size, 7, none⟩) (by show w.heap.size < _; omega) _).set (p := ⟨w.heap.size, 8, none⟩) (by show w.heap.size < _; omega) _), Hid.mk (by rw [size_set, size_set, size_set]; exact ((o3.out.set (p := ⟨w.heap.size, 6, none⟩) (by show w.heap.size < _; omega) _).set (p := ⟨w.heap.size, 7, none⟩) (by show w.heap.size < _; omega) _).set (p := ⟨w.heap.size, 8, none⟩) (by show w.heap.size < _; omega) _)⟩
                    exact AllReadyH.nil
                  exact AllReadyH.nil
                exact AllReadyH.nil
              exact AllReadyH.nil
            exact AllReadyH.nil
          refine AllReadyH.cons rfl (fun K hK => ?_) ?_
          · go_simp
            refine hK.out _ _ ?_ (fun hHeld => ?_)
            · exact trivial
            clear hK K
            (try simp only [Act.put, List.setIfInBounds_toArray, List.set_cons_zero, List.set_cons_succ, List.getElem_toArray, List.getElem_cons_zero, List.getElem_cons_succ])
            refine wpAnyH_take (i := 9) (v := ?_) rfl (by kernel_rfl) (by kernel_rfl) (by kernel_rfl) (fun _ _ _ h => h) (Or.inl ⟨by rfl, ?_⟩) (by assumption) ?_
            rotate_left
            · intro w hSw; (try dsimp only at hSw); go_simp; (try with_reducible rfl)
            rotate_left
            simp only [Act.put, List.setIfInBounds_toArray, List.set_cons_zero, List.set_cons_succ, List.getElem_toArray, List.getElem_cons_zero, List.getElem_cons_succ]
            refine wpAnyH_ready (rs := [5]) (by kernel_rfl) (by simp) ?_
            refine AllReadyH.cons rfl (fun K hK => ?_) ?_
            · go_simp
              refine (cloneI s2 S.n2 t2 (lst S.n2 S.L2) _ (lst_len _ _).symm (li_lst (HS.out.below HB.out).s2) j2).mono ?_
              rintro e v2 ⟨a2, e2, rfl, hb, hc⟩
              have hz := hb.size
              have zz2 : Hid (v1.heap.size ≤ v2.heap.size) := Hid.mk hz
              have o2 : Hid (Ow v1.heap.size v2.heap.size v2 (lst S.n2 S.L2) a2) := Hid.mk hc
              have o1 := Hid.mk (o1.out.below hb)
              have HB := Hid.mk (below_then HB.out hb)
              have A := Hid.mk (blk_below A.out hb)
              clear hb hc hz y6 y7 y8 z6 z7 z8
              rw [lst_len]
              have y6 := blk_cell A.out 6
              have y7 := blk_cell A.out 7
              have y8 := blk_cell A.out 8
              simp only [List.getElem?_toArray, List.getElem?_cons_zero, List.getElem?_cons_succ] at y6 y7 y8
              have z6 := blk_unfrozen A.out 6
              have z7 := blk_unfrozen A.out 7
              have z8 := blk_unfrozen A.out 8
              refine hK.out _ _ ?_ (fun hHeld => ?_)
              · exact trivial
              clear hK K
              (try simp only [Act.put, List.setIfInBounds_toArray, List.set_cons_zero, List.set_cons_succ, List.getElem_toArray, List.getElem_cons_zero, List.getElem_cons_succ])
              refine wpAnyH_ready (rs := [8]) (by kernel_rfl) (by simp) ?_
              refine AllReadyH.cons rfl (fun K hK => ?_) ?_
              · go_simp
                refine (cloneI s3 S.n3 t3 (lst S.n3 S.L3) _ (lst_len _ _).symm (li_lst (HS.out.below HB.out).s3) j3).mono ?_
                rintro e v3 ⟨a3, e3, rfl, hb, hc⟩
                have hz := hb.size
                have zz3 : Hid (v2.heap.size ≤ v3.heap.size) := Hid.mk hz
                have o3 : Hid (Ow v2.heap.size v3.heap.size v3 (lst S.n3 S.L3) a3) := Hid.mk hc
                have o1 := Hid.mk (o1.out.below hb)
                have o2 := Hid.mk (o2.out.below hb)
                have HB := Hid.mk (below_then HB.out hb)
                have A := Hid.mk (blk_below A.out hb)
                clear hb hc hz y6 y7 y8 z6 z7 z8
                rw [lst_len]
                have y6 := blk_cell A.out 6
                have y7 := blk_cell A.out 7
                have y8 := blk_cell A.out 8
                simp only [List.getElem?_toArray, List.getElem?_cons_zero, List.getElem?_cons_succ] at y6 y7 y8
                have z6 := blk_unfrozen A.out 6
                have z7 := blk_unfrozen A.out 7
                have z8 := blk_unfrozen A.out 8
                refine hK.out _ _ ?_ (fun hHeld => ?_)
                · exact trivial
                clear hK K
                (try simp only [Act.put, List.setIfInBounds_toArray, List.set_cons_zero, List.set_cons_succ, List.getElem_toArray, List.getElem_cons_zero, List.getElem_cons_succ])
                refine wpAnyH_ready (rs := [10]) (by kernel_rfl) (by simp) ?_
                refine AllReadyH.cons rfl (fun K hK => ?_) ?_
                · go_simp
                  refine hK.out _ _ ?_ (fun hHeld => ?_)
                  · exact trivial
                  clear hK K
                  (try simp only [Act.put, List.setIfInBounds_toArray, List.set_cons_zero, List.set_cons_succ, List.getElem_toArray, List.getElem_cons_zero, List.getElem_cons_succ])
                  refine wpAnyH_take (i := 11) (v := ?_) rfl (by kernel_rfl) (by kernel_rfl) (by kernel_rfl) (fun _ _ _ h => h) (Or.inl ⟨by rfl, ?_⟩) (by assumption) ?_
                  rotate_left
                  · intro w hSw; (try dsimp only at hSw); go_simp; (try with_reducible rfl)
                  rotate_left
                  simp only [Act.put, List.setIfInBounds_toArray, List.set_cons_zero, List.set_cons_succ, List.getElem_toArray, List.getElem_cons_zero, List.getElem_cons_succ]
                  refine wpAnyH_ready (rs := [12]) (by kernel_rfl) (by simp) ?_
                  refine AllReadyH.cons rfl (fun K hK => ?_) ?_
                  · go_simp
                    refine hK.out _ _ ?_ (fun hHeld => ?_)
                    · exact trivial
                    clear hK K
                    (try simp only [Act.put, List.setIfInBounds_toArray, List.set_cons_zero, List.set_cons_succ, List.getElem_toArray, List.getElem_cons_zero, List.getElem_cons_succ])
                    refine wpAnyH_take (i := 13) (v := ?_) rfl (by kernel_rfl) (by kernel_rfl) (by kernel_rfl) (fun _ _ _ h => h) (Or.inl ⟨by rfl, ?_⟩) (by assumption) ?_
                    rotate_left
                    · intro w hSw; (try dsimp only at hSw); go_simp; (try with_reducible rfl)
                    rotate_left
                    simp only [Act.put, List.setIfInBounds_toArray, List.set_cons_zero, List.set_cons_succ, List.getElem_toArray, List.getElem_cons_zero, List.getElem_cons_succ]
                    refine wpAnyH_ready (rs := [14]) (by kernel_rfl) (by simp) ?_
                    refine AllReadyH.cons rfl (fun K hK => ?_) ?_
                    · go_simp
                      refine hK.out _ _ ?_ (fun hHeld => ?_)
                      · exact trivial
                      clear hK K
                      (try simp only [Act.put, List.setIfInBounds_toArray, List.set_cons_zero, List.set_cons_succ, List.getElem_toArray, List.getElem_cons_zero, List.getElem_cons_succ])
                      refine wpAnyH_done (by kernel_rfl) ?_ _
                      go_wp2_with fail
                      go_meet
                      have A' := blk_set (blk_set (blk_set A.out 6 (.slice a1 S.n1 e1)) 7 (.slice a2 S.n2 e2)) 8 (.slice a3 S.n3 e3)
                      simp only [List.setIfInBounds_toArray, List.set_cons_zero, List.set_cons_succ] at A'
                      have q1 := zz1.out
                      have q2 := zz2.out
                      have q3 := zz3.out
                      exact ⟨a1, a2, a3, e1, e2, e3, v1.heap.size, v2.heap.size, Hid.mk A', Hid.mk (((HB.out.setCell (p := ⟨w.heap.size, 6, none⟩) (Nat.le_refl _) _).setCell (p := ⟨w.heap.size, 7, none⟩) (Nat.le_refl _) _).setCell (p := ⟨w.heap.size, 8, none⟩) (Nat.le_refl _) _), Hid.mk ⟨q1, q2, by rw [size_set, size_set, size_set]; exact q3⟩, Hid.mk (((o1.out.set (p := ⟨w.heap.size, 6, none⟩) (by show w.heap.size < _; omega) _).set (p := ⟨w.heap.size, 7, none⟩) (by show w.heap.size < _; omega) _).set (p := ⟨w.heap.size, 8, none⟩) (by show w.heap.size < _; omega) _), Hid.mk (((o2.out.set (p := ⟨w.heap.size, 6, none⟩) (by show w.heap.size < _; omega) _).set (p := ⟨w.heap.size, 7, none⟩) (by show w.heap.size < _; omega) _).set (p := ⟨w.heap.size, 8, none⟩) (by show w.heap.size < _; omega) _), Hid.mk (by rw [size_set, size_set, size_set]; exact ((o3.out.set (p := ⟨w.heap.size, 6, none⟩) (by show w.heap.size < _; omega) _).set (p := ⟨w.heap.size, 7, none⟩) (by show w.heap.size < _; omega) _).set (p := ⟨w.heap.size, 8, none⟩) (by show w.heap.size < _; omega) _)⟩
                    exact AllReadyH.nil
                  exact AllReadyH.nil
                exact AllReadyH.nil
              exact AllReadyH.nil
            exact AllReadyH.nil
          exact AllReadyH.nil
        refine AllReadyH.cons rfl (fun K hK => ?_) ?_
        · go_simp
          refine hK.out _ _ ?_ (fun hHeld => ?_)
          · exact trivial
          clear hK K
          (try simp only [Act.put, List.setIfInBounds_toArray, List.set_cons_zero, List.set_cons_succ, List.getElem_toArray, List.getElem_cons_zero, List.getElem_cons_succ])
          refine wpAnyH_ready (rs := [2]) (by kernel_rfl) (by simp) ?_
          refine AllReadyH.cons rfl (fun K hK => ?_) ?_
          · go_simp
            refine (cloneI s1 S.n1 t1 (lst S.n1 S.L1) _ (lst_len _ _).symm (li_lst (HS.out.below HB.out).s1) j1).mono ?_
            rintro e v1 ⟨a1, e1, rfl, hb, hc⟩
            have hz := hb.size
            have zz1 : Hid (w.heap.size < v1.heap.size) := Hid.mk (Nat.lt_of_lt_of_le (blk_lt A.out) hz)
            have o1 : Hid (Ow (w.heap.size + 1) v1.heap.size v1 (lst S.n1 S.L1) a1) := Hid.mk (hc.imp id fun ⟨g, h1, h2, h3, h4⟩ => ⟨g, h1, Nat.le_trans (blk_lt A.out) h2, h3, h4⟩)
            have HB := Hid.mk (below_then HB.out hb)
            have A := Hid.mk (blk_below A.out hb)
            clear hb hc hz y6 y7 y8 z6 z7 z8
            rw [lst_len]
            have y6 := blk_cell A.out 6
            have y7 := blk_cell A.out 7
            have y8 := blk_cell A.out 8
            simp only [List.getElem?_toArray, List.getElem?_cons_zero, List.getElem?_cons_succ] at y6 y7 y8
            have z6 := blk_unfrozen A.out 6
            have z7 := blk_unfrozen A.out 7
            have z8 := blk_unfrozen A.out 8
            refine hK.out _ _ ?_ (fun hHeld => ?_)
            · exact trivial
            clear hK K
            (try simp only [Act.put, List.setIfInBounds_toArray, List.set_cons_zero, List.set_cons_succ, List.getElem_toArray, List.getElem_cons_zero, List.getElem_cons_succ])
            refine wpAnyH_take (i := 9) (v := ?_) rfl (by kernel_rfl) (by kernel_rfl) (by kernel_rfl) (fun _ _ _ h => h) (Or.inl ⟨by rfl, ?_⟩) (by assumption) ?_
            rotate_left
            · intro w hSw; (try dsimp only at hSw); go_simp; (try with_reducible rfl)
            rotate_left
            simp only [Act.put, List.setIfInBounds_toArray, List.set_cons_zero, List.set_cons_succ, List.getElem_toArray, List.getElem_cons_zero, List.getElem_cons_succ]
            refine wpAnyH_ready (rs := [5]) (by kernel_rfl) (by simp) ?_
            refine AllReadyH.cons rfl (fun K hK => ?_) ?_
            · go_simp
              refine (cloneI s2 S.n2 t2 (lst S.n2 S.L2) _ (lst_len _ _).symm (li_lst (HS.out.below HB.out).s2) j2).mono ?_
              rintro e v2 ⟨a2, e2, rfl, hb, hc⟩
              have hz := hb.size
              have zz2 : Hid (v1.heap.size ≤ v2.heap.size) := Hid.mk hz
              have o2 : Hid (Ow v1.heap.size v2.heap.size v2 (lst S.n2 S.L2) a2) := Hid.mk hc
              have o1 := Hid.mk (o1.out.below hb)
              have HB := Hid.mk (below_then HB.out hb)
              have A := Hid.mk (blk_below A.out hb)
              clear hb hc hz y6 y7 y8 z6 z7 z8
              rw [lst_len]
              have y6 := blk_cell A.out 6
              have y7 := blk_cell A.out 7
              have y8 := blk_cell A.out 8
              simp only [List.getElem?_toArray, List.getElem?_cons_zero, List.getElem?_cons_succ] at y6 y7 y8
              have z6 := blk_unfrozen A.out 6
              have z7 := blk_unfrozen A.out 7
              have z8 := blk_unfrozen A.out 8
              refine hK.out _ _ ?_ (fun hHeld => ?_)
              · exact trivial
              clear hK K
              (try simp only [Act.put, List.setIfInBounds_toArray, List.set_cons_zero, List.set_cons_succ, List.getElem_toArray, List.getElem_cons_zero, List.getElem_cons_succ])
              refine wpAnyH_ready (rs := [8]) (by kernel_rfl) (by simp) ?_
              refine AllReadyH.cons rfl (fun K hK => ?_) ?_
              · go_simp
                refine (cloneI s3 S.n3 t3 (lst S.n3 S.L3) _ (lst_len _ _).symm (li_lst (HS.out.below HB.out).s3) j3).mono ?_
                rintro e v3 ⟨a3, e3, rfl, hb, hc⟩
                have hz := hb.size
                have zz3 : Hid (v2.heap.size ≤ v3.heap.size) := Hid.mk hz
                have o3 : Hid (Ow v2.heap.size v3.heap.size v3 (lst S.n3 S.L3) a3) := Hid.mk hc
                have o1 := Hid.mk (o1.out.below hb)
                have o2 := Hid.mk (o2.out.below hb)
                have HB := Hid.mk (below_then HB.out hb)
                have A := Hid.mk (blk_below A.out hb)
                clear hb hc hz y6 y7 y8 z6 z7 z8
                rw [lst_len]
                have y6 := blk_cell A.out 6
                have y7 := blk_cell A.out 7
                have y8 := blk_cell A.out 8
                simp only [List.getElem?_toArray, List.getElem?_cons_zero, List.getElem?_cons_succ] at y6 y7 y8
                have z6 := blk_unfrozen A.out 6
                have z7 := blk_unfrozen A.out 7
                have z8 := blk_unfrozen A.out 8
                refine hK.out _ _ ?_ (fun hHeld => ?_)
                · exact trivial
                clear hK K
                (try simp only [Act.put, List.setIfInBounds_toArray, List.set_cons_zero, List.set_cons_succ, List.getElem_toArray, List.getElem_cons_zero, List.getElem_cons_succ])
                refine wpAnyH_ready (rs := [10]) (by kernel_rfl) (by simp) ?_
                refine AllReadyH.cons rfl (fun K hK => ?_) ?_
                · go_simp
                  refine hK.out _ _ ?_ (fun hHeld => ?_)
                  · exact trivial
                  clear hK K
                  (try simp only [Act.put, List.setIfInBounds_toArray, List.set_cons_zero, List.set_cons_succ, List.getElem_toArray, List.getElem_cons_zero, List.getElem_cons_succ])
                  refine wpAnyH_take (i := 11) (v := ?_) rfl (by kernel_rfl) (by kernel_rfl) (by kernel_rfl) (fun _ _ _ h => h) (Or.inl ⟨by rfl, ?_⟩) (by assumption) ?_
                  rotate_left
                  · intro w hSw; (try dsimp only at hSw); go_simp; (try with_reducible rfl)
                  rotate_left
                  simp only [Act.put, List.setIfInBounds_toArray, List.set_cons_zero, List.set_cons_succ, List.getElem_toArray, List.getElem_cons_zero, List.getElem_cons_succ]
                  refine wpAnyH_ready (rs := [12]) (by kernel_rfl) (by simp) ?_
                  refine AllReadyH.cons rfl (fun K hK => ?_) ?_
                  · go_simp
                    refine hK.out _ _ ?_ (fun hHeld => ?_)
                    · exact trivial
                    clear hK K
                    (try simp only [Act.put, List.setIfInBounds_toArray, List.set_cons_zero, List.set_cons_succ, List.getElem_toArray, List.getElem_cons_zero, List.getElem_cons_succ])
                    refine wpAnyH_take (i := 13) (v := ?_) rfl (by kernel_rfl) (by kernel_rfl) (by kernel_rfl) (fun _ _ _ h => h) (Or.inl ⟨by rfl, ?_⟩) (by assumption) ?_
                    rotate_left
                    · intro w hSw; (try dsimp only at hSw); go_simp; (try with_reducible rfl)
                    rotate_left
                    simp only [Act.put, List.setIfInBounds_toArray, List.set_cons_zero, List.set_cons_succ, List.getElem_toArray, List.getElem_cons_zero, List.getElem_cons_succ]
                    refine wpAnyH_ready (rs := [14]) (by kernel_rfl) (by simp) ?_
                    refine AllReadyH.cons rfl (fun K hK => ?_) ?_
                    · go_simp
                      refine hK.out _ _ ?_ (fun hHeld => ?_)
                      · exact trivial
                      clear hK K
                      (try simp only [Act.put, List.setIfInBounds_toArray, List.set_cons_zero, List.set_cons_succ, List.getElem_toArray, List.getElem_cons_zero, List.getElem_cons_succ])
                      refine wpAnyH_done (by kernel_rfl) ?_ _
                      go_wp2_with fail
                      go_meet
                      have A' := blk_set (blk_set (blk_set A.out 6 (.slice a1 S.n1 e1)) 7 (.slice a2 S.n2 e2)) 8 (.slice a3 S.n3 e3)
                      simp only [List.setIfInBounds_toArray, List.set_cons_zero, List.set_cons_succ] at A'
                      have q1 := zz1.out
                      have q2 := zz2.out
                      have q3 := zz3.out
                      exact ⟨a1, a2, a3, e1, e2, e3, v1.heap.size, v2.heap.size, Hid.mk A', Hid.mk (((HB.out.setCell (p := ⟨w.heap.size, 6, none⟩) (Nat.le_refl _) _).setCell (p := ⟨w.heap.size, 7, none⟩) (Nat.le_refl _) _).setCell (p := ⟨w.heap.size, 8, none⟩) (Nat.le_refl _) _), Hid.mk ⟨q1, q2, by rw [size_set, size_set, size_set]; exact q3⟩, Hid.mk (((o1.out.set (p := ⟨w.heap.size, 6, none⟩) (by show w.heap.size < _; omega) _).set (p := ⟨w.heap.size, 7, none⟩) (by show w.heap.size < _; omega) _).set (p := ⟨w.heap.size, 8, none⟩) (by show w.heap.size < _; omega) _), Hid.mk (((o2.out.set (p := ⟨w.heap.size, 6, none⟩) (by show w.heap.size < _; omega) _).set (p := ⟨w.heap.size, 7, none⟩) (by show w.heap.size < _; omega) _).set (p := ⟨w.heap.size, 8, none⟩) (by show w.heap.size < _; omega) _), Hid.mk (by rw [size_set, size_set, size_set]; exact ((o3.out.set (p := ⟨w.heap.size, 6, none⟩) (by show w.heap.size < _; omega) _).set (p := ⟨w.heap.size, 7, none⟩) (by show w.heap.size < _; omega) _).set (p := ⟨w.heap.size, 8, none⟩) (by show w.heap.size < _; omega) _)⟩
                    exact AllReadyH.nil
                  exact AllReadyH.nil
                exact AllReadyH.nil
              exact AllReadyH.nil
            exact AllReadyH.nil
          exact AllReadyH.nil
        exact AllReadyH.nil
      refine AllReadyH.cons rfl (fun K hK => ?_) ?_
      · go_simp
        refine hK.out _ _ ?_ (fun hHeld => ?_)
        · exact trivial
        clear hK K
        (try simp only [Act.put, List.setIfInBounds_toArray, List.set_cons_zero, List.set_cons_succ, List.getElem_toArray, List.getElem_cons_zero, List.getElem_cons_succ])
        refine wpAnyH_ready (rs := [1]) (by kernel_rfl) (by simp) ?_
        refine AllReadyH.cons rfl (fun K hK => ?_) ?_
        · go_simp
          refine hK.out _ _ ?_ (fun hHeld => ?_)
          · exact trivial
          clear hK K
          (try simp only [Act.put, List.setIfInBounds_toArray, List.set_cons_zero, List.set_cons_succ, List.getElem_toArray, List.getElem_cons_zero, List.getElem_cons_succ])
          refine wpAnyH_ready (rs := [2]) (by kernel_rfl) (by simp) ?_
          refine AllReadyH.cons rfl (fun K hK => ?_) ?_
          · go_simp
            refine (cloneI s1 S.n1 t1 (lst S.n1 S.L1) _ (lst_len _ _).symm (li_lst (HS.out.below HB.out).s1) j1).mono ?_
            rintro e v1 ⟨a1, e1, rfl, hb, hc⟩
            have hz := hb.size
            have zz1 : Hid (w.heap.size < v1.heap.size) := Hid.mk (Nat.lt_of_lt_of_le (blk_lt A.out) hz)
            have o1 : Hid (Ow (w.heap.size + 1) v1.heap.size v1 (lst S.n1 S.L1) a1) := Hid.mk (hc.imp id fun ⟨g, h1, h2, h3, h4⟩ => ⟨g, h1, Nat.le_trans (blk_lt A.out) h2, h3, h4⟩)
            have HB := Hid.mk (below_then HB.out hb)
            have A := Hid.mk (blk_below A.out hb)
            clear hb hc hz y6 y7 y8 z6 z7 z8
            rw [lst_len]
            have y6 := blk_cell A.out 6
            have y7 := blk_cell A.out 7
            have y8 := blk_cell A.out 8
            simp only [List.getElem?_toArray, List.getElem?_cons_zero, List.getElem?_cons_succ] at y6 y7 y8
            have z6 := blk_unfrozen A.out 6
            have z7 := blk_unfrozen A.out 7
            have z8 := blk_unfrozen A.out 8
            refine hK.out _ _ ?_ (fun hHeld => ?_)
            · exact trivial
            clear hK K
            (try simp only [Act.put, List.setIfInBounds_toArray, List.set_cons_zero, List.set_cons_succ, List.getElem_toArray, List.getElem_cons_zero, List.getElem_cons_succ])
            refine wpAnyH_take (i := 9) (v := ?_) rfl (by kernel_rfl) (by kernel_rfl) (by kernel_rfl) (fun _ _ _ h => h) (Or.inl ⟨by rfl, ?_⟩) (by assumption) ?_
            rotate_left
            · intro w hSw; (try dsimp only at hSw); go_simp; (try with_reducible rfl)
            rotate_left
            simp only [Act.put, List.setIfInBounds_toArray, List.set_cons_zero, List.set_cons_succ, List.getElem_toArray, List.getElem_cons_zero, List.getElem_cons_succ]
            refine wpAnyH_ready (rs := [5]) (by kernel_rfl) (by simp) ?_
            refine AllReadyH.cons rfl (fun K hK => ?_) ?_
            · go_simp
              refine (cloneI s2 S.n2 t2 (lst S.n2 S.L2) _ (lst_len _ _).symm (li_lst (HS.out.below HB.out).s2) j2).mono ?_
              rintro e v2 ⟨a2, e2, rfl, hb, hc⟩
              have hz := hb.size
              have zz2 : Hid (v1.heap.size ≤ v2.heap.size) := Hid.mk hz
              have o2 : Hid (Ow v1.heap.size v2.heap.size v2 (lst S.n2 S.L2) a2) := Hid.mk hc
              have o1 := Hid.mk (o1.out.below hb)
              have HB := Hid.mk (below_then HB.out hb)
              have A := Hid.mk (blk_below A.out hb)
              clear hb hc hz y6 y7 y8 z6 z7 z8
              rw [lst_len]
              have y6 := blk_cell A.out 6
              have y7 := blk_cell A.out 7
              have y8 := blk_cell A.out 8
              simp only [List.getElem?_toArray, List.getElem?_cons_zero, List.getElem?_cons_succ] at y6 y7 y8
              have z6 := blk_unfrozen A.out 6
              have z7 := blk_unfrozen A.out 7
              have z8 := blk_unfrozen A.out 8
              refine hK.out _ _ ?_ (fun hHeld => ?_)
              · exact trivial
              clear hK K
              (try simp only [Act.put, List.setIfInBounds_toArray, List.set_cons_zero, List.set_cons_succ, List.getElem_toArray, List.getElem_cons_zero, List.getElem_cons_succ])
              refine wpAnyH_ready (rs := [8]) (by kernel_rfl) (by simp) ?_
              refine AllReadyH.cons rfl (fun K hK => ?_) ?_
              · go_simp
                refine (cloneI s3 S.n3 t3 (lst S.n3 S.L3) _ (lst_len _ _).symm (li_lst (HS.out.below HB.out).s3) j3).mono ?_
                rintro e v3 ⟨a3, e3, rfl, hb, hc⟩
                have hz := hb.size
                have zz3 : Hid (v2.heap.size ≤ v3.heap.size) := Hid.mk hz
                have o3 : Hid (Ow v2.heap.size v3.heap.size v3 (lst S.n3 S.L3) a3) := Hid.mk hc
                have o1 := Hid.mk (o1.out.below hb)
                have o2 := Hid.mk (o2.out.below hb)
                have HB := Hid.mk (below_then HB.out hb)
                have A := Hid.mk (blk_below A.out hb)
                clear hb hc hz y6 y7 y8 z6 z7 z8
                rw [lst_len]
                have y6 := blk_cell A.out 6
                have y7 := blk_cell A.out 7
                have y8 := blk_cell A.out 8
                simp only [List.getElem?_toArray, List.getElem?_cons_zero, List.getElem?_cons_succ] at y6 y7 y8
                have z6 := blk_unfrozen A.out 6
                have z7 := blk_unfrozen A.out 7
                have z8 := blk_unfrozen A.out 8
                refine hK.out _ _ ?_ (fun hHeld => ?_)
                · exact trivial
                clear hK K
                (try simp only [Act.put, List.setIfInBounds_toArray, List.set_cons_zero, List.set_cons_succ, List.getElem_toArray, List.getElem_cons_zero, List.getElem_cons_succ])
                refine wpAnyH_ready (rs := [10]) (by kernel_rfl) (by simp) ?_
                refine AllReadyH.cons rfl (fun K hK => ?_) ?_
                · go_simp
                  refine hK.out _ _ ?_ (fun hHeld => ?_)
                  · exact trivial
                  clear hK K
                  (try simp only [Act.put, List.setIfInBounds_toArray, List.set_cons_zero, List.set_cons_succ, List.getElem_toArray, List.getElem_cons_zero, List.getElem_cons_succ])
                  refine wpAnyH_take (i := 11) (v := ?_) rfl (by kernel_rfl) (by kernel_rfl) (by kernel_rfl) (fun _ _ _ h => h) (Or.inl ⟨by rfl, ?_⟩) (by assumption) ?_
                  rotate_left
                  · intro w hSw; (try dsimp only at hSw); go_simp; (try with_reducible rfl)
                  rotate_left
                  simp only [Act.put, List.setIfInBounds_toArray, List.set_cons_zero, List.set_cons_succ, List.getElem_toArray, List.getElem_cons_zero, List.getElem_cons_succ]
                  refine wpAnyH_ready (rs := [12]) (by kernel_rfl) (by simp) ?_
                  refine AllReadyH.cons rfl (fun K hK => ?_) ?_
                  · go_simp
                    refine hK.out _ _ ?_ (fun hHeld => ?_)
                    · exact trivial
                    clear hK K
                    (try simp only [Act.put, List.setIfInBounds_toArray, List.set_cons_zero, List.set_cons_succ, List.getElem_toArray, List.getElem_cons_zero, List.getElem_cons_succ])
                    refine wpAnyH_take (i := 13) (v := ?_) rfl (by kernel_rfl) (by kernel_rfl) (by kernel_rfl) (fun _ _ _ h => h) (Or.inl ⟨by rfl, ?_⟩) (by assumption) ?_
                    rotate_left
                    · intro w hSw; (try dsimp only at hSw); go_simp; (try with_reducible rfl)
                    rotate_left
                    simp only [Act.put, List.setIfInBounds_toArray, List.set_cons_zero, List.set_cons_succ, List.getElem_toArray, List.getElem_cons_zero, List.getElem_cons_succ]
                    refine wpAnyH_ready (rs := [14]) (by kernel_rfl) (by simp) ?_
                    refine AllReadyH.cons rfl (fun K hK => ?_) ?_
                    · go_simp
                      refine hK.out _ _ ?_ (fun hHeld => ?_)
                      · exact trivial
                      clear hK K
                      (try simp only [Act.put, List.setIfInBounds_toArray, List.set_cons_zero, List.set_cons_succ, List.getElem_toArray, List.getElem_cons_zero, List.getElem_cons_succ])
                      refine wpAnyH_done (by kernel_rfl) ?_ _
                      go_wp2_with fail
                      go_meet
                      have A' := blk_set (blk_set (blk_set A.out 6 (.slice a1 S.n1 e1)) 7 (.slice a2 S.n2 e2)) 8 (.slice a3 S.n3 e3)
                      simp only [List.setIfInBounds_toArray, List.set_cons_zero, List.set_cons_succ] at A'
                      have q1 := zz1.out
                      have q2 := zz2.out
                      have q3 := zz3.out
                      exact ⟨a1, a2, a3, e1, e2, e3, v1.heap.size, v2.heap.size, Hid.mk A', Hid.mk (((HB.out.setCell (p := ⟨w.heap.size, 6, none⟩) (Nat.le_refl _) _).setCell (p := ⟨w.heap.size, 7, none⟩) (Nat.le_refl _) _).setCell (p := ⟨w.heap.size, 8, none⟩) (Nat.le_refl _) _), Hid.mk ⟨q1, q2, by rw [size_set, size_set, size_set]; exact q3⟩, Hid.mk (((o1.out.set (p := ⟨w.heap.size, 6, none⟩) (by show w.heap.size < _; omega) _).set (p := ⟨w.heap.size, 7, none⟩) (by show w.heap.size < _; omega) _).set (p := ⟨w.heap.size, 8, none⟩) (by show w.heap.size < _; omega) _), Hid.mk (((o2.out.set (p := ⟨w.heap.size, 6, none⟩) (by show w.heap.size < _; omega) _).set (p := ⟨w.heap.size, 7, none⟩) (by show w.heap.size < _; omega) _).set (p := ⟨w.heap.size, 8, none⟩) (by show w.heap.size < _; omega) _), Hid.mk (by rw [size_set, size_set, size_set]; exact ((o3.out.set (p := ⟨w.heap.size, 6, none⟩) (by show w.heap.size < _; omega) _).set (p := ⟨w.heap.size, 7, none⟩) (by show w.heap.size < _; omega) _).set (p := ⟨w.heap.size, 8, none⟩) (by show w.heap.size < _; omega) _)⟩
                    exact AllReadyH.nil
                  exact AllReadyH.nil
                exact AllReadyH.nil
              exact AllReadyH.nil
            exact AllReadyH.nil
          exact AllReadyH.nil
        exact AllReadyH.nil
      exact AllReadyH.nil
    refine AllReadyH.cons rfl (fun K hK => ?_) ?_
    · go_simp
      refine hK.out _ _ ?_ (fun hHeld => ?_)
      · exact trivial
      clear hK K
      (try simp only [Act.put, List.setIfInBounds_toArray, List.set_cons_zero, List.set_cons_succ, List.getElem_toArray, List.getElem_cons_zero, List.getElem_cons_succ])
      refine wpAnyH_ready (rs := [1, 4]) (by kernel_rfl) (by simp) ?_
      refine AllReadyH.cons rfl (fun K hK => ?_) ?_
      · go_simp
        refine hK.out _ _ ?_ (fun hHeld => ?_)
        · exact trivial
        clear hK K
        (try simp only [Act.put, List.setIfInBounds_toArray, List.set_cons_zero, List.set_cons_succ, List.getElem_toArray, List.getElem_cons_zero, List.getElem_cons_succ])
        refine wpAnyH_ready (rs := [2, 4]) (by kernel_rfl) (by simp) ?_
        refine AllReadyH.cons rfl (fun K hK => ?_) ?_
        · go_simp
          refine (cloneI s1 S.n1 t1 (lst S.n1 S.L1) _ (lst_len _ _).symm (li_lst (HS.out.below HB.out).s1) j1).mono ?_
          rintro e v1 ⟨a1, e1, rfl, hb, hc⟩
          have hz := hb.size
          have zz1 : Hid (w.heap.size < v1.heap.size) := Hid.mk (Nat.lt_of_lt_of_le (blk_lt A.out) hz)
          have o1 : Hid (Ow (w.heap.size + 1) v1.heap.size v1 (lst S.n1 S.L1) a1) := Hid.mk (hc.imp id fun ⟨g, h1, h2, h3, h4⟩ => ⟨g, h1, Nat.le_trans (blk_lt A.out) h2, h3, h4⟩)
          have HB := Hid.mk (below_then HB.out hb)
          have A := Hid.mk (blk_below A.out hb)
          clear hb hc hz y6 y7 y8 z6 z7 z8
          rw [lst_len]
          have y6 := blk_cell A.out 6
          have y7 := blk_cell A.out 7
          have y8 := blk_cell A.out 8
          simp only [List.getElem?_toArray, List.getElem?_cons_zero, List.getElem?_cons_succ] at y6 y7 y8
          have z6 := blk_unfrozen A.out 6
          have z7 := blk_unfrozen A.out 7
          have z8 := blk_unfrozen A.out 8
          refine hK.out _ _ ?_ (fun hHeld => ?_)
          · exact trivial
          clear hK K
          (try simp only [Act.put, List.setIfInBounds_toArray, List.set_cons_zero, List.set_cons_succ, List.getElem_toArray, List.getElem_cons_zero, List.getElem_cons_succ])
          refine wpAnyH_ready (rs := [4]) (by kernel_rfl) (by simp) ?_
          refine AllReadyH.cons rfl (fun K hK => ?_) ?_
          · go_simp
            refine hK.out _ _ ?_ (fun hHeld => ?_)
            · exact trivial
            clear hK K
            (try simp only [Act.put, List.setIfInBounds_toArray, List.set_cons_zero, List.set_cons_succ, List.getElem_toArray, List.getElem_cons_zero, List.getElem_cons_succ])
            refine wpAnyH_take (i := 9) (v := ?_) rfl (by kernel_rfl) (by kernel_rfl) (by kernel_rfl) (fun _ _ _ h => h) (Or.inl ⟨by rfl, ?_⟩) (by assumption) ?_
            rotate_left
            · intro w hSw; (try dsimp only at hSw); go_simp; (try with_reducible rfl)
            rotate_left
            simp only [Act.put, List.setIfInBounds_toArray, List.set_cons_zero, List.set_cons_succ, List.getElem_toArray, List.getElem_cons_zero, List.getElem_cons_succ]
            refine wpAnyH_ready (rs := [5]) (by kernel_rfl) (by simp) ?_
            refine AllReadyH.cons rfl (fun K hK => ?_) ?_
            · go_simp
              refine (cloneI s2 S.n2 t2 (lst S.n2 S.L2) _ (lst_len _ _).symm (li_lst (HS.out.below HB.out).s2) j2).mono ?_
              rintro e v2 ⟨a2, e2, rfl, hb, hc⟩
              have hz := hb.size
              have zz2 : Hid (v1.heap.size ≤ v2.heap.size) := Hid.mk hz
              have o2 : Hid (Ow v1.heap.size v2.heap.size v2 (lst S.n2 S.L2) a2) := Hid.mk hc
              have o1 := Hid.mk (o1.out.below hb)
              have HB := Hid.mk (below_then HB.out hb)
              have A := Hid.mk (blk_below A.out hb)
              clear hb hc hz y6 y7 y8 z6 z7 z8
              rw [lst_len]
              have y6 := blk_cell A.out 6
              have y7 := blk_cell A.out 7
              have y8 := blk_cell A.out 8
              simp only [List.getElem?_toArray, List.getElem?_cons_zero, List.getElem?_cons_succ] at y6 y7 y8
              have z6 := blk_unfrozen A.out 6
              have z7 := blk_unfrozen A.out 7
              have z8 := blk_unfrozen A.out 8
              refine hK.out _ _ ?_ (fun hHeld => ?_)
              · exact trivial
              clear hK K
              (try simp only [Act.put, List.setIfInBounds_toArray, List.set_cons_zero, List.set_cons_succ, List.getElem_toArray, List.getElem_cons_zero, List.getElem_cons_succ])
              refine wpAnyH_ready (rs := [8]) (by kernel_rfl) (by simp) ?_
              refine AllReadyH.cons rfl (fun K hK => ?_) ?_
              · go_simp
                refine (cloneI s3 S.n3 t3 (lst S.n3 S.L3) _ (lst_len _ _).symm (li_lst (HS.out.below HB.out).s3) j3).mono ?_
                rintro e v3 ⟨a3, e3, rfl, hb, hc⟩
                have hz := hb.size
                have zz3 : Hid (v2.heap.size ≤ v3.heap.size) := Hid.mk hz
                have o3 : Hid (Ow v2.heap.size v3.heap.size v3 (lst S.n3 S.L3) a3) := Hid.mk hc
                have o1 := Hid.mk (o1.out.below hb)
                have o2 := Hid.mk (o2.out.below hb)
                have HB := Hid.mk (below_then HB.out hb)
                have A := Hid.mk (blk_below A.out hb)
                clear hb hc hz y6 y7 y8 z6 z7 z8
                rw [lst_len]
                have y6 := blk_cell A.out 6
                have y7 := blk_cell A.out 7
                have y8 := blk_cell A.out 8
                simp only [List.getElem?_toArray, List.getElem?_cons_zero, List.getElem?_cons_succ] at y6 y7 y8
                have z6 := blk_unfrozen A.out 6
                have z7 := blk_unfrozen A.out 7
                have z8 := blk_unfrozen A.out 8
                refine hK.out _ _ ?_ (fun hHeld => ?_)
                · exact trivial
                clear hK K
                (try simp only [Act.put, List.setIfInBounds_toArray, List.set_cons_zero, List.set_cons_succ, List.getElem_toArray, List.getElem_cons_zero, List.getElem_cons_succ])
                refine wpAnyH_ready (rs := [10]) (by kernel_rfl) (by simp) ?_
                refine AllReadyH.cons rfl (fun K hK => ?_) ?_
                · go_simp
                  refine hK.out _ _ ?_ (fun hHeld => ?_)
                  · exact trivial
                  clear hK K
                  (try simp only [Act.put, List.setIfInBounds_toArray, List.set_cons_zero, List.set_cons_succ, List.getElem_toArray, List.getElem_cons_zero, List.getElem_cons_succ])
                  refine wpAnyH_take (i := 11) (v := ?_) rfl (by kernel_rfl) (by kernel_rfl) (by kernel_rfl) (fun _ _ _ h => h) (Or.inl ⟨by rfl, ?_⟩) (by assumption) ?_
                  rotate_left
                  · intro w hSw; (try dsimp only at hSw); go_simp; (try with_reducible rfl)
                  rotate_left
                  simp only [Act.put, List.setIfInBounds_toArray, List.set_cons_zero, List.set_cons_succ, List.getElem_toArray, List.getElem_cons_zero, List.getElem_cons_succ]
                  refine wpAnyH_ready (rs := [12]) (by kernel_rfl) (by simp) ?_
                  refine AllReadyH.cons rfl (fun K hK => ?_) ?_
                  · go_simp
                    refine hK.out _ _ ?_ (fun hHeld => ?_)
                    · exact trivial
                    clear hK K
                    (try simp only [Act.put, List.setIfInBounds_toArray, List.set_cons_zero, List.set_cons_succ, List.getElem_toArray, List.getElem_cons_zero, List.getElem_cons_succ])
                    refine wpAnyH_take (i := 13) (v := ?_) rfl (by kernel_rfl) (by kernel_rfl) (by kernel_rfl) (fun _ _ _ h => h) (Or.inl ⟨by rfl, ?_⟩) (by assumption) ?_
                    rotate_left
                    · intro w hSw; (try dsimp only at hSw); go_simp; (try with_reducible rfl)
                    rotate_left
                    simp only [Act.put, List.setIfInBounds_toArray, List.set_cons_zero, List.set_cons_succ, List.getElem_toArray, List.getElem_cons_zero, List.getElem_cons_succ]
                    refine wpAnyH_ready (rs := [14]) (by kernel_rfl) (by simp) ?_
                    refine AllReadyH.cons rfl (fun K hK => ?_) ?_
                    · go_simp
                      refine hK.out _ _ ?_ (fun hHeld => ?_)
                      · exact trivial
                      clear hK K
                      (try simp only [Act.put, List.setIfInBounds_toArray, List.set_cons_zero, List.set_cons_succ, List.getElem_toArray, List.getElem_cons_zero, List.getElem_cons_succ])
                      refine wpAnyH_done (by kernel_rfl) ?_ _
                      go_wp2_with fail
                      go_meet
                      have A' := blk_set (blk_set (blk_set A.out 6 (.slice a1 S.n1 e1)) 7 (.slice a2 S.n2 e2)) 8 (.slice a3 S.n3 e3)
                      simp only [List.setIfInBounds_toArray, List.set_cons_zero, List.set_cons_succ] at A'
                      have q1 := zz1.out
                      have q2 := zz2.out
                      have q3 := zz3.out
                      exact ⟨a1, a2, a3, e1, e2, e3, v1.heap.size, v2.heap.size, Hid.mk A', Hid.mk (((HB.out.setCell (p := ⟨w.heap.size, 6, none⟩) (Nat.le_refl _) _).setCell (p := ⟨w.heap.size, 7, none⟩) (Nat.le_refl _) _).setCell (p := ⟨w.heap.size, 8, none⟩) (Nat.le_refl _) _), Hid.mk ⟨q1, q2, by rw [size_set, size_set, size_set]; exact q3⟩, Hid.mk (((o1.out.set (p := ⟨w.heap.size, 6, none⟩) (by show w.heap.size < _; omega) _).set (p := ⟨w.heap.size, 7, none⟩) (by show w.heap.size < _; omega) _).set (p := ⟨w.heap.size, 8, none⟩) (by show w.heap.size < _; omega) _), Hid.mk (((o2.out.set (p := ⟨w.heap.size, 6, none⟩) (by show w.heap.size < _; omega) _).set (p := ⟨w.heap.size, 7, none⟩) (by show w.heap.size < _; omega) _).set (p := ⟨w.heap.size, 8, none⟩) (by show w.heap.size < _; omega) _), Hid.mk (by rw [size_set, size_set, size_set]; exact ((o3.out.set (p := ⟨w.heap.size, 6, none⟩) (by show w.heap.size < _; omega) _).set (p := ⟨w.heap.size, 7, none⟩) (by show w.heap.size < _; omega) _).set (p := ⟨w.heap.size, 8, none⟩) (by show w.heap.size < _; omega) _)⟩
                    exact AllReadyH.nil
                  exact AllReadyH.nil
                exact AllReadyH.nil
              exact AllReadyH.nil
            exact AllReadyH.nil
          exact AllReadyH.nil
        refine AllReadyH.cons rfl (fun K hK => ?_) ?_
        · go_simp
          refine hK.out _ _ ?_ (fun hHeld => ?_)
          · exact trivial
          clear hK K
          (try simp only [Act.put, List.setIfInBounds_toArray, List.set_cons_zero, List.set_cons_succ, List.getElem_toArray, List.getElem_cons_zero, List.getElem_cons_succ])
          refine wpAnyH_ready (rs := [2]) (by kernel_rfl) (by simp) ?_
          refine AllReadyH.cons rfl (fun K hK => ?_) ?_
          · go_simp
            refine (cloneI s1 S.n1 t1 (lst S.n1 S.L1) _ (lst_len _ _).symm (li_lst (HS.out.below HB.out).s1) j1).mono ?_
            rintro e v1 ⟨a1, e1, rfl, hb, hc⟩
            have hz := hb.size
            have zz1 : Hid (w.heap.size < v1.heap.size) := Hid.mk (Nat.lt_of_lt_of_le (blk_lt A.out) hz)
            have o1 : Hid (Ow (w.heap.size + 1) v1.heap.size v1 (lst S.n1 S.L1) a1) := Hid.mk (hc.imp id fun ⟨g, h1, h2, h3, h4⟩ => ⟨g, h1, Nat.le_trans (blk_lt A.out) h2, h3, h4⟩)
            have HB := Hid.mk (below_then HB.out hb)
            have A := Hid.mk (blk_below A.out hb)
            clear hb hc hz y6 y7 y8 z6 z7 z8
            rw [lst_len]
            have y6 := blk_cell A.out 6
            have y7 := blk_cell A.out 7
            have y8 := blk_cell A.out 8
            simp only [List.getElem?_toArray, List.getElem?_cons_zero, List.getElem?_cons_succ] at y6 y7 y8
            have z6 := blk_unfrozen A.out 6
            have z7 := blk_unfrozen A.out 7
            have z8 := blk_unfrozen A.out 8
            refine hK.out _ _ ?_ (fun hHeld => ?_)
            · exact trivial
            clear hK K
            (try simp only [Act.put, List.setIfInBounds_toArray, List.set_cons_zero, List.set_cons_succ, List.getElem_toArray, List.getElem_cons_zero, List.getElem_cons_succ])
            refine wpAnyH_take (i := 9) (v := ?_) rfl (by kernel_rfl) (by kernel_rfl) (by kernel_rfl) (fun _ _ _ h => h) (Or.inl ⟨by rfl, ?_⟩) (by assumption) ?_
            rotate_left
            · intro w hSw; (try dsimp only at hSw); go_simp; (try with_reducible rfl)
            rotate_left
            simp only [Act.put, List.setIfInBounds_toArray, List.set_cons_zero, List.set_cons_succ, List.getElem_toArray, List.getElem_cons_zero, List.getElem_cons_succ]
            refine wpAnyH_ready (rs := [5]) (by kernel_rfl) (by simp) ?_
            refine AllReadyH.cons rfl (fun K hK => ?_) ?_
            · go_simp
              refine (cloneI s2 S.n2 t2 (lst S.n2 S.L2) _ (lst_len _ _).symm (li_lst (HS.out.below HB.out).s2) j2).mono ?_
              rintro e v2 ⟨a2, e2, rfl, hb, hc⟩
              have hz := hb.size
              have zz2 : Hid (v1.heap.size ≤ v2.heap.size) := Hid.mk hz
              have o2 : Hid (Ow v1.heap.size v2.heap.size v2 (lst S.n2 S.L2) a2) := Hid.mk hc
              have o1 := Hid.mk (o1.out.below hb)
              have HB := Hid.mk (below_then HB.out hb)
              have A := Hid.mk (blk_below A.out hb)
              clear hb hc hz y6 y7 y8 z6 z7 z8
              rw [lst_len]
              have y6 := blk_cell A.out 6
              have y7 := blk_cell A.out 7
              have y8 := blk_cell A.out 8
              simp only [List.getElem?_toArray, List.getElem?_cons_zero, List.getElem?_cons_succ] at y6 y7 y8
              have z6 := blk_unfrozen A.out 6
              have z7 := blk_unfrozen A.out 7
              have z8 := blk_unfrozen A.out 8
              refine hK.out _ _ ?_ (fun hHeld => ?_)
              · exact trivial
              clear hK K
              (try simp only [Act.put, List.setIfInBounds_toArray, List.set_cons_zero, List.set_cons_succ, List.getElem_toArray, List.getElem_cons_zero, List.getElem_cons_succ])
              refine wpAnyH_ready (rs := [8]) (by kernel_rfl) (by simp) ?_
              refine AllReadyH.cons rfl (fun K hK => ?_) ?_
              · go_simp
                refine (cloneI s3 S.n3 t3 (lst S.n3 S.L3) _ (lst_len _ _).symm (li_lst (HS.out.below HB.out).s3) j3).mono ?_
                rintro e v3 ⟨a3, e3, rfl, hb, hc⟩
                have hz := hb.size
                have zz3 : Hid (v2.heap.size ≤ v3.heap.size) := Hid.mk hz
                have o3 : Hid (Ow v2.heap.size v3.heap.size v3 (lst S.n3 S.L3) a3) := Hid.mk hc
                have o1 := Hid.mk (o1.out.below hb)
                have o2 := Hid.mk (o2.out.below hb)
                have HB := Hid.mk (below_then HB.out hb)
                have A := Hid.mk (blk_below A.out hb)
                clear hb hc hz y6 y7 y8 z6 z7 z8
                rw [lst_len]
                have y6 := blk_cell A.out 6
                have y7 := blk_cell A.out 7
                have y8 := blk_cell A.out 8
                simp only [List.getElem?_toArray, List.getElem?_cons_zero, List.getElem?_cons_succ] at y6 y7 y8
                have z6 := blk_unfrozen A.out 6
                have z7 := blk_unfrozen A.out 7
                have z8 := blk_unfrozen A.out 8
                refine hK.out _ _ ?_ (fun hHeld => ?_)
                · exact trivial
                clear hK K
                (try simp only [Act.put, List.setIfInBounds_toArray, List.set_cons_zero, List.set_cons_succ, List.getElem_toArray, List.getElem_cons_zero, List.getElem_cons_succ])
                refine wpAnyH_ready (rs := [10]) (by kernel_rfl) (by simp) ?_
                refine AllReadyH.cons rfl (fun K hK => ?_) ?_
                · go_simp
                  refine hK.out _ _ ?_ (fun hHeld => ?_)
                  · exact trivial
                  clear hK K
                  (try simp only [Act.put, List.setIfInBounds_toArray, List.set_cons_zero, List.set_cons_succ, List.getElem_toArray, List.getElem_cons_zero, List.getElem_cons_succ])
                  refine wpAnyH_take (i := 11) (v := ?_) rfl (by kernel_rfl) (by kernel_rfl) (by kernel_rfl) (fun _ _ _ h => h) (Or.inl ⟨by rfl, ?_⟩) (by assumption) ?_
                  rotate_left
                  · intro w hSw; (try dsimp only at hSw); go_simp; (try with_reducible rfl)
                  rotate_left
                  simp only [Act.put, List.setIfInBounds_toArray, List.set_cons_zero, List.set_cons_succ, List.getElem_toArray, List.getElem_cons_zero, List.getElem_cons_succ]
                  refine wpAnyH_ready (rs := [12]) (by kernel_rfl) (by simp) ?_
                  refine AllReadyH.cons rfl (fun K hK => ?_) ?_
                  · go_simp
                    refine hK.out _ _ ?_ (fun hHeld => ?_)
                    · exact trivial
                    clear hK K
                    (try simp only [Act.put, List.setIfInBounds_toArray, List.set_cons_zero, List.set_cons_succ, List.getElem_toArray, List.getElem_cons_zero, List.getElem_cons_succ])
                    refine wpAnyH_take (i := 13) (v := ?_) rfl (by kernel_rfl) (by kernel_rfl) (by kernel_rfl) (fun _ _ _ h => h) (Or.inl ⟨by rfl, ?_⟩) (by assumption) ?_
                    rotate_left
                    · intro w hSw; (try dsimp only at hSw); go_simp; (try with_reducible rfl)
                    rotate_left
                    simp only [Act.put, List.setIfInBounds_toArray, List.set_cons_zero, List.set_cons_succ, List.getElem_toArray, List.getElem_cons_zero, List.getElem_cons_succ]
                    refine wpAnyH_ready (rs := [14]) (by kernel_rfl) (by simp) ?_
                    refine AllReadyH.cons rfl (fun K hK => ?_) ?_
                    · go_simp
                      refine hK.out _ _ ?_ (fun hHeld => ?_)
                      · exact trivial
                      clear hK K
                      (try simp only [Act.put, List.setIfInBounds_toArray, List.set_cons_zero, List.set_cons_succ, List.getElem_toArray, List.getElem_cons_zero, List.getElem_cons_succ])
                      refine wpAnyH_done (by kernel_rfl) ?_ _
                      go_wp2_with fail
                      go_meet
                      have A' := blk_set (blk_set (blk_set A.out 6 (.slice a1 S.n1 e1)) 7 (.slice a2 S.n2 e2)) 8 (.slice a3 S.n3 e3)
                      simp only [List.setIfInBounds_toArray, List.set_cons_zero, List.set_cons_succ] at A'
                      have q1 := zz1.out
                      have q2 := zz2.out
                      have q3 := zz3.out
                      exact ⟨a1, a2, a3, e1, e2, e3, v1.heap.size, v2.heap.size, Hid.mk A', Hid.mk (((HB.out.setCell (p := ⟨w.heap.size, 6, none⟩) (Nat.le_refl _) _).setCell (p := ⟨w.heap.size, 7, none⟩) (Nat.le_refl _) _).setCell (p := ⟨w.heap.size, 8, none⟩) (Nat.le_refl _) _), Hid.mk ⟨q1, q2, by rw [size_set, size_set, size_set]; exact q3⟩, Hid.mk (((o1.out.set (p := ⟨w.heap.size, 6, none⟩) (by show w.heap.size < _; omega) _).set (p := ⟨w.heap.size, 7, none⟩) (by show w.heap.size < _; omega) _).set (p := ⟨w.heap.size, 8, none⟩) (by show w.heap.size < _; omega) _), Hid.mk (((o2.out.set (p := ⟨w.heap.size, 6, none⟩) (by show w.heap.size < _; omega) _).set (p := ⟨w.heap.size, 7, none⟩) (by show w.heap.size < _; omega) _).set (p := ⟨w.heap.size, 8, none⟩) (by show w.heap.size < _; omega) _), Hid.mk (by rw [size_set, size_set, size_set]; exact ((o3.out.set (p := ⟨w.heap.size, 6, none⟩) (by show w.heap.size < _; omega) _).set (p := ⟨w.heap.size, 7, none⟩) (by show w.heap.size < _; omega) _).set (p := ⟨w.heap.size, 8, none⟩) (by show w.heap.size < _; omega) _)⟩
                    exact AllReadyH.nil
                  exact AllReadyH.nil
                exact AllReadyH.nil
              exact AllReadyH.nil
            exact AllReadyH.nil
          exact AllReadyH.nil
        exact AllReadyH.nil
      refine AllReadyH.cons rfl (fun K hK => ?_) ?_
      · go_simp
        refine hK.out _ _ ?_ (fun hHeld => ?_)
        · exact trivial
        clear hK K
        (try simp only [Act.put, List.setIfInBounds_toArray, List.set_cons_zero, List.set_cons_succ, List.getElem_toArray, List.getElem_cons_zero, List.getElem_cons_succ])
        refine wpAnyH_ready (rs := [1]) (by kernel_rfl) (by simp) ?_
        refine AllReadyH.cons rfl (fun K hK => ?_) ?_
        · go_simp
          refine hK.out _ _ ?_ (fun hHeld => ?_)
          · exact trivial
          clear hK K
          (try simp only [Act.put, List.setIfInBounds_toArray, List.set_cons_zero, List.set_cons_succ, List.getElem_toArray, List.getElem_cons_zero, List.getElem_cons_succ])
          refine wpAnyH_ready (rs := [2]) (by kernel_rfl) (by simp) ?_
          refine AllReadyH.cons rfl (fun K hK => ?_) ?_
          · go_simp
            refine (cloneI s1 S.n1 t1 (lst S.n1 S.L1) _ (lst_len _ _).symm (li_lst (HS.out.below HB.out).s1) j1).mono ?_
            rintro e v1 ⟨a1, e1, rfl, hb, hc⟩
            have hz := hb.size
            have zz1 : Hid (w.heap.size < v1.heap.size) := Hid.mk (Nat.lt_of_lt_of_le (blk_lt A.out) hz)
            have o1 : Hid (Ow (w.heap.size + 1) v1.heap.size v1 (lst S.n1 S.L1) a1) := Hid.mk (hc.imp id fun ⟨g, h1, h2, h3, h4⟩ => ⟨g, h1, Nat.le_trans (blk_lt A.out) h2, h3, h4⟩)
            have HB := Hid.mk (below_then HB.out hb)
            have A := Hid.mk (blk_below A.out hb)
            clear hb hc hz y6 y7 y8 z6 z7 z8
            rw [lst_len]
            have y6 := blk_cell A.out 6
            have y7 := blk_cell A.out 7
            have y8 := blk_cell A.out 8
            simp only [List.getElem?_toArray, List.getElem?_cons_zero, List.getElem?_cons_succ] at y6 y7 y8
            have z6 := blk_unfrozen A.out 6
            have z7 := blk_unfrozen A.out 7
            have z8 := blk_unfrozen A.out 8
            refine hK.out _ _ ?_ (fun hHeld => ?_)
            · exact trivial
            clear hK K
            (try simp only [Act.put, List.setIfInBounds_toArray, List.set_cons_zero, List.set_cons_succ, List.getElem_toArray, List.getElem_cons_zero, List.getElem_cons_succ])
            refine wpAnyH_take (i := 9) (v := ?_) rfl (by kernel_rfl) (by kernel_rfl) (by kernel_rfl) (fun _ _ _ h => h) (Or.inl ⟨by rfl, ?_⟩) (by assumption) ?_
            rotate_left
            · intro w hSw; (try dsimp only at hSw); go_simp; (try with_reducible rfl)
            rotate_left
            simp only [Act.put, List.setIfInBounds_toArray, List.set_cons_zero, List.set_cons_succ, List.getElem_toArray, List.getElem_cons_zero, List.getElem_cons_succ]
            refine wpAnyH_ready (rs := [5]) (by kernel_rfl) (by simp) ?_
            refine AllReadyH.cons rfl (fun K hK => ?_) ?_
            · go_simp
              refine (cloneI s2 S.n2 t2 (lst S.n2 S.L2) _ (lst_len _ _).symm (li_lst (HS.out.below HB.out).s2) j2).mono ?_
              rintro e v2 ⟨a2, e2, rfl, hb, hc⟩
              have hz := hb.size
              have zz2 : Hid (v1.heap.size ≤ v2.heap.size) := Hid.mk hz
              have o2 : Hid (Ow v1.heap.size v2.heap.size v2 (lst S.n2 S.L2) a2) := Hid.mk hc
              have o1 := Hid.mk (o1.out.below hb)
              have HB := Hid.mk (below_then HB.out hb)
              have A := Hid.mk (blk_below A.out hb)
              clear hb hc hz y6 y7 y8 z6 z7 z8
              rw [lst_len]
              have y6 := blk_cell A.out 6
              have y7 := blk_cell A.out 7
              have y8 := blk_cell A.out 8
              simp only [List.getElem?_toArray, List.getElem?_cons_zero, List.getElem?_cons_succ] at y6 y7 y8
              have z6 := blk_unfrozen A.out 6
              have z7 := blk_unfrozen A.out 7
              have z8 := blk_unfrozen A.out 8
              refine hK.out _ _ ?_ (fun hHeld => ?_)
              · exact trivial
              clear hK K
              (try simp only [Act.put, List.setIfInBounds_toArray, List.set_cons_zero, List.set_cons_succ, List.getElem_toArray, List.getElem_cons_zero, List.getElem_cons_succ])
              refine wpAnyH_ready (rs := [8]) (by kernel_rfl) (by simp) ?_
              refine AllReadyH.cons rfl (fun K hK => ?_) ?_
              · go_simp
                refine (cloneI s3 S.n3 t3 (lst S.n3 S.L3) _ (lst_len _ _).symm (li_lst (HS.out.below HB.out).s3) j3).mono ?_
                rintro e v3 ⟨a3, e3, rfl, hb, hc⟩
                have hz := hb.size
                have zz3 : Hid (v2.heap.size ≤ v3.heap.size) := Hid.mk hz
                have o3 : Hid (Ow v2.heap.size v3.heap.size v3 (lst S.n3 S.L3) a3) := Hid.mk hc
                have o1 := Hid.mk (o1.out.below hb)
                have o2 := Hid.mk (o2.out.below hb)
                have HB := Hid.mk (below_then HB.out hb)
                have A := Hid.mk (blk_below A.out hb)
                clear hb hc hz y6 y7 y8 z6 z7 z8
                rw [lst_len]
                have y6 := blk_cell A.out 6
                have y7 := blk_cell A.out 7
                have y8 := blk_cell A.out 8
                simp only [List.getElem?_toArray, List.getElem?_cons_zero, List.getElem?_cons_succ] at y6 y7 y8
                have z6 := blk_unfrozen A.out 6
                have z7 := blk_unfrozen A.out 7
                have z8 := blk_unfrozen A.out 8
                refine hK.out _ _ ?_ (fun hHeld => ?_)
                · exact trivial
                clear hK K
                (try simp only [Act.put, List.setIfInBounds_toArray, List.set_cons_zero, List.set_cons_succ, List.getElem_toArray, List.getElem_cons_zero, List.getElem_cons_succ])
                refine wpAnyH_ready (rs := [10]) (by kernel_rfl) (by simp) ?_
                refine AllReadyH.cons rfl (fun K hK => ?_) ?_
                · go_simp
                  refine hK.out _ _ ?_ (fun hHeld => ?_)
                  · exact trivial
                  clear hK K
                  (try simp only [Act.put, List.setIfInBounds_toArray, List.set_cons_zero, List.set_cons_succ, List.getElem_toArray, List.getElem_cons_zero, List.getElem_cons_succ])
                  refine wpAnyH_take (i := 11) (v := ?_) rfl (by kernel_rfl) (by kernel_rfl) (by kernel_rfl) (fun _ _ _ h => h) (Or.inl ⟨by rfl, ?_⟩) (by assumption) ?_
                  rotate_left
                  · intro w hSw; (try dsimp only at hSw); go_simp; (try with_reducible rfl)
                  rotate_left
                  simp only [Act.put, List.setIfInBounds_toArray, List.set_cons_zero, List.set_cons_succ, List.getElem_toArray, List.getElem_cons_zero, List.getElem_cons_succ]
                  refine wpAnyH_ready (rs := [12]) (by kernel_rfl) (by simp) ?_
                  refine AllReadyH.cons rfl (fun K hK => ?_) ?_
                  · go_simp
                    refine hK.out _ _ ?_ (fun hHeld => ?_)
                    · exact trivial
                    clear hK K
                    (try simp only [Act.put, List.setIfInBounds_toArray, List.set_cons_zero, List.set_cons_succ, List.getElem_toArray, List.getElem_cons_zero, List.getElem_cons_succ])
                    refine wpAnyH_take (i := 13) (v := ?_) rfl (by kernel_rfl) (by kernel_rfl) (by kernel_rfl) (fun _ _ _ h => h) (Or.inl ⟨by rfl, ?_⟩) (by assumption) ?_
                    rotate_left
                    · intro w hSw; (try dsimp only at hSw); go_simp; (try with_reducible rfl)
                    rotate_left
                    simp only [Act.put, List.setIfInBounds_toArray, List.set_cons_zero, List.set_cons_succ, List.getElem_toArray, List.getElem_cons_zero, List.getElem_cons_succ]
                    refine wpAnyH_ready (rs := [14]) (by kernel_rfl) (by simp) ?_
                    refine AllReadyH.cons rfl (fun K hK => ?_) ?_
                    · go_simp
                      refine hK.out _ _ ?_ (fun hHeld => ?_)
                      · exact trivial
                      clear hK K
                      (try simp only [Act.put, List.setIfInBounds_toArray, List.set_cons_zero, List.set_cons_succ, List.getElem_toArray, List.getElem_cons_zero, List.getElem_cons_succ])
                      refine wpAnyH_done (by kernel_rfl) ?_ _
                      go_wp2_with fail
                      go_meet
                      have A' := blk_set (blk_set (blk_set A.out 6 (.slice a1 S.n1 e1)) 7 (.slice a2 S.n2 e2)) 8 (.slice a3 S.n3 e3)
                      simp only [List.setIfInBounds_toArray, List.set_cons_zero, List.set_cons_succ] at A'
                      have q1 := zz1.out
                      have q2 := zz2.out
                      have q3 := zz3.out
                      exact ⟨a1, a2, a3, e1, e2, e3, v1.heap.size, v2.heap.size, Hid.mk A', Hid.mk (((HB.out.setCell (p := ⟨w.heap.size, 6, none⟩) (Nat.le_refl _) _).setCell (p := ⟨w.heap.size, 7, none⟩) (Nat.le_refl _) _).setCell (p := ⟨w.heap.size, 8, none⟩) (Nat.le_refl _) _), Hid.mk ⟨q1, q2, by rw [size_set, size_set, size_set]; exact q3⟩, Hid.mk (((o1.out.set (p := ⟨w.heap.size, 6, none⟩) (by show w.heap.size < _; omega) _).set (p := ⟨w.heap.size, 7, none⟩) (by show w.heap.size < _; omega) _).set (p := ⟨w.heap.size, 8, none⟩) (by show w.heap.size < _; omega) _), Hid.mk (((o2.out.set (p := ⟨w.heap.size, 6, none⟩) (by show w.heap.size < _; omega) _).set (p := ⟨w.heap.size, 7, none⟩) (by show w.heap.size < _; omega) _).set (p := ⟨w.heap.size, 8, none⟩) (by show w.heap.size < _; omega) _), Hid.mk (by rw [size_set, size_set, size_set]; exact ((o3.out.set (p := ⟨w.heap.size, 6, none⟩) (by show w.heap.size < _; omega) _).set (p := ⟨w.heap.size, 7, none⟩) (by show w.heap.size < _; omega) _).set (p := ⟨w.heap.size, 8, none⟩) (by show w.heap.size < _; omega) _)⟩
                    exact AllReadyH.nil
                  exact AllReadyH.nil
                exact AllReadyH.nil
              exact AllReadyH.nil
            exact AllReadyH.nil
          exact AllReadyH.nil
        exact AllReadyH.nil
      exact AllReadyH.nil
    exact AllReadyH.nil
  case rest =>
    obtain ⟨a1, a2, a3, e1, e2, e3, E1, E2, A, HB, hE, o1, o2, o3⟩ := hcut
    have y0 := blk_cell A.out 0
    have y1 := blk_cell A.out 1
    have y2 := blk_cell A.out 2
    have y3 := blk_cell A.out 3
    have y4 := blk_cell A.out 4
    have y5 := blk_cell A.out 5
    have y6 := blk_cell A.out 6
    have y7 := blk_cell A.out 7
    have y8 := blk_cell A.out 8
    simp only [List.getElem?_toArray, List.getElem?_cons_zero, List.getElem?_cons_succ] at y0 y1 y2 y3 y4 y5 y6 y7 y8
    go_wp2
    go_ret
    clear y0 y1 y2 y3 y4 y5 y6 y7 y8
    exact ⟨wc, a1, a2, a3, e1, e2, e3, E1, E2, rfl, rfl, HB.out, hE.out, o1.out, o2.out, o3.out⟩
end Go.Proofs.YtgooegcmgejfpaaGreatDoor.Mac
