import Derived.Test.YtefkdpppcjlflaaGreatDoorIt37
import Derived.Test.YtefkdpppcjlflaaGreatDoorIt11
namespace Go.Proofs.YtefkdpppcjlflaaGreatDoor.Parse
open Go Go.RowKit Go.Proofs.YtefkdpppcjlflaaGreatDoor.Mem Go.Proofs.YtefkdpppcjlflaaGreatDoor.Valid
set_option linter.unusedVariables false
set_option linter.unusedSimpArgs false
attribute [local go_sem ↓] Go.wp_at_zero Go.wp_at_succ

/-- What a line's values give: code and rows. -/
def valC (k : Int) (bs : List UInt8) (s : Acc) : Int × Acc := if k = 0 then (codeV bs s, (addV s (vehR bs)).2) else if k = 1 then (codeQ bs s, (addQ s (reqR bs)).2) else (codeR bs s, (addR s (rdR bs)).2)
structure Small (s : Acc) : Prop where
  v : s.V.length ≤ 64
  q : s.Q.length ≤ 1000
  r : s.R.length ≤ 4000
def RdrE (B r : Nat) (w : World) (s : Acc) (k : Int) : Prop := ∃ v1 v2 v3, Rdr B r w v1 v2 v3 s k
set_option maxHeartbeats 1600000 in
set_option maxRecDepth 1000000 in
theorem valuesI (B r g : Nat) (bs : List UInt8) (w : World) (v1 v2 v3 : Value) (s : Acc) (k : Int) (hB : B ≤ g) (hBr : B ≤ r) (hBs : B ≤ w.heap.size) (hne : r ≠ g) (h : Cur B g w bs false) (hr : Rdr B r w v1 v2 v3 s k) (hl : bs.length ≤ 1000000) (hs : Small s) (hk : k = 0 ∨ k = 1 ∨ k = 2) :
    Calls Tryz.prog 40 #[.pointer (some ⟨r, 0, none⟩), .pointer (some ⟨g, 0, none⟩)] w fun e w' => e = .returned (evC (valC k bs s).1) ∧ ((valC k bs s).1 = 0 → RdrE B r w' (valC k bs s).2 k) ∧ Below B w w' := by
  have x3 : w.cell? ⟨r, 3, none⟩ = some (.int .i64 k) := (blk_cell hr.blk 3).trans rfl
  rcases hk with hk | hk | hk
  · have HC := Hid.mk (addVI B r g bs w v1 v2 v3 s k hB hBr hBs hne h hr hl hs.v)
    have HV : Hid (valC k bs s = (codeV bs s, (addV s (vehR bs)).2)) := by unfold Hid valC; rw [if_pos hk]
    subst hk
    clear h hr
    go_enter Tryz.func40, Tryz.ntmps40
    go_wp2_with (go_at_call 55; refine HC.out.mono ?_; rintro e w1 ⟨rfl, h1, b1⟩; have H1 := Hid.mk h1; have B1 := Hid.mk b1; clear h1 b1)
    go_ret
    rw [HV.out]
    exact ⟨rfl, fun h => (by obtain ⟨u, hu⟩ := H1.out h; exact ⟨_, _, _, hu⟩), B1.out⟩
  · have HC := Hid.mk (addQI B r g bs w v1 v2 v3 s k hB hBr hBs hne h hr hl hs.q)
    have HV : Hid (valC k bs s = (codeQ bs s, (addQ s (reqR bs)).2)) := by unfold Hid valC; rw [if_neg (by omega), if_pos hk]
    subst hk
    clear h hr
    go_enter Tryz.func40, Tryz.ntmps40
    go_wp2_with (go_at_call 56; refine HC.out.mono ?_; rintro e w1 ⟨rfl, h1, b1⟩; have H1 := Hid.mk h1; have B1 := Hid.mk b1; clear h1 b1)
    go_ret
    rw [HV.out]
    exact ⟨rfl, fun h => (by obtain ⟨u, hu⟩ := H1.out h; exact ⟨_, _, _, hu⟩), B1.out⟩
  · have HC := Hid.mk (addRI B r g bs w v1 v2 v3 s k hB hBr hBs hne h hr hl hs.v hs.q hs.r)
    have HV : Hid (valC k bs s = (codeR bs s, (addR s (rdR bs)).2)) := by unfold Hid valC; rw [if_neg (by omega), if_neg (by omega)]
    subst hk
    clear h hr
    go_enter Tryz.func40, Tryz.ntmps40
    go_wp2_with (go_at_call 57; refine HC.out.mono ?_; rintro e w1 ⟨rfl, h1, b1⟩; have H1 := Hid.mk h1; have B1 := Hid.mk b1; clear h1 b1)
    go_ret
    rw [HV.out]
    exact ⟨rfl, fun h => (by obtain ⟨u, hu⟩ := H1.out h; exact ⟨_, _, _, hu⟩), B1.out⟩

/-- What a line gives, in the program's order. -/
def lineC (k : Int) (ln : List UInt8) (s : Acc) : Int × Acc := if headC ln k = 0 then valC (kI (hd 32 ln)) (tl 32 ln) s else (headC ln k, s)
def textC (k : Int) (bs : List UInt8) (s : Acc) : Int × Acc := if 10 ∈ bs then lineC k (hd 10 bs) s else (2, s)
theorem kI_cases {ln : List UInt8} {k : Int} (h : headC ln k = 0) : kI (hd 32 ln) = 0 ∨ kI (hd 32 ln) = 1 ∨ kI (hd 32 ln) = 2 := by
  unfold headC at h
  by_cases h3 : kI (hd 32 ln) = 3
  · rw [if_pos h3] at h; omega
  · unfold kI at h3 ⊢
    split
    · simp
    · split
      · simp
      · split
        · simp
        · rename_i a b c
          simp [a, b, c] at h3
theorem hd_len (sep : UInt8) (bs : List UInt8) : (hd sep bs).length ≤ bs.length := by
  unfold hd
  exact (List.takeWhile_prefix (l := bs) (fun b => b != sep)).length_le
theorem codes_V (bs : List UInt8) (s : Acc) : codeV bs s = 0 ∨ codeV bs s = 6 ∨ codeV bs s = 7 ∨ codeV bs s = 9 := by
  unfold codeV addV
  split
  · simp
  · split
    · simp
    · split <;> simp
theorem codes_Q (bs : List UInt8) (s : Acc) : codeQ bs s = 0 ∨ codeQ bs s = 6 ∨ codeQ bs s = 7 ∨ codeQ bs s = 9 := by
  unfold codeQ addQ
  split
  · simp
  · split
    · simp
    · split <;> simp
theorem codes_R (bs : List UInt8) (s : Acc) : codeR bs s = 0 ∨ codeR bs s = 6 ∨ codeR bs s = 7 ∨ codeR bs s = 8 ∨ codeR bs s = 9 := by
  unfold codeR addR
  split
  · simp
  · split
    · simp
    · split
      · simp
      · split <;> simp
theorem evC_pos {c : Int} (h : ¬ c = 0) : evC c = .iface 64 (.agg #[.int .i64 c]) := by unfold evC; rw [if_neg h]; rfl

set_option maxHeartbeats 1600000 in
set_option maxRecDepth 1000000 in
theorem readI (B r : Nat) (v : Value) (bs : List UInt8) (w : World) (s : Acc) (k : Int) (hBr : B ≤ r) (hBs : B ≤ w.heap.size) (ht : Txt B w v bs) (hr : RdrE B r w s k) (hl : bs.length ≤ 1000000) (hs : Small s) :
    Calls Tryz.prog 22 #[.pointer (some ⟨r, 0, none⟩), v] w fun e w' => ∃ u, e = .returned (.tuple #[u, evC (textC k bs s).1]) ∧ ((textC k bs s).1 = 0 → Txt B w' u (tl 10 bs) ∧ RdrE B r w' (textC k bs s).2 (kI (hd 32 (hd 10 bs)))) ∧ Below B w w' := by
  obtain ⟨v1, v2, v3, hr⟩ := hr
  have hrl := blk_lt hr.blk
  have HR := Hid.mk hr
  have HL := Hid.mk hl
  have HT : Hid (Txt B (w.alloc (.cells #[.int .u8 10] 5)) v bs) := ht.below ((Below.refl _ _).alloc hBs _)
  have HC := Hid.mk (cutI B v bs 10 10 w.heap.size 1 (w.alloc (.cells #[.int .u8 10] 5)) HT.out rfl (by simp) hl)
  have HA : Hid (Below w.heap.size w (w.alloc (.cells #[.int .u8 10] 5))) := (Below.refl _ _).alloc (Nat.le_refl _) _
  clear hr ht hl
  by_cases hm : (10 : UInt8) ∈ bs
  · have HM : Hid (decide ((10 : UInt8) ∈ bs) = true) := by simpa [Hid] using hm
    have HX : Hid (textC k bs s = lineC k (hd 10 bs) s) := by unfold Hid textC; rw [if_pos hm]
    clear hm
    by_cases hh : headC (hd 10 bs) k = 0
    · have HX2 : Hid (textC k bs s = valC (kI (hd 32 (hd 10 bs))) (tl 32 (hd 10 bs)) s) := by unfold Hid; rw [HX.out]; unfold lineC; rw [if_pos hh]
      have HH := Hid.mk hh
      have HK := Hid.mk (kI_cases hh)
      have HE : Hid (evC (headC (hd 10 bs) k) = .nilIface) := by unfold Hid evC; rw [if_pos hh]
      clear hh
      go_enter Tryz.func22, Tryz.ntmps22
      go_wp2_with (first
        | (go_at_call 38; refine HC.out.mono ?_; rintro e w1 ⟨⟨u1, u2, rfl, t1, t2⟩, hw⟩; rw [HM.out]; obtain ⟨p1, n1, c1, rfl⟩ := t1.shape; have T1 := Hid.mk t1; have T2 := Hid.mk t2; have HW : Hid (Below w.heap.size w w1) := (by obtain ⟨q, rfl⟩ := hw; exact below_drewN' HA.out q); have BL : Hid (B ≤ w1.heap.size) := Nat.le_trans hBs HW.out.size; have RN : Hid (r ≠ w1.heap.size) := Nat.ne_of_lt (Nat.lt_of_lt_of_le hrl HW.out.size); clear hw t1 t2)
        | (go_at_call 39; refine (enterI B r w1.heap.size (hd 10 bs) _ v1 v2 v3 s k BL.out hBr (Nat.le_trans BL.out (by simp)) RN.out ⟨_, blk_new _ _, T1.out.below ((Below.refl _ _).alloc BL.out _)⟩ ((HR.out.below HW.out).below ((Below.refl _ _).alloc (Nat.le_refl _) _)) (Nat.le_trans (hd_len 10 bs) HL.out)).mono ?_; rintro e w2 ⟨rfl, c2, b2⟩; have C2 := Hid.mk c2; have B12 : Hid (Below B w1 w2) := ((Below.refl _ _).alloc BL.out _).trans b2; have B2 : Hid (Below B w w2) := (HW.out.mono hBs).trans B12.out; clear c2 b2; rw [HE.out])
        | (go_at_call 40; refine (valuesI B r w1.heap.size (tl 32 (hd 10 bs)) _ v1 v2 v3 s _ BL.out hBr (Nat.le_trans hBs B2.out.size) RN.out (C2.out HH.out).1 (C2.out HH.out).2 (Nat.le_trans (tl_len 32 _) (Nat.le_trans (hd_len 10 bs) HL.out)) hs HK.out).mono ?_; rintro e w3 ⟨rfl, h3, b3⟩; have H3 := Hid.mk h3; have B3 : Hid (Below B w w3) := B2.out.trans b3; have BX : Hid (Below B w1 w3) := B12.out.trans b3; clear h3 b3))
      go_ret2
      rw [HX2.out]
      exact ⟨_, rfl, fun h0 => ⟨T2.out.below BX.out, H3.out h0⟩, B3.out⟩
    · have HX2 : Hid (textC k bs s = (headC (hd 10 bs) k, s)) := by unfold Hid; rw [HX.out]; unfold lineC; rw [if_neg hh]
      have HH := Hid.mk hh
      have HE := Hid.mk (evC_pos hh)
      clear hh
      go_enter Tryz.func22, Tryz.ntmps22
      go_wp2_with (first
        | (go_at_call 38; refine HC.out.mono ?_; rintro e w1 ⟨⟨u1, u2, rfl, t1, t2⟩, hw⟩; rw [HM.out]; obtain ⟨p1, n1, c1, rfl⟩ := t1.shape; have T1 := Hid.mk t1; have T2 := Hid.mk t2; have HW : Hid (Below w.heap.size w w1) := (by obtain ⟨q, rfl⟩ := hw; exact below_drewN' HA.out q); have BL : Hid (B ≤ w1.heap.size) := Nat.le_trans hBs HW.out.size; have RN : Hid (r ≠ w1.heap.size) := Nat.ne_of_lt (Nat.lt_of_lt_of_le hrl HW.out.size); clear hw t1 t2)
        | (go_at_call 39; refine (enterI B r w1.heap.size (hd 10 bs) _ v1 v2 v3 s k BL.out hBr (Nat.le_trans BL.out (by simp)) RN.out ⟨_, blk_new _ _, T1.out.below ((Below.refl _ _).alloc BL.out _)⟩ ((HR.out.below HW.out).below ((Below.refl _ _).alloc (Nat.le_refl _) _)) (Nat.le_trans (hd_len 10 bs) HL.out)).mono ?_; rintro e w2 ⟨rfl, c2, b2⟩; have C2 := Hid.mk c2; have B12 : Hid (Below B w1 w2) := ((Below.refl _ _).alloc BL.out _).trans b2; have B2 : Hid (Below B w w2) := (HW.out.mono hBs).trans B12.out; clear c2 b2; rw [HE.out]))
      go_ret2
      rw [HX2.out]
      exact ⟨_, by rw [HE.out]; rfl, fun h0 => absurd h0 HH.out, B2.out⟩
  · have HM : Hid (decide ((10 : UInt8) ∈ bs) = false) := by simpa [Hid] using hm
    have HX : Hid (textC k bs s = (2, s)) := by unfold Hid textC; rw [if_neg hm]
    clear hm
    go_enter Tryz.func22, Tryz.ntmps22
    go_wp2_with (go_at_call 38; refine HC.out.mono ?_; rintro e w1 ⟨⟨u1, u2, rfl, t1, t2⟩, hw⟩; rw [HM.out]; have HW : Hid (Below w.heap.size w w1) := (by obtain ⟨q, rfl⟩ := hw; exact below_drewN' HA.out q); clear hw t1 t2)
    go_ret2
    rw [HX.out]
    exact ⟨_, rfl, fun h => by simp at h, HW.out.mono hBs⟩
end Go.Proofs.YtefkdpppcjlflaaGreatDoor.Parse
namespace Go.Proofs.YtefkdpppcjlflaaGreatDoor.Parse
open Go Go.RowKit Go.Proofs.YtefkdpppcjlflaaGreatDoor.Mem Go.Proofs.YtefkdpppcjlflaaGreatDoor.Valid
set_option linter.unusedVariables false

structure Res where
  (err line : Int) (acc : Acc)
def noAcc : Acc := ⟨[], [], []⟩
/-- The lines from number i on, over what came before. -/
def parseL : List (List UInt8) → Nat → Acc → Res
  | [], _, s => ⟨0, 0, s⟩
  | [l], i, s => if 0 < l.length then ⟨2, (i : Int) + 1, noAcc⟩ else ⟨0, 0, s⟩
  | l :: m :: r, i, s => if (lineF s l).1 = 0 then parseL (m :: r) (i + 1) (lineF s l).2 else ⟨(lineF s l).1, (i : Int) + 1, noAcc⟩
def parseT (t : List UInt8) : Res := if 300000 < t.length then ⟨1, 0, noAcc⟩ else parseL (split 10 t) 0 noAcc
theorem parseL_last {L : List (List UInt8)} {k : Nat} {s : Acc} (hk : k + 1 = L.length) : parseL (L.drop k) k s = if 0 < (L.getD k []).length then ⟨2, (k : Int) + 1, noAcc⟩ else ⟨0, 0, s⟩ := by
  have hlt : k < L.length := by omega
  have e : L.drop k = [L[k]] := by rw [List.drop_eq_getElem_cons hlt, List.drop_eq_nil_of_le (by omega)]
  rw [e, parseL]
  simp [List.getD, hlt]
theorem parseL_step {L : List (List UInt8)} {k : Nat} {s : Acc} (hk : k + 1 < L.length) : parseL (L.drop k) k s = if (lineF s (L.getD k [])).1 = 0 then parseL (L.drop (k + 1)) (k + 1) (lineF s (L.getD k [])).2 else ⟨(lineF s (L.getD k [])).1, (k : Int) + 1, noAcc⟩ := by
  have hlt : k < L.length := by omega
  have e2 : L.drop (k + 1) = L[k + 1] :: L.drop (k + 1 + 1) := List.drop_eq_getElem_cons hk
  have e : L.drop k = L[k] :: L.drop (k + 1) := List.drop_eq_getElem_cons hlt
  have g : L.getD k [] = L[k] := by simp [List.getD, hlt]
  rw [e, e2, parseL, g]
end Go.Proofs.YtefkdpppcjlflaaGreatDoor.Parse
