import Derived.Test.YtdhnjkcebaahcaaGreatDoorCurI
namespace Go.Proofs.YtdhnjkcebaahcaaGreatDoor.Parse
open Go Go.RowKit Go.Proofs.YtdhnjkcebaahcaaGreatDoor.Mem
set_option linter.unusedVariables false
set_option linter.unusedSimpArgs false
attribute [local go_sem ↓] Go.wp_at_zero Go.wp_at_succ

def numV (f : List UInt8) : Int := if isNum f then num f else 0
theorem num_bad {f : List UInt8} (h : isNum f = false) (bad : Bool) : numV f = 0 ∧ (bad || !isNum f) = true := by unfold numV; rw [h]; simp
theorem num_good {f : List UInt8} (h : isNum f = true) (bad : Bool) : numV f = num f ∧ (bad || !isNum f) = bad := by unfold numV; rw [h]; simp
theorem signed_iff {f : List UInt8} : (signed f = true ↔ f.head? = some 45) := by unfold signed; simp
theorem num_cases1 {f : List UInt8} (hs : plain (unsigned f) = false) : isNum f = false := by
  cases h : signed f with
  | true =>
    have := signed_iff.1 h
    unfold unsigned at hs; rw [h] at hs
    rw [(isNum_neg this).1]; simp at hs; rw [hs]; rfl
  | false =>
    have : f.head? ≠ some 45 := fun e => by rw [signed_iff.2 e] at h; cases h
    unfold unsigned at hs; rw [h] at hs
    rw [(isNum_pos this).1]; simpa using hs
theorem num_cases2 {f : List UInt8} (h : signed f = true) (hs : plain (unsigned f) = true) (hd : dec (unsigned f) = 0) : isNum f = false := by
  have := signed_iff.1 h
  unfold unsigned at hs hd; rw [h] at hs hd
  rw [(isNum_neg this).1]; simp at hs hd; rw [hs, hd]; rfl
theorem num_cases3 {f : List UInt8} (h : signed f = true) (hs : plain (unsigned f) = true) (hd : ¬ dec (unsigned f) = 0) : isNum f = true ∧ num f = - dec (unsigned f) := by
  have := signed_iff.1 h
  unfold unsigned at hs hd ⊢; rw [h] at hs hd ⊢
  simp at hs hd ⊢
  rw [(isNum_neg this).1, (isNum_neg this).2, hs]
  simpa using hd
theorem num_cases4 {f : List UInt8} (h : signed f = false) (hs : plain (unsigned f) = true) : isNum f = true ∧ num f = dec (unsigned f) := by
  have : f.head? ≠ some 45 := fun e => by rw [signed_iff.2 e] at h; cases h
  unfold unsigned at hs ⊢; rw [h] at hs ⊢
  simp at hs ⊢
  exact ⟨by rw [(isNum_pos this).1]; exact hs, (isNum_pos this).2⟩
theorem plain_bound {d : List UInt8} (h : plain d = true) : 0 ≤ dec d ∧ dec d ≤ 1000000000 := by
  simp only [plain, Bool.and_eq_true, decide_eq_true_eq] at h
  have := dec_small (d := d) (k := d.length) h.1.1.2 (by rw [List.take_length]; exact h.2)
  rwa [List.take_length] at this
theorem tl_len (sep : UInt8) (bs : List UInt8) : (tl sep bs).length ≤ bs.length := by unfold tl; rw [List.length_drop]; omega

set_option maxHeartbeats 1600000 in
set_option maxRecDepth 1000000 in
theorem numberI (B g : Nat) (bs : List UInt8) (bad : Bool) (w : World) (hB : B ≤ g) (hBs : B ≤ w.heap.size) (h : Cur B g w bs bad) (hl : bs.length ≤ 1000000) :
    Calls Tryz.prog 80 #[.pointer (some ⟨g, 0, none⟩)] w fun e w' => e = .returned (.int .i64 (numV (hd 32 bs))) ∧ Cur B g w' (tl 32 bs) (bad || !isNum (hd 32 bs)) ∧ w.grownBy w' (some g) := by
  have HCur := Hid.mk h
  clear h
  cases hp : plain (unsigned (hd 32 bs)) with
  | false =>
    have HV := Hid.mk (num_bad (num_cases1 hp) bad)
    have HP : Hid (plainR (unsigned (hd 32 bs)) = .tuple #[.int .i64 0, .bool false]) := plainR_bad hp
    obtain ⟨sg, hs⟩ : ∃ sg, signed (hd 32 bs) = sg := ⟨_, rfl⟩
    have HS := Hid.mk hs
    clear hp hs
    go_enter Tryz.func80, Tryz.ntmps80
    go_wp2_with (first
      | (go_at_call 51; refine (fieldI B g bs bad _ hB HCur.out hl).mono ?_; rintro e w1 ⟨⟨v1, rfl, t1⟩, c1, g1⟩; have T1 : Hid (Txt B (w1.alloc (.cells #[.int .u8 45] 5)) v1 (hd 32 bs)) := t1.below ((Below.refl _ _).alloc (Nat.le_trans hBs g1.size) _); have HA : Hid (Below w1.heap.size w1 (w1.alloc (.cells #[.int .u8 45] 5))) := (Below.refl _ _).alloc (Nat.le_refl _) _; have C1 : Hid (Cur B g (w1.alloc (.cells #[.int .u8 45] 5)) (tl 32 bs) bad) := c1.keep (Nat.le_trans hBs g1.size) HA.out; have G1 : Hid (w.grownBy (w1.alloc (.cells #[.int .u8 45] 5)) (some g)) := gb_then g1 (gb_below HA.out); clear t1 c1 g1)
      | (go_at_call 88; refine (cutPrefI B v1 (hd 32 bs) w1.heap.size 1 _ T1.out (by simp)).mono ?_; rintro e w2 ⟨⟨v2, rfl, t2⟩, rfl⟩; obtain ⟨p2, c2, rfl, hc2, hp2, hr2⟩ := t2.rd; have R2 := Hid.mk hr2; clear t2 hr2 hp2 hc2; rw [HS.out])
      | (go_at_call 89; refine (plainI _ (unsigned (hd 32 bs)) _ c2 _ rfl R2.out).mono ?_; rintro e w3 ⟨rfl, rfl⟩; rw [HP.out])
      | (go_at_call 90; refine (failI B g (tl 32 bs) bad _ hB C1.out).mono ?_; rintro e w4 ⟨rfl, c4, g4⟩; have C4 := Hid.mk c4; have G4 := Hid.mk (gb_then G1.out g4); clear c4 g4)
)
    go_ret
    rw [HV.out.1, HV.out.2]
    exact ⟨rfl, C4.out, G4.out⟩
  | true =>
    obtain ⟨D, hD⟩ : ∃ D, D = dec (unsigned (hd 32 bs)) := ⟨_, rfl⟩
    have HP : Hid (plainR (unsigned (hd 32 bs)) = .tuple #[.int .i64 D, .bool true]) := by unfold Hid plainR; rw [hp, hD]; rfl
    have hb := plain_bound hp
    rw [← hD] at hb
    obtain ⟨hb0, hb1⟩ := hb
    cases hs : signed (hd 32 bs) with
    | false =>
      have HS := Hid.mk hs
      have HV0 := num_cases4 hs hp
      have HV1 := num_good HV0.1 bad
      rw [HV0.2, ← hD] at HV1
      have HV := Hid.mk HV1
      clear hp hs hD HV0 HV1
      go_enter Tryz.func80, Tryz.ntmps80
      go_wp2_with (first
        | (go_at_call 51; refine (fieldI B g bs bad _ hB HCur.out hl).mono ?_; rintro e w1 ⟨⟨v1, rfl, t1⟩, c1, g1⟩; have T1 : Hid (Txt B (w1.alloc (.cells #[.int .u8 45] 5)) v1 (hd 32 bs)) := t1.below ((Below.refl _ _).alloc (Nat.le_trans hBs g1.size) _); have HA : Hid (Below w1.heap.size w1 (w1.alloc (.cells #[.int .u8 45] 5))) := (Below.refl _ _).alloc (Nat.le_refl _) _; have C1 : Hid (Cur B g (w1.alloc (.cells #[.int .u8 45] 5)) (tl 32 bs) bad) := c1.keep (Nat.le_trans hBs g1.size) HA.out; have G1 : Hid (w.grownBy (w1.alloc (.cells #[.int .u8 45] 5)) (some g)) := gb_then g1 (gb_below HA.out); clear t1 c1 g1)
        | (go_at_call 88; refine (cutPrefI B v1 (hd 32 bs) w1.heap.size 1 _ T1.out (by simp)).mono ?_; rintro e w2 ⟨⟨v2, rfl, t2⟩, rfl⟩; obtain ⟨p2, c2, rfl, hc2, hp2, hr2⟩ := t2.rd; have R2 := Hid.mk hr2; clear t2 hr2 hp2 hc2; rw [HS.out])
        | (go_at_call 89; refine (plainI _ (unsigned (hd 32 bs)) _ c2 _ rfl R2.out).mono ?_; rintro e w3 ⟨rfl, rfl⟩; rw [HP.out])
)
      go_ret
      rw [HV.out.1, HV.out.2]
      exact ⟨rfl, C1.out, G1.out⟩
    | true =>
      have HS := Hid.mk hs
      have v1 : IntKind.i64.wrap (-D) = -D := by rw [IntKind.wrap_i64]; omega
      by_cases h0 : D = 0
      · have HV := Hid.mk (num_bad (num_cases2 hs hp (by rw [← hD]; exact h0)) bad)
        have d0 : (D == 0) = true := by simpa using h0
        have h0' := Hid.mk h0
        clear hp hs hD h0
        go_enter Tryz.func80, Tryz.ntmps80
        go_wp2_with (first
          | (go_at_call 51; refine (fieldI B g bs bad _ hB HCur.out hl).mono ?_; rintro e w1 ⟨⟨v1, rfl, t1⟩, c1, g1⟩; have T1 : Hid (Txt B (w1.alloc (.cells #[.int .u8 45] 5)) v1 (hd 32 bs)) := t1.below ((Below.refl _ _).alloc (Nat.le_trans hBs g1.size) _); have HA : Hid (Below w1.heap.size w1 (w1.alloc (.cells #[.int .u8 45] 5))) := (Below.refl _ _).alloc (Nat.le_refl _) _; have C1 : Hid (Cur B g (w1.alloc (.cells #[.int .u8 45] 5)) (tl 32 bs) bad) := c1.keep (Nat.le_trans hBs g1.size) HA.out; have G1 : Hid (w.grownBy (w1.alloc (.cells #[.int .u8 45] 5)) (some g)) := gb_then g1 (gb_below HA.out); clear t1 c1 g1)
          | (go_at_call 88; refine (cutPrefI B v1 (hd 32 bs) w1.heap.size 1 _ T1.out (by simp)).mono ?_; rintro e w2 ⟨⟨v2, rfl, t2⟩, rfl⟩; obtain ⟨p2, c2, rfl, hc2, hp2, hr2⟩ := t2.rd; have R2 := Hid.mk hr2; clear t2 hr2 hp2 hc2; rw [HS.out])
          | (go_at_call 89; refine (plainI _ (unsigned (hd 32 bs)) _ c2 _ rfl R2.out).mono ?_; rintro e w3 ⟨rfl, rfl⟩; rw [HP.out])
          | (go_at_call 90; refine (failI B g (tl 32 bs) bad _ hB C1.out).mono ?_; rintro e w4 ⟨rfl, c4, g4⟩; have C4 := Hid.mk c4; have G4 := Hid.mk (gb_then G1.out g4); clear c4 g4)
)
        go_ret
        rw [HV.out.1, HV.out.2]
        exact ⟨rfl, C4.out, G4.out⟩
      · have d0 : (D == 0) = false := by simpa using h0
        have HV0 := num_cases3 hs hp (by rw [← hD]; exact h0)
        have HV1 := num_good HV0.1 bad
        rw [HV0.2, ← hD] at HV1
        have HV := Hid.mk HV1
        clear hp hs hD HV0 HV1 h0
        go_enter Tryz.func80, Tryz.ntmps80
        go_wp2_with (first
          | (go_at_call 51; refine (fieldI B g bs bad _ hB HCur.out hl).mono ?_; rintro e w1 ⟨⟨v1, rfl, t1⟩, c1, g1⟩; have T1 : Hid (Txt B (w1.alloc (.cells #[.int .u8 45] 5)) v1 (hd 32 bs)) := t1.below ((Below.refl _ _).alloc (Nat.le_trans hBs g1.size) _); have HA : Hid (Below w1.heap.size w1 (w1.alloc (.cells #[.int .u8 45] 5))) := (Below.refl _ _).alloc (Nat.le_refl _) _; have C1 : Hid (Cur B g (w1.alloc (.cells #[.int .u8 45] 5)) (tl 32 bs) bad) := c1.keep (Nat.le_trans hBs g1.size) HA.out; have G1 : Hid (w.grownBy (w1.alloc (.cells #[.int .u8 45] 5)) (some g)) := gb_then g1 (gb_below HA.out); clear t1 c1 g1)
          | (go_at_call 88; refine (cutPrefI B v1 (hd 32 bs) w1.heap.size 1 _ T1.out (by simp)).mono ?_; rintro e w2 ⟨⟨v2, rfl, t2⟩, rfl⟩; obtain ⟨p2, c2, rfl, hc2, hp2, hr2⟩ := t2.rd; have R2 := Hid.mk hr2; clear t2 hr2 hp2 hc2; rw [HS.out])
          | (go_at_call 89; refine (plainI _ (unsigned (hd 32 bs)) _ c2 _ rfl R2.out).mono ?_; rintro e w3 ⟨rfl, rfl⟩; rw [HP.out])
)
        go_ret
        rw [HV.out.1, HV.out.2]
        exact ⟨rfl, C1.out, G1.out⟩
end Go.Proofs.YtdhnjkcebaahcaaGreatDoor.Parse
