import Derived.Test.YtefkdpppcjlflaaGreatDoorIt05
import Derived.Test.YtefkdpppcjlflaaGreatDoorIt07
import Derived.Deep.RegionWith
namespace Go.Proofs.YtefkdpppcjlflaaGreatDoor.Draw
open Go Go.RowKit Go.Proofs.YtefkdpppcjlflaaGreatDoor.Mem Go.Proofs.YtefkdpppcjlflaaGreatDoor.Parse
set_option linter.unusedVariables false
set_option linter.unusedSimpArgs false
attribute [local go_sem ↓] Go.wp_at_zero Go.wp_at_succ

/-- The number that a draw begins with. -/
def startH (n : Nat) (bs : List UInt8) : Nat := bs.foldl (fun h b => (h * 131 + b.toNat + 7) % 1073741824) (12345 + n)
theorem start_lt (n : Nat) (bs : List UInt8) (hn : n ≤ 1048576) : startH n bs < 2147483648 := by
  have : ∀ (bs : List UInt8) (h : Nat), h < 2147483648 → bs.foldl (fun h b => (h * 131 + b.toNat + 7) % 1073741824) h < 2147483648 := by
    intro bs
    induction bs with
    | nil => intro h hh; exact hh
    | cons b r ih =>
      intro h hh
      rw [List.foldl_cons]
      refine ih _ ?_
      have := Nat.mod_lt (h * 131 + b.toNat + 7) (show 1073741824 > 0 by omega)
      omega
  exact this bs _ (by omega)
theorem start_take {n : Nat} {bs : List UInt8} {k : Nat} (hk : k < bs.length) : startH n (bs.take (k + 1)) = (startH n (bs.take k) * 131 + bs[k].toNat + 7) % 1073741824 := by
  unfold startH
  rw [List.take_succ_eq_append_getElem hk, List.foldl_append]
  rfl

set_option maxHeartbeats 1600000 in
set_option maxRecDepth 1000000 in
theorem newD (B : Nat) (v : Value) (bs : List UInt8) (w : World) (hBs : B ≤ w.heap.size) (ht : Txt B w v bs) (hl : bs.length ≤ 1048576) :
    Calls Tryz.prog 9 #[v] w fun e w' => ∃ g, e = .returned (.pointer (some ⟨g, 0, none⟩)) ∧ w.heap.size ≤ g ∧ DC B g w' bs ⟨0, startH bs.length bs⟩ ∧ Below w.heap.size w w' := by
  obtain ⟨p, c, rfl, hc, hp, hr⟩ := ht.rd
  have HR := Hid.mk hr
  have HT := Hid.mk ht
  obtain ⟨n, hn⟩ : ∃ n, n = bs.length := ⟨_, rfl⟩
  have HN := Hid.mk hn
  rw [← hn] at hl hc HT ⊢
  clear hr ht hp hn
  have e0 : IntKind.i64.wrap (12345 + (n : Int)) = 12345 + (n : Int) := by rw [IntKind.wrap_i64]; omega
  go_enter Tryz.func9, Tryz.ntmps9
  go_wp2
  go_loopw [3, 4] (fun h i wr => wr = w ∧ ∃ k : Nat, k ≤ n ∧ i = .int .i64 (k : Int) ∧ ∃ H : Nat, h = .int .i64 (H : Int) ∧ H < 2147483648 ∧ Hid (H = startH n (bs.take k))) (fun _ i _ => n - (intOf i).toNat)
  case atStart => exact ⟨rfl, 0, Nat.zero_le _, rfl, 12345 + n, by simp, by omega, by simp [Hid, startH]⟩
  case round =>
    obtain ⟨rfl, k, hk, rfl, H, rfl, hH, hHe⟩ := hrel
    by_cases hlt : k < n
    · have hkl : k < bs.length := by rw [← HN.out]; exact hlt
      obtain ⟨g, o, rfl, y1⟩ := HR.out k hkl
      obtain ⟨q, hq⟩ : ∃ q, q = bs[k].toNat := ⟨_, rfl⟩
      rw [← hq] at y1
      have hq8 : q < 256 := by rw [hq]; exact UInt8.toNat_lt _
      have k1 : (k : Int) < (n : Int) := by omega
      have e1 : IntKind.i64.wrap ((H : Int) * 131) = (H : Int) * 131 := by rw [IntKind.wrap_i64]; omega
      have e2 : IntKind.i64.wrap ((H : Int) * 131 + (q : Int)) = (H : Int) * 131 + (q : Int) := by rw [IntKind.wrap_i64]; omega
      have e3 : IntKind.i64.wrap ((H : Int) * 131 + (q : Int) + 7) = (H : Int) * 131 + (q : Int) + 7 := by rw [IntKind.wrap_i64]; omega
      obtain ⟨H', hH'⟩ : ∃ H', H' = (H * 131 + q + 7) % 1073741824 := ⟨_, rfl⟩
      have hlt2 : H' < 2147483648 := by have := Nat.mod_lt (H * 131 + q + 7) (show 1073741824 > 0 by omega); omega
      have ec : ((H * 131 + q + 7 : Nat) : Int) = (H : Int) * 131 + (q : Int) + 7 := by simp
      have e4 : bits BinOp.and IntKind.i64 ((H : Int) * 131 + (q : Int) + 7) 1073741823 = (H' : Int) := by
        rw [hH', ← ec]
        exact and_mask (a := H * 131 + q + 7) (k := 30) (by decide) (by omega)
      have hHe' : Hid (H' = startH n (bs.take (k + 1))) := by unfold Hid; rw [start_take hkl, ← hHe.out, hH', hq]
      have e5 : IntKind.i64.wrap ((k : Int) + 1) = (k : Int) + 1 := by rw [IntKind.wrap_i64]; omega
      clear hq hH' ec
      go_wp2
      exact ⟨⟨by first | exact trivial | rfl, k + 1, by omega, by go_num, H', by first | rfl | simp [e4], hlt2, hHe'⟩, by simp [intOf]; omega⟩
    · obtain rfl : k = n := by omega
      have hv : Hid (H = startH k bs) := by unfold Hid; rw [hHe.out, List.take_of_length_le (by rw [← HN.out]; omega)]
      have k1 : decide ((k : Int) < (k : Int)) = false := by simp
      go_wp2
      go_ret
      refine ⟨_, rfl, Nat.le_refl _, ⟨?_, Nat.zero_le _, _, ?_, HT.out.below ((Below.refl _ _).alloc hBs _)⟩, by go_grown⟩
      · show startH k bs < _
        rw [← hv.out]; exact hH
      · rw [← hv.out]
        exact blk_new _ _

def dSize (n top : Nat) : Nat := if top < (2 * top + 2) / 3 + n / 48 then top else (2 * top + 2) / 3 + n / 48
set_option maxHeartbeats 1600000 in
theorem sizeD (p : Option Addr) (n c top : Nat) (w : World) (hn : n ≤ 1048576) (ht : top ≤ 1000) :
    Calls Tryz.prog 11 #[.slice p n c, .int .i64 (top : Int)] w fun e w' => e = .returned (.int .i64 (dSize n top : Int)) ∧ w' = w := by
  have e1 : IntKind.i64.wrap (2 * (top : Int)) = 2 * (top : Int) := by rw [IntKind.wrap_i64]; omega
  have e2 : IntKind.i64.wrap (2 * (top : Int) + 2) = 2 * (top : Int) + 2 := by rw [IntKind.wrap_i64]; omega
  have e3 : Int.tdiv (2 * (top : Int) + 2) 3 = (((2 * top + 2) / 3 : Nat) : Int) := by rw [Int.tdiv_eq_ediv_of_nonneg (by omega)]; omega
  have e4 : Int.tdiv (n : Int) 48 = ((n / 48 : Nat) : Int) := by rw [Int.tdiv_eq_ediv_of_nonneg (by omega)]; omega
  obtain ⟨x, hx⟩ : ∃ x, x = (2 * top + 2) / 3 := ⟨_, rfl⟩
  obtain ⟨y, hy⟩ : ∃ y, y = n / 48 := ⟨_, rfl⟩
  have HV : Hid (dSize n top = if top < x + y then top else x + y) := by unfold Hid dSize; rw [hx, hy]
  rw [← hx] at e3
  rw [← hy] at e4
  have hx1 : x ≤ 1000 := by omega
  have hy1 : y ≤ 100000 := by omega
  clear hx hy
  have e5 : IntKind.i64.wrap ((x : Int) + (y : Int)) = (x : Int) + (y : Int) := by rw [IntKind.wrap_i64]; omega
  by_cases h : top < x + y
  · have t1 : (top : Int) < (x : Int) + (y : Int) := by omega
    have HV2 : Hid (dSize n top = top) := by unfold Hid; rw [HV.out, if_pos h]
    go_enter Tryz.func11, Tryz.ntmps11
    go_wp2
    go_ret
    rw [HV2.out]
    exact ⟨rfl, rfl⟩
  · have t1 : decide ((top : Int) < (x : Int) + (y : Int)) = false := by simp; omega
    have HV2 : Hid (dSize n top = x + y) := by unfold Hid; rw [HV.out, if_neg h]
    go_enter Tryz.func11, Tryz.ntmps11
    go_wp2
    go_ret
    rw [HV2.out]
    exact ⟨by simp, rfl⟩

def dTags (bs : List UInt8) (s : DS) : Nat × DS :=
  if (dOnce bs s 12).1 then dBelow bs (dOnce bs s 12).2 65536
  else (if (dOnce bs (dBelow bs (dBelow bs (dOnce bs s 12).2 16).2 16).2 2).1 then (dBelow bs (dOnce bs s 12).2 16).1 &&& (dBelow bs (dBelow bs (dOnce bs s 12).2 16).2 16).1 else (dBelow bs (dOnce bs s 12).2 16).1, (dOnce bs (dBelow bs (dBelow bs (dOnce bs s 12).2 16).2 16).2 2).2)
set_option maxHeartbeats 1600000 in
set_option maxRecDepth 1000000 in
theorem tagsD (B g : Nat) (bs : List UInt8) (s : DS) (w : World) (hB : B ≤ g) (h : DC B g w bs s) (hl : bs.length ≤ 1048576) :
    Calls Tryz.prog 27 #[.pointer (some ⟨g, 0, none⟩)] w fun e w' => e = .returned (.int .i64 ((dTags bs s).1 : Int)) ∧ DC B g w' bs (dTags bs s).2 ∧ w.grownBy w' (some g) := by
  obtain ⟨o1, ho1⟩ : ∃ o, o = (dOnce bs s 12).1 := ⟨_, rfl⟩
  obtain ⟨s1, hs1⟩ : ∃ t, t = (dOnce bs s 12).2 := ⟨_, rfl⟩
  have C1 := Hid.mk (onceD B g bs s 12 w hB h hl (by omega) (by omega))
  rw [← ho1, ← hs1] at C1
  cases o1 with
  | true =>
    have HV : Hid (dTags bs s = dBelow bs s1 65536) := by unfold Hid dTags; rw [← ho1, if_pos rfl, hs1]
    clear h ho1 hs1
    go_enter Tryz.func27, Tryz.ntmps27
    go_wp2_with (first
      | (go_at_call 25; refine C1.out.mono ?_; rintro e w1 ⟨rfl, d1, g1⟩; have D1 := Hid.mk d1; have G1 := Hid.mk g1; clear d1 g1)
      | (go_at_call 26; refine (belowD B g bs s1 65536 _ hB D1.out hl (by omega) (by omega)).mono ?_; rintro e w2 ⟨rfl, d2, g2⟩; have D2 := Hid.mk d2; have G2 := Hid.mk (gb_then G1.out g2); clear d2 g2))
    go_ret
    rw [HV.out]
    exact ⟨rfl, D2.out, G2.out⟩
  | false =>
    obtain ⟨a, ha⟩ : ∃ o, o = (dBelow bs s1 16).1 := ⟨_, rfl⟩
    obtain ⟨s2, hs2⟩ : ∃ t, t = (dBelow bs s1 16).2 := ⟨_, rfl⟩
    obtain ⟨b, hb⟩ : ∃ o, o = (dBelow bs s2 16).1 := ⟨_, rfl⟩
    obtain ⟨s3, hs3⟩ : ∃ t, t = (dBelow bs s2 16).2 := ⟨_, rfl⟩
    obtain ⟨o4, ho4⟩ : ∃ o, o = (dOnce bs s3 2).1 := ⟨_, rfl⟩
    obtain ⟨s4, hs4⟩ : ∃ t, t = (dOnce bs s3 2).2 := ⟨_, rfl⟩
    have la : a < 16 := by rw [ha]; exact below_lt _ _ (by omega)
    have lb : b < 16 := by rw [hb]; exact below_lt _ _ (by omega)
    have HV : Hid (dTags bs s = (if o4 then a &&& b else a, s4)) := by
      unfold Hid dTags
      rw [← ho1, if_neg (by decide), ← hs1, ← ha, ← hs2, ← hb, ← hs3, ← ho4, ← hs4]
    have C2 : Hid (∀ w, DC B g w bs s1 → Calls Tryz.prog 26 #[.pointer (some ⟨g, 0, none⟩), .int .i64 16] w fun e w' => e = .returned (.int .i64 (a : Int)) ∧ DC B g w' bs s2 ∧ w.grownBy w' (some g)) := fun w hd => by rw [ha, hs2]; exact belowD B g bs s1 16 w hB hd hl (by omega) (by omega)
    have C3 : Hid (∀ w, DC B g w bs s2 → Calls Tryz.prog 26 #[.pointer (some ⟨g, 0, none⟩), .int .i64 16] w fun e w' => e = .returned (.int .i64 (b : Int)) ∧ DC B g w' bs s3 ∧ w.grownBy w' (some g)) := fun w hd => by rw [hb, hs3]; exact belowD B g bs s2 16 w hB hd hl (by omega) (by omega)
    have C4 : Hid (∀ w, DC B g w bs s3 → Calls Tryz.prog 25 #[.pointer (some ⟨g, 0, none⟩), .int .i64 2] w fun e w' => e = .returned (.bool o4) ∧ DC B g w' bs s4 ∧ w.grownBy w' (some g)) := fun w hd => by rw [ho4, hs4]; exact onceD B g bs s3 2 w hB hd hl (by omega) (by omega)
    clear h ho1 hs1 ha hs2 hb hs3 ho4 hs4
    have e1 : bits BinOp.and IntKind.i64 (a : Int) (b : Int) = ((a &&& b : Nat) : Int) := (bits_nat .i64 5 (by decide) (fun z h0 h1 => by rw [IntKind.wrap_i64]; omega) a b (by omega) (by omega)).1
    go_enter Tryz.func27, Tryz.ntmps27
    go_wp2_with (go_at_call 25; refine C1.out.mono ?_; rintro e w1 ⟨rfl, d1, g1⟩; have D1 := Hid.mk d1; have G1 := Hid.mk g1; clear d1 g1)
    refine (C2.out _ D1.out).mono ?_
    rintro e w2 ⟨rfl, d2, g2⟩
    have D2 := Hid.mk d2
    have G2 := Hid.mk (gb_then G1.out g2)
    clear d2 g2
    go_wp2_with fail
    refine (C3.out _ D2.out).mono ?_
    rintro e w3 ⟨rfl, d3, g3⟩
    have D3 := Hid.mk d3
    have G3 := Hid.mk (gb_then G2.out g3)
    clear d3 g3
    go_wp2_with fail
    refine (C4.out _ D3.out).mono ?_
    rintro e w4 ⟨rfl, d4, g4⟩
    have D4 := Hid.mk d4
    have G4 := Hid.mk (gb_then G3.out g4)
    clear d4 g4
    cases o4 with
    | true =>
      go_wp2
      go_ret
      rw [HV.out]
      exact ⟨by first | rfl | simp [e1], D4.out, G4.out⟩
    | false =>
      go_wp2
      go_ret
      rw [HV.out]
      exact ⟨rfl, D4.out, G4.out⟩
end Go.Proofs.YtefkdpppcjlflaaGreatDoor.Draw
