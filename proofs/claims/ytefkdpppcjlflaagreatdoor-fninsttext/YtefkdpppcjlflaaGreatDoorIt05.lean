import Derived.Test.YtefkdpppcjlflaaGreatDoorIt04
import Derived.Laws.BitsLemmas
namespace Go.Proofs.YtefkdpppcjlflaaGreatDoor.Draw
open Go Go.RowKit Go.Proofs.YtefkdpppcjlflaaGreatDoor.Mem Go.Proofs.YtefkdpppcjlflaaGreatDoor.Parse
set_option linter.unusedVariables false
set_option linter.unusedSimpArgs false
attribute [local go_sem ↓] Go.wp_at_zero Go.wp_at_succ

/-- Where a draw stands in its bytes, and the number that it goes on by. -/
structure DS where
  (i h : Nat)
def nextH (h : Nat) : Nat := (h * 1103515245 + 12345) % 2147483648
def dByte (bs : List UInt8) (s : DS) : Nat × DS :=
  if s.i < bs.length then ((nextH s.h / 32768 % 256 + (bs.getD s.i 0).toNat) % 256, ⟨s.i + 1, nextH s.h⟩) else (nextH s.h / 32768 % 256, ⟨s.i, nextH s.h⟩)
def dBelow (bs : List UInt8) (s : DS) (n : Nat) : Nat × DS :=
  if n ≤ 256 then ((dByte bs s).1 % n, (dByte bs s).2)
  else (((dByte bs s).1 * 65536 + (dByte bs (dByte bs s).2).1 * 256 + (dByte bs (dByte bs (dByte bs s).2).2).1) % n, (dByte bs (dByte bs (dByte bs s).2).2).2)
theorem byte_lt (bs : List UInt8) (s : DS) : (dByte bs s).1 < 256 := by
  unfold dByte
  split
  · exact Nat.mod_lt _ (by decide)
  · exact Nat.mod_lt _ (by decide)
theorem below_lt (bs : List UInt8) (s : DS) {n : Nat} (h : 0 < n) : (dBelow bs s n).1 < n := by
  unfold dBelow
  split
  · exact Nat.mod_lt _ h
  · exact Nat.mod_lt _ h
/-- The draw's cursor at block g. -/
def DC (B g : Nat) (w : World) (bs : List UInt8) (s : DS) : Prop := s.h < 2147483648 ∧ s.i ≤ bs.length ∧ ∃ v, w.heap[g]? = some (.cells #[v, .int .i64 (s.i : Int), .int .i64 (s.h : Int)] 68) ∧ Txt B w v bs
theorem DC.lt {B g : Nat} {w : World} {bs : List UInt8} {s : DS} (h : DC B g w bs s) : g < w.heap.size := by
  obtain ⟨-, -, v, hx, -⟩ := h
  exact blk_lt hx
theorem DC.keep {B g : Nat} {w w' : World} {bs : List UInt8} {s : DS} (h : DC B g w bs s) (hB : B ≤ w.heap.size) (hb : Below w.heap.size w w') : DC B g w' bs s := by
  obtain ⟨h1, h2, v, hx, ht⟩ := h
  exact ⟨h1, h2, v, blk_below hx hb, ht.below (hb.mono hB)⟩
theorem and_mask {a k : Nat} (hk : k ≤ 62) (ha : a < 2 ^ 62) : bits BinOp.and IntKind.i64 (a : Int) ((2 ^ k - 1 : Nat) : Int) = ((a % 2 ^ k : Nat) : Int) := by
  have hp : 2 ^ k ≤ 2 ^ 62 := Nat.pow_le_pow_right (by decide) hk
  have hp0 : 0 < 2 ^ k := Nat.pos_of_ne_zero (by simp)
  rw [(bits_nat .i64 62 (by decide) (fun z h0 h1 => by rw [IntKind.wrap_i64]; omega) a (2 ^ k - 1) ha (by omega)).1, Nat.and_two_pow_sub_one_eq_mod]

theorem blk_set_drew {W : World} {g : Nat} {cs : Array Value} {t : TypeId} {fr : Nat × Nat} (h : W.heap[g]? = some (.cells cs t fr)) (k i : Nat) (v : Value) : ((W.drewN k).setCell ⟨g, i, none⟩ v).heap[g]? = some (.cells (cs.setIfInBounds i v) t fr) := blk_set (w := W.drewN k) h i v

set_option maxHeartbeats 1600000 in
set_option maxRecDepth 1000000 in
theorem byteD (B g : Nat) (bs : List UInt8) (s : DS) (w : World) (hB : B ≤ g) (h : DC B g w bs s) (hl : bs.length ≤ 1048576) :
    Calls Tryz.prog 45 #[.pointer (some ⟨g, 0, none⟩)] w fun e w' => e = .returned (.int .i64 ((dByte bs s).1 : Int)) ∧ DC B g w' bs (dByte bs s).2 ∧ w.grownBy w' (some g) := by
  obtain ⟨hh, hi, v, hx, ht⟩ := h
  obtain ⟨p, c, rfl, hc, hp, hr⟩ := ht.rd
  have x0 : w.cell? ⟨g, 0, none⟩ = some (.slice p bs.length c) := (blk_cell hx 0).trans rfl
  have x1 : w.cell? ⟨g, 1, none⟩ = some (.int .i64 (s.i : Int)) := (blk_cell hx 1).trans rfl
  have x2 : w.cell? ⟨g, 2, none⟩ = some (.int .i64 (s.h : Int)) := (blk_cell hx 2).trans rfl
  have f1 : w.frozen? ⟨g, 1, none⟩ = false := blk_unfrozen hx 1
  have f2 : w.frozen? ⟨g, 2, none⟩ = false := blk_unfrozen hx 2
  obtain ⟨i, hie⟩ : ∃ i, i = s.i := ⟨_, rfl⟩
  obtain ⟨h0, hhe⟩ : ∃ h0, h0 = s.h := ⟨_, rfl⟩
  obtain ⟨n, hn⟩ : ∃ n, n = bs.length := ⟨_, rfl⟩
  rw [← hie] at x1 hi
  rw [← hhe] at x2 hh
  rw [← hn] at x0 hi hl hc
  obtain ⟨h1, hh1⟩ : ∃ h1, h1 = nextH h0 := ⟨_, rfl⟩
  have m1 : IntKind.i64.wrap ((h0 : Int) * 1103515245) = (h0 : Int) * 1103515245 := by rw [IntKind.wrap_i64]; omega
  have m2 : IntKind.i64.wrap ((h0 : Int) * 1103515245 + 12345) = (h0 : Int) * 1103515245 + 12345 := by rw [IntKind.wrap_i64]; omega
  have ec : ((h0 * 1103515245 + 12345 : Nat) : Int) = (h0 : Int) * 1103515245 + 12345 := by simp
  have m3 : bits BinOp.and IntKind.i64 ((h0 : Int) * 1103515245 + 12345) 2147483647 = (h1 : Int) := by
    rw [hh1, ← ec]
    exact and_mask (a := h0 * 1103515245 + 12345) (k := 31) (by decide) (by omega)
  clear ec
  have hlt1 : h1 < 2147483648 := by rw [hh1]; unfold nextH; omega
  have HX := Hid.mk hx
  have HT := Hid.mk ht
  have HH1 := Hid.mk hh1
  have m4 : bits BinOp.and IntKind.i64 ((h1 : Int) / 32768) 255 = ((h1 / 32768 % 256 : Nat) : Int) := by
    have e : ((h1 : Int) / 32768) = ((h1 / 32768 : Nat) : Int) := by simp
    rw [e]
    exact and_mask (a := h1 / 32768) (k := 8) (by decide) (Nat.lt_of_le_of_lt (Nat.div_le_self _ _) (Nat.lt_of_lt_of_le hlt1 (by decide)))
  obtain ⟨x, hx'⟩ : ∃ x, x = h1 / 32768 % 256 := ⟨_, rfl⟩
  rw [← hx'] at m4
  have hx8 : x < 256 := by rw [hx']; exact Nat.mod_lt _ (by decide)
  have HXE := Hid.mk hx'
  have HI := Hid.mk hie
  have HHe := Hid.mk hhe
  have HN := Hid.mk hn
  clear hx ht hh1 hx' hie hhe hn
  rw [HN.out.symm] at HT
  go_enter Tryz.func45, Tryz.ntmps45
  go_wp2_with fail
  obtain ⟨W, hW⟩ : ∃ W, W = w.setCell ⟨g, 2, none⟩ (.int .i64 (h1 : Int)) := ⟨_, rfl⟩
  rw [← hW]
  have BW : Hid (W.heap[g]? = some (.cells #[.slice p n c, .int .i64 (i : Int), .int .i64 (h1 : Int)] 68)) := by
    unfold Hid; rw [hW]
    have := blk_set HX.out 2 (.int .i64 (h1 : Int))
    rw [HI.out, HN.out]
    simpa using this
  have GW : Hid (w.grownBy W (some g)) := by rw [hW]; exact gb_set _ _ _ _
  have TW : Hid (Txt B W (.slice p n c) bs) := by rw [hW]; exact HT.out.set hB 2 _
  have RW : Hid (Rd W p bs) := by
    obtain ⟨p', c', e, -, -, hr'⟩ := TW.out.rd
    injection e with e1
    subst e1
    exact hr'
  clear hW x0 x1 x2 f1 f2 HX HT hr
  have y0 : W.cell? ⟨g, 0, none⟩ = some (.slice p n c) := (blk_cell BW.out 0).trans rfl
  have y1 : W.cell? ⟨g, 1, none⟩ = some (.int .i64 (i : Int)) := (blk_cell BW.out 1).trans rfl
  have f1 : W.frozen? ⟨g, 1, none⟩ = false := blk_unfrozen BW.out 1
  by_cases hlt : i < n
  · have k1 : (i : Int) < (n : Int) := by omega
    have hib : i < bs.length := by rw [← HN.out]; exact hlt
    obtain ⟨g', o', rfl, z1⟩ := RW.out i hib
    obtain ⟨q, hq⟩ : ∃ q, q = bs[i].toNat := ⟨_, rfl⟩
    rw [← hq] at z1
    have hq8 : q < 256 := by rw [hq]; exact UInt8.toNat_lt _
    have HV : Hid (dByte bs s = ((x + q) % 256, ⟨i + 1, h1⟩)) := by
      unfold Hid dByte
      rw [← HI.out, ← HHe.out, if_pos hib, ← HH1.out, ← HXE.out, hq]
      simp [List.getD, hib]
    have HQ := Hid.mk hq
    have k0 : (0 : Int) ≤ (i : Int) := by omega
    have e1 : IntKind.i64.wrap ((x : Int) + (q : Int)) = (x : Int) + (q : Int) := by rw [IntKind.wrap_i64]; omega
    obtain ⟨y, hy⟩ : ∃ y, y = (x + q) % 256 := ⟨_, rfl⟩
    have e2 : bits BinOp.and IntKind.i64 ((x : Int) + (q : Int)) 255 = (y : Int) := by
      have := and_mask (a := x + q) (k := 8) (by decide) (by omega)
      rw [Int.natCast_add] at this
      rw [hy]; exact this
    rw [← hy] at HV
    clear hy
    have e3 : IntKind.i64.wrap ((i : Int) + 1) = (i : Int) + 1 := by rw [IntKind.wrap_i64]; omega
    clear hq HXE HH1 HHe HI RW
    go_quiet (fail)
    go_wp2_with fail
    go_quiet (fail)
    go_wp2
    go_ret
    rw [HV.out]
    refine ⟨rfl, ⟨hlt1, by show i + 1 ≤ bs.length; omega, .slice (some ⟨g', o', none⟩) n c, ?_, ?_⟩, ?_⟩
    · exact blk_set_drew BW.out _ _ _
    · exact (TW.out.drew _).set hB 1 _
    · exact gb_then GW.out (gb_then (gb_below (below_drew _ _)) (gb_set _ _ _ _))
  · have k1 : decide ((i : Int) < (n : Int)) = false := by simp; omega
    have HV : Hid (dByte bs s = (x, ⟨i, h1⟩)) := by
      unfold Hid dByte
      rw [← HI.out, ← HHe.out, if_neg (by rw [← HN.out]; exact hlt), ← HH1.out, ← HXE.out]
    have k2 : ¬ i < n := hlt
    clear HXE HH1 HHe HI RW
    go_quiet (fail)
    go_wp2
    go_ret
    rw [HV.out]
    refine ⟨rfl, ⟨hlt1, by rw [← HN.out]; exact hi, _, BW.out, ?_⟩, gb_then GW.out (gb_below (below_drew _ _))⟩
    exact TW.out.drew _

set_option maxHeartbeats 1600000 in
set_option maxRecDepth 1000000 in
theorem belowD (B g : Nat) (bs : List UInt8) (s : DS) (n : Nat) (w : World) (hB : B ≤ g) (h : DC B g w bs s) (hl : bs.length ≤ 1048576) (hn : 0 < n) (hn1 : n ≤ 1000000) :
    Calls Tryz.prog 26 #[.pointer (some ⟨g, 0, none⟩), .int .i64 (n : Int)] w fun e w' => e = .returned (.int .i64 ((dBelow bs s n).1 : Int)) ∧ DC B g w' bs (dBelow bs s n).2 ∧ w.grownBy w' (some g) := by
  have HD := Hid.mk h
  clear h
  have n0 : ¬ (n : Int) = 0 := by omega
  by_cases h256 : n ≤ 256
  · have t1 : (n : Int) ≤ 256 := by omega
    have HV : Hid (dBelow bs s n = ((dByte bs s).1 % n, (dByte bs s).2)) := by unfold Hid dBelow; rw [if_pos h256]
    have hb := byte_lt bs s
    obtain ⟨x, hx⟩ : ∃ x, x = (dByte bs s).1 := ⟨_, rfl⟩
    have HX := Hid.mk hx
    rw [← hx] at HV hb
    have e1 : Int.tmod (x : Int) (n : Int) = ((x % n : Nat) : Int) := by rw [Int.tmod_eq_emod_of_nonneg (by omega)]; simp
    clear hx
    go_enter Tryz.func26, Tryz.ntmps26
    go_wp2_with (go_at_call 45; refine (byteD B g bs s _ hB HD.out hl).mono ?_; rintro e w1 ⟨rfl, d1, g1⟩; rw [← HX.out]; have D1 := Hid.mk d1; have G1 := Hid.mk g1; clear d1 g1)
    go_ret
    rw [HV.out]
    exact ⟨rfl, D1.out, G1.out⟩
  · have t1 : decide ((n : Int) ≤ 256) = false := by simp; omega
    obtain ⟨s1, hs1⟩ : ∃ s1, s1 = (dByte bs s).2 := ⟨_, rfl⟩
    obtain ⟨x, hx⟩ : ∃ x, x = (dByte bs s).1 := ⟨_, rfl⟩
    obtain ⟨s2, hs2⟩ : ∃ s2, s2 = (dByte bs s1).2 := ⟨_, rfl⟩
    obtain ⟨y, hy⟩ : ∃ y, y = (dByte bs s1).1 := ⟨_, rfl⟩
    obtain ⟨s3, hs3⟩ : ∃ s3, s3 = (dByte bs s2).2 := ⟨_, rfl⟩
    obtain ⟨z, hz⟩ : ∃ z, z = (dByte bs s2).1 := ⟨_, rfl⟩
    have HV : Hid (dBelow bs s n = ((x * 65536 + y * 256 + z) % n, s3)) := by
      unfold Hid dBelow
      rw [if_neg h256, hs3, hz, hs2, hy, hs1, hx]
    have bx : x < 256 := by rw [hx]; exact byte_lt _ _
    have by' : y < 256 := by rw [hy]; exact byte_lt _ _
    have bz : z < 256 := by rw [hz]; exact byte_lt _ _
    have C1 : Hid (∀ w, DC B g w bs s → Calls Tryz.prog 45 #[.pointer (some ⟨g, 0, none⟩)] w fun e w' => e = .returned (.int .i64 (x : Int)) ∧ DC B g w' bs s1 ∧ w.grownBy w' (some g)) := fun w hd => by rw [hx, hs1]; exact byteD B g bs s w hB hd hl
    have C2 : Hid (∀ w, DC B g w bs s1 → Calls Tryz.prog 45 #[.pointer (some ⟨g, 0, none⟩)] w fun e w' => e = .returned (.int .i64 (y : Int)) ∧ DC B g w' bs s2 ∧ w.grownBy w' (some g)) := fun w hd => by rw [hy, hs2]; exact byteD B g bs s1 w hB hd hl
    have C3 : Hid (∀ w, DC B g w bs s2 → Calls Tryz.prog 45 #[.pointer (some ⟨g, 0, none⟩)] w fun e w' => e = .returned (.int .i64 (z : Int)) ∧ DC B g w' bs s3 ∧ w.grownBy w' (some g)) := fun w hd => by rw [hz, hs3]; exact byteD B g bs s2 w hB hd hl
    clear hx hy hz hs1 hs2 hs3
    have e0 : IntKind.i64.wrap ((x : Int) * 65536) = (x : Int) * 65536 := by rw [IntKind.wrap_i64]; omega
    have e1 : IntKind.i64.wrap ((y : Int) * 256) = (y : Int) * 256 := by rw [IntKind.wrap_i64]; omega
    have e2 : IntKind.i64.wrap ((x : Int) * 65536 + (y : Int) * 256) = (x : Int) * 65536 + (y : Int) * 256 := by rw [IntKind.wrap_i64]; omega
    have e3 : IntKind.i64.wrap ((x : Int) * 65536 + (y : Int) * 256 + (z : Int)) = (x : Int) * 65536 + (y : Int) * 256 + (z : Int) := by rw [IntKind.wrap_i64]; omega
    have e4 : Int.tmod ((x : Int) * 65536 + (y : Int) * 256 + (z : Int)) (n : Int) = (((x * 65536 + y * 256 + z) % n : Nat) : Int) := by rw [Int.tmod_eq_emod_of_nonneg (by omega)]; simp
    go_enter Tryz.func26, Tryz.ntmps26
    go_wp2_with fail
    refine (C1.out _ HD.out).mono ?_
    rintro e w1 ⟨rfl, d1, g1⟩
    have D1 := Hid.mk d1
    have G1 := Hid.mk g1
    clear d1 g1
    go_wp2_with fail
    refine (C2.out _ D1.out).mono ?_
    rintro e w2 ⟨rfl, d2, g2⟩
    have D2 := Hid.mk d2
    have G2 := Hid.mk (gb_then G1.out g2)
    clear d2 g2
    go_wp2_with fail
    refine (C3.out _ D2.out).mono ?_
    rintro e w3 ⟨rfl, d3, g3⟩
    have D3 := Hid.mk d3
    have G3 := Hid.mk (gb_then G2.out g3)
    clear d3 g3
    go_wp2
    go_ret
    rw [HV.out]
    exact ⟨by first | rfl | simp [e4], D3.out, G3.out⟩

def dRange (bs : List UInt8) (s : DS) (lo hi : Int) : Int × DS := (lo + ((dBelow bs s (hi - lo + 1).toNat).1 : Int), (dBelow bs s (hi - lo + 1).toNat).2)
def dOnce (bs : List UInt8) (s : DS) (n : Nat) : Bool × DS := ((dBelow bs s n).1 == 0, (dBelow bs s n).2)
set_option maxHeartbeats 1600000 in
set_option maxRecDepth 1000000 in
theorem rangeD (B g : Nat) (bs : List UInt8) (s : DS) (lo hi : Int) (w : World) (hB : B ≤ g) (h : DC B g w bs s) (hl : bs.length ≤ 1048576) (h0 : lo ≤ hi) (h1 : hi ≤ 100000) (h2 : -100000 ≤ lo) :
    Calls Tryz.prog 24 #[.pointer (some ⟨g, 0, none⟩), .int .i64 lo, .int .i64 hi] w fun e w' => e = .returned (.int .i64 (dRange bs s lo hi).1) ∧ DC B g w' bs (dRange bs s lo hi).2 ∧ w.grownBy w' (some g) := by
  have HD := Hid.mk h
  clear h
  obtain ⟨n, hn⟩ := Int.eq_ofNat_of_zero_le (show 0 ≤ hi - lo + 1 by omega)
  have hn0 : 0 < n := by omega
  have hn1 : n ≤ 1000000 := by omega
  have hlt := below_lt bs s hn0
  have HC := Hid.mk (belowD B g bs s n w hB HD.out hl hn0 hn1)
  have HV : Hid (dRange bs s lo hi = (lo + ((dBelow bs s n).1 : Int), (dBelow bs s n).2)) := by unfold Hid dRange; rw [hn]; rfl
  obtain ⟨x, hx⟩ : ∃ x, x = (dBelow bs s n).1 := ⟨_, rfl⟩
  rw [← hx] at HC HV hlt
  have e1 : IntKind.i64.wrap (hi - lo) = hi - lo := by rw [IntKind.wrap_i64]; omega
  have e2 : IntKind.i64.wrap (hi - lo + 1) = (n : Int) := by rw [IntKind.wrap_i64]; omega
  have e3 : IntKind.i64.wrap (lo + (x : Int)) = lo + (x : Int) := by rw [IntKind.wrap_i64]; omega
  have HN := Hid.mk hn
  clear hx
  rw [hn] at e2
  go_enter Tryz.func24, Tryz.ntmps24
  go_wp2_with (go_at_call 26; refine HC.out.mono ?_; rintro e w1 ⟨rfl, d1, g1⟩; have D1 := Hid.mk d1; have G1 := Hid.mk g1; clear d1 g1)
  go_ret
  rw [HV.out]
  exact ⟨rfl, D1.out, G1.out⟩

set_option maxHeartbeats 1600000 in
set_option maxRecDepth 1000000 in
theorem onceD (B g : Nat) (bs : List UInt8) (s : DS) (n : Nat) (w : World) (hB : B ≤ g) (h : DC B g w bs s) (hl : bs.length ≤ 1048576) (hn : 0 < n) (hn1 : n ≤ 1000000) :
    Calls Tryz.prog 25 #[.pointer (some ⟨g, 0, none⟩), .int .i64 (n : Int)] w fun e w' => e = .returned (.bool (dOnce bs s n).1) ∧ DC B g w' bs (dOnce bs s n).2 ∧ w.grownBy w' (some g) := by
  have HC := Hid.mk (belowD B g bs s n w hB h hl hn hn1)
  have HV : Hid (dOnce bs s n = ((dBelow bs s n).1 == 0, (dBelow bs s n).2)) := rfl
  obtain ⟨x, hx⟩ : ∃ x, x = (dBelow bs s n).1 := ⟨_, rfl⟩
  rw [← hx] at HC HV
  clear hx h
  by_cases h0 : x = 0
  · have t0 : ((x : Int) == 0) = true := by simp; omega
    have h0' := Hid.mk h0
    clear h0
    go_enter Tryz.func25, Tryz.ntmps25
    go_wp2_with (go_at_call 26; refine HC.out.mono ?_; rintro e w1 ⟨rfl, d1, g1⟩; have D1 := Hid.mk d1; have G1 := Hid.mk g1; clear d1 g1)
    go_ret
    rw [HV.out]
    exact ⟨by rw [h0'.out]; rfl, D1.out, G1.out⟩
  · have t0 : ((x : Int) == 0) = false := by simp; omega
    go_enter Tryz.func25, Tryz.ntmps25
    go_wp2_with (go_at_call 26; refine HC.out.mono ?_; rintro e w1 ⟨rfl, d1, g1⟩; have D1 := Hid.mk d1; have G1 := Hid.mk g1; clear d1 g1)
    go_ret
    rw [HV.out]
    exact ⟨by rw [show (x == 0) = false by simpa using h0]; rfl, D1.out, G1.out⟩
end Go.Proofs.YtefkdpppcjlflaaGreatDoor.Draw
