import Derived.Test.YtefkdpppcjlflaaGreatDoorIt03
import Derived.Lib.BufferWrite
namespace Go.Proofs.YtefkdpppcjlflaaGreatDoor.Parse
open Go Go.RowKit Go.Proofs.YtefkdpppcjlflaaGreatDoor.Mem
set_option linter.unusedVariables false
set_option linter.unusedSimpArgs false
attribute [local go_sem ↓] Go.wp_at_zero Go.wp_at_succ

theorem below_drew (w : World) (q : Nat) : Below w.heap.size w (w.drewN q) := below_drewN' (Below.refl _ _) q
theorem Txt.drew {B : Nat} {w : World} {v : Value} {bs : List UInt8} (h : Txt B w v bs) (q : Nat) : Txt B (w.drewN q) v bs := h.below ⟨rfl, rfl, rfl, Nat.le_refl _, fun _ _ => rfl⟩

set_option maxHeartbeats 1600000 in
set_option maxRecDepth 1000000 in
theorem cutI (B : Nat) (v : Value) (bs : List UInt8) (sep : UInt8) (z : Int) (g2 d : Nat) (w : World) (h : Txt B w v bs) (hz : z = (sep.toNat : Int)) (h2 : w.cell? ⟨g2, 0, none⟩ = some (.int .u8 z)) (hl : bs.length ≤ 1000000) :
    Calls Tryz.prog 38 #[v, .slice (some ⟨g2, 0, none⟩) 1 d] w fun e w' => (∃ v1 v2, e = .returned (.tuple #[v1, v2, .bool (decide (sep ∈ bs))]) ∧ Txt B w' v1 (hd sep bs) ∧ Txt B w' v2 (tl sep bs)) ∧ ∃ q, w' = w.drewN q := by
  have H := Hid.mk h
  have HC := Hid.mk (indexI B v bs sep z g2 d w h hz h2)
  obtain ⟨i, hi⟩ : ∃ i, i = Lib.indexByte bs sep := ⟨_, rfl⟩
  rw [← hi] at HC
  have hge := Lib.indexByte_ge bs sep
  rw [← hi] at hge
  obtain ⟨p, c, rfl, hc, hp, hr⟩ := h.rd
  obtain ⟨n, hn⟩ : ∃ n, n = bs.length := ⟨_, rfl⟩
  by_cases h0 : i = -1
  · subst h0
    have hno := index_none hi.symm
    have HM : Hid (decide (sep ∈ bs) = false) := by simpa [Hid] using hno
    have HE := Hid.mk (hd_none hno)
    rw [← hn] at HC H hl hc ⊢
    have HN := Hid.mk hn
    clear hp hr hi hno hn hz h2 hge
    go_enter Tryz.func38, Tryz.ntmps38
    go_wp2_with (go_at_call 51; refine HC.out.mono ?_; rintro e w1 ⟨rfl, rfl⟩)
    go_ret3
    rw [HM.out, HE.out.1, HE.out.2]
    exact ⟨⟨_, _, rfl, H.out, Txt.nil _ _⟩, 0, rfl⟩
  · obtain ⟨k, rfl⟩ := Int.eq_ofNat_of_zero_le (show 0 ≤ i by omega)
    obtain ⟨hk, e1, e2, hm⟩ := hd_at hi.symm
    have HM : Hid (decide (sep ∈ bs) = true) := by simpa [Hid] using hm
    have HE := Hid.mk (And.intro e1 e2)
    rcases hp with ⟨rfl, rfl⟩ | ⟨g, o, rfl⟩
    · omega
    rw [← hn] at HC H hl hc hk ⊢
    have HN := Hid.mk hn
    have w1 : IntKind.i64.wrap ((k : Int) + 1) = (k : Int) + 1 := by rw [IntKind.wrap_i64]; omega
    have b0 : (0 : Int) ≤ (k : Int) := by omega
    have b1 : (k : Int) ≤ (c : Int) := by omega
    have b2 : (0 : Int) ≤ (k : Int) + 1 := by omega
    have b3 : (k : Int) + 1 ≤ (n : Int) := by omega
    have b4 : (n : Int) ≤ (c : Int) := by omega
    have T1 : Hid (Txt B w (.slice (some ⟨g, o, none⟩) k c) (bs.take k)) := H.out.take k (by rw [← HN.out]; omega)
    have T2 : Hid (Txt B w (.slice (some ⟨g, o + (k + 1), none⟩) (n - (k + 1)) (c - (k + 1))) (bs.drop (k + 1))) := H.out.drop (k + 1) (by rw [← HN.out]; omega)
    clear hr hi hz h2 hge e1 e2 hm h0 hn h
    go_enter Tryz.func38, Tryz.ntmps38
    by_cases hce : c = k + 1
    · subst hce
      go_wp2_with (go_at_call 51; refine HC.out.mono ?_; rintro e w1 ⟨rfl, rfl⟩)
      go_quiet (fail)
      all_goals go_wp2
      all_goals go_ret3
      all_goals (refine ⟨⟨_, _, by rw [HM.out]; rfl, by rw [HE.out.1]; exact T1.out.drew _, ?_⟩, _, rfl⟩)
      all_goals (rw [HE.out.2])
      all_goals (rw [show bs.drop (k + 1) = [] from List.drop_eq_nil_of_le (by rw [← HN.out]; omega)]; exact Txt.end _ _ _)
    · go_wp2_with (go_at_call 51; refine HC.out.mono ?_; rintro e w1 ⟨rfl, rfl⟩)
      go_quiet (fail)
      all_goals go_wp2
      all_goals go_ret3
      all_goals (refine ⟨⟨_, _, by rw [HM.out]; rfl, by rw [HE.out.1]; exact T1.out.drew _, by rw [HE.out.2]; exact T2.out.drew _⟩, _, rfl⟩)

set_option maxHeartbeats 1600000 in
set_option maxRecDepth 1000000 in
theorem countI (B : Nat) (v : Value) (bs : List UInt8) (sep : UInt8) (z : Int) (g2 d : Nat) (w : World) (h : Txt B w v bs) (hz : z = (sep.toNat : Int)) (h2 : w.cell? ⟨g2, 0, none⟩ = some (.int .u8 z)) :
    Calls Tryz.prog 69 #[v, .slice (some ⟨g2, 0, none⟩) 1 d] w fun e w' => e = .returned (.int .i64 (bs.count sep : Nat)) ∧ w' = w := by
  obtain ⟨p, c, rfl, hc, hp, hr⟩ := h.rd
  subst hz
  rcases hp with ⟨rfl, rfl⟩ | ⟨g, o, rfl⟩
  · obtain rfl : bs = [] := List.eq_nil_of_length_eq_zero (by omega)
    have hrun : (Extern.BytealgCount.count #[.slice none 0 0, .int .u8 (sep.toNat : Int)]).run Tryz.prog w = .ok (.int .i64 0) w := by
      have hs := Lib.run_countString (P := Tryz.prog) .empty (sep.toNat : Int) w
      exact hs
    clear h hr
    go_enter Tryz.func69, Tryz.ntmps69
    go_wp2
    rw [run_callFunc_extern Tryz.func81 (by kernel_rfl) (by kernel_rfl) (by kernel_rfl) (e := Extern.BytealgCount.count) (by kernel_rfl)]
    rw [hrun]
    simp only [Result.andThen]
    rw [Oper.upon_value]
    go_wp2
    go_ret
    exact ⟨rfl, rfl⟩
  · have hrun := run_countBytes (P := Tryz.prog) w g o bs.length c bs rfl hr sep
    clear h hr
    go_enter Tryz.func69, Tryz.ntmps69
    go_wp2
    rw [run_callFunc_extern Tryz.func81 (by kernel_rfl) (by kernel_rfl) (by kernel_rfl) (e := Extern.BytealgCount.count) (by kernel_rfl), hrun]
    simp only [Result.andThen]
    rw [Oper.upon_value]
    go_wp2
    go_ret
    exact ⟨rfl, rfl⟩

/-- Does the field open with the sign, and what stands behind it? -/
def signed (f : List UInt8) : Bool := decide (f.head? = some 45)
theorem head_one {f : List UInt8} (h : 0 < f.length) : ∃ b : UInt8, f[0]? = some b ∧ f.take 1 = [b] ∧ f.head? = some b := by
  cases f with
  | nil => simp at h
  | cons x r => exact ⟨x, rfl, rfl, rfl⟩

theorem rd_one {w : World} {g o : Nat} {x : UInt8} (h : w.cell? ⟨g, o, none⟩ = some (.int .u8 (x.toNat : Int))) : Rd w (some ⟨g, o, none⟩) [x] := fun j hj => by
  obtain rfl : j = 0 := by (simp at hj; exact hj)
  exact ⟨g, o, rfl, h⟩

set_option maxHeartbeats 1600000 in
set_option maxRecDepth 1000000 in
theorem equal1I (x y : UInt8) (g o g2 : Nat) (c d : Nat) (w : World) (h1 : w.cell? ⟨g, o, none⟩ = some (.int .u8 (x.toNat : Int))) (h2 : w.cell? ⟨g2, 0, none⟩ = some (.int .u8 (y.toNat : Int))) :
    Calls Tryz.prog 65 #[.slice (some ⟨g, o, none⟩) 1 c, .slice (some ⟨g2, 0, none⟩) 1 d] w fun e w' => e = .returned (.bool (decide (x = y))) ∧ w' = w := by
  have cx := conv_rd (P := Tryz.prog) w 22 9 5 (some ⟨g, o, none⟩) 1 c [x] rfl (rd_one h1) Tryz.underlying22 Tryz.underlying5 Tryz.underlying9
  have cy := conv_rd (P := Tryz.prog) w 22 9 5 (some ⟨g2, 0, none⟩) 1 d [y] rfl (rd_one h2) Tryz.underlying22 Tryz.underlying5 Tryz.underlying9
  by_cases hxy : x = y
  · have e1 : (([x] : List UInt8) == [y]) = true := by simpa using hxy
    have HV : Hid (decide (x = y) = true) := by simpa [Hid] using hxy
    clear hxy h1 h2
    go_enter Tryz.func65, Tryz.ntmps65
    go_wp2
    go_ret
    rw [HV.out]
    exact ⟨rfl, rfl⟩
  · have e1 : (([x] : List UInt8) == [y]) = false := by simpa using hxy
    have HV : Hid (decide (x = y) = false) := by simpa [Hid] using hxy
    clear hxy h1 h2
    go_enter Tryz.func65, Tryz.ntmps65
    go_wp2
    go_ret
    rw [HV.out]
    exact ⟨rfl, rfl⟩

set_option maxHeartbeats 1600000 in
set_option maxRecDepth 1000000 in
theorem hasPrefI (B : Nat) (v : Value) (f : List UInt8) (g2 d : Nat) (w : World) (h : Txt B w v f) (h2 : w.cell? ⟨g2, 0, none⟩ = some (.int .u8 45)) :
    Calls Tryz.prog 96 #[v, .slice (some ⟨g2, 0, none⟩) 1 d] w fun e w' => e = .returned (.bool (signed f)) ∧ w' = w := by
  obtain ⟨p, c, rfl, hc, hp, hr⟩ := h.rd
  obtain ⟨n, hn⟩ : ∃ n, n = f.length := ⟨_, rfl⟩
  rw [← hn] at hc ⊢
  by_cases h0 : n = 0
  · have HV : Hid (signed f = false) := by
      obtain rfl : f = [] := List.eq_nil_of_length_eq_zero (by omega)
      rfl
    have n1 : decide ((1 : Int) ≤ (n : Int)) = false := by simp; omega
    clear h hr hn h0 hp
    go_enter Tryz.func96, Tryz.ntmps96
    go_wp2
    go_ret
    rw [HV.out]
    exact ⟨rfl, rfl⟩
  · rcases hp with ⟨rfl, rfl⟩ | ⟨g, o, rfl⟩
    · omega
    obtain ⟨b, hb, ht, hh⟩ := head_one (f := f) (by omega)
    have x0 : w.cell? ⟨g, o, none⟩ = some (.int .u8 (b.toNat : Int)) := by
      have := hr.at 0 (by omega)
      rw [Nat.add_zero] at this
      rw [this]
      have : f[0] = b := by simpa [show 0 < f.length by omega] using hb
      rw [this]
    have HV : Hid (signed f = decide (b = 45)) := by unfold Hid signed; rw [hh]; simp
    have n1 : (1 : Int) ≤ (n : Int) := by omega
    have n2 : (1 : Int) ≤ (c : Int) := by omega
    have HC := Hid.mk (equal1I b 45 g o g2 c d w x0 h2)
    clear h hr hn h0 hb ht hh x0
    go_enter Tryz.func96, Tryz.ntmps96
    go_wp2_with (go_at_call 65; refine HC.out.mono ?_; rintro e w1 ⟨rfl, rfl⟩)
    go_ret
    rw [HV.out]
    exact ⟨rfl, rfl⟩

/-- What stands behind the sign, where there is one. -/
def unsigned (f : List UInt8) : List UInt8 := if signed f then f.tail else f
set_option maxHeartbeats 1600000 in
set_option maxRecDepth 1000000 in
theorem cutPrefI (B : Nat) (v : Value) (f : List UInt8) (g2 d : Nat) (w : World) (h : Txt B w v f) (h2 : w.cell? ⟨g2, 0, none⟩ = some (.int .u8 45)) :
    Calls Tryz.prog 91 #[v, .slice (some ⟨g2, 0, none⟩) 1 d] w fun e w' => (∃ v', e = .returned (.tuple #[v', .bool (signed f)]) ∧ Txt B w v' (unsigned f)) ∧ w' = w := by
  have HC := Hid.mk (hasPrefI B v f g2 d w h h2)
  have H := Hid.mk h
  cases hs : signed f with
  | false =>
    have HS := Hid.mk hs
    rw [hs] at HC
    clear h hs h2
    go_enter Tryz.func91, Tryz.ntmps91
    go_wp2_with (go_at_call 96; refine HC.out.mono ?_; rintro e w1 ⟨rfl, rfl⟩)
    go_ret2
    exact ⟨⟨_, rfl, by unfold unsigned; rw [HS.out]; exact H.out⟩, rfl⟩
  | true =>
    have HS := Hid.mk hs
    rw [hs] at HC
    obtain ⟨p, c, rfl, hc, hp, hr⟩ := h.rd
    have hpos : 0 < f.length := by
      cases f with
      | nil => cases hs
      | cons x r => simp
    rcases hp with ⟨rfl, rfl⟩ | ⟨g, o, rfl⟩
    · omega
    obtain ⟨n, hn⟩ : ∃ n, n = f.length := ⟨_, rfl⟩
    rw [← hn] at hc hpos HC H ⊢
    have HU : Hid (unsigned f = f.drop 1) := by unfold Hid unsigned; rw [HS.out]; simp
    have HD := Hid.mk (H.out.drop 1 (by omega))
    have n1 : (1 : Int) ≤ (n : Int) := by omega
    have n2 : (n : Int) ≤ (c : Int) := by omega
    have HN := Hid.mk hn
    clear h hs h2 hr hn
    by_cases hc1 : c = 1
    · subst hc1
      obtain rfl : n = 1 := by omega
      go_enter Tryz.func91, Tryz.ntmps91
      go_wp2_with (go_at_call 96; refine HC.out.mono ?_; rintro e w1 ⟨rfl, rfl⟩)
      go_ret2
      refine ⟨⟨_, rfl, ?_⟩, rfl⟩
      rw [HU.out, List.drop_eq_nil_of_le (by rw [← HN.out]; omega)]
      exact Txt.end _ _ _
    · go_enter Tryz.func91, Tryz.ntmps91
      go_wp2_with (go_at_call 96; refine HC.out.mono ?_; rintro e w1 ⟨rfl, rfl⟩)
      go_ret2
      refine ⟨⟨_, rfl, ?_⟩, rfl⟩
      rw [HU.out]
      exact HD.out
end Go.Proofs.YtefkdpppcjlflaaGreatDoor.Parse
namespace Go.Proofs.YtefkdpppcjlflaaGreatDoor.Parse
open Go Go.RowKit Go.Proofs.YtefkdpppcjlflaaGreatDoor.Mem
set_option linter.unusedVariables false
set_option linter.unusedSimpArgs false
attribute [local go_sem ↓] Go.wp_at_zero Go.wp_at_succ

/-- One block at most turns. -/
theorem gb_then {a b c : World} {r : Option Nat} (h : a.grownBy b r) (k : b.grownBy c r) : a.grownBy c r :=
  ⟨k.os.trans h.os, k.tape.trans h.tape, k.output.trans h.output, Nat.le_trans h.size k.size, fun i hi hr => (k.block i (by have := h.size; omega) hr).trans (h.block i hi hr)⟩
theorem gb_below {a b : World} {r : Option Nat} (h : Below a.heap.size a b) : a.grownBy b r := ⟨h.os, h.tape, h.output, h.size, fun i hi _ => h.block i hi⟩
theorem gb_set (w : World) (g i : Nat) (v : Value) : w.grownBy (w.setCell ⟨g, i, none⟩ v) (some g) := Lib.grownBy_setCell w g i v

/-- A line's failure as a value. -/
def errV (c : Int) : Value := .iface 64 (.agg #[.int .i64 c])
def evOf (bad : Bool) : Value := if bad then errV 6 else .nilIface
/-- The cursor at block g: what is left of its line, and whether a field was of a wrong form. -/
def Cur (B g : Nat) (w : World) (bs : List UInt8) (bad : Bool) : Prop := ∃ v, w.heap[g]? = some (.cells #[v, evOf bad] 84) ∧ Txt B w v bs
theorem below_of_grown {B g : Nat} {w w' : World} (h : w.grownBy w' (some g)) (hB : B ≤ g) (hs : B ≤ w.heap.size) : Below B w w' :=
  ⟨h.os, h.tape, h.output, h.size, fun k hk => h.block k (by omega) (by simp; omega)⟩
theorem Txt.set {B g : Nat} {w : World} {v : Value} {bs : List UInt8} (h : Txt B w v bs) (hB : B ≤ g) (i : Nat) (u : Value) : Txt B (w.setCell ⟨g, i, none⟩ u) v bs := h.below ((Below.refl _ _).setCell (p := ⟨g, i, none⟩) hB u)
theorem Txt.shape {B : Nat} {w : World} {v : Value} {bs : List UInt8} (h : Txt B w v bs) : ∃ p n c, v = .slice p n c := by
  obtain ⟨p, c, e, -⟩ := h
  exact ⟨p, _, c, e⟩
theorem Cur.lt {B g : Nat} {w : World} {bs : List UInt8} {bad : Bool} (h : Cur B g w bs bad) : g < w.heap.size := by
  obtain ⟨v, hx, -⟩ := h
  exact blk_lt hx
theorem Cur.keep {B g : Nat} {w w' : World} {bs : List UInt8} {bad : Bool} (h : Cur B g w bs bad) (hB : B ≤ w.heap.size) (hb : Below w.heap.size w w') : Cur B g w' bs bad := by
  obtain ⟨v, hx, ht⟩ := h
  exact ⟨v, blk_below hx hb, ht.below (hb.mono hB)⟩
theorem cur_step {B g : Nat} {w w1 : World} {v v2 ev : Value} {r : List UInt8} {bad : Bool} (hx : w.heap[g]? = some (.cells #[v, evOf bad] 84)) (hb : Below w.heap.size w w1) (ht : Txt B w1 v2 r) (hB : B ≤ g) :
    Cur B g (w1.setCell ⟨g, 0, none⟩ v2) r bad ∧ w.grownBy (w1.setCell ⟨g, 0, none⟩ v2) (some g) :=
  ⟨⟨v2, by have := blk_set (blk_below hx hb) 0 v2; simpa using this, ht.set hB 0 v2⟩, gb_then (gb_below hb) (gb_set _ _ _ _)⟩

set_option maxHeartbeats 1600000 in
set_option maxRecDepth 1000000 in
theorem fieldI (B g : Nat) (bs : List UInt8) (bad : Bool) (w : World) (hB : B ≤ g) (h : Cur B g w bs bad) (hl : bs.length ≤ 1000000) :
    Calls Tryz.prog 54 #[.pointer (some ⟨g, 0, none⟩)] w fun e w' => (∃ v1, e = .returned v1 ∧ Txt B w' v1 (hd 32 bs)) ∧ Cur B g w' (tl 32 bs) bad ∧ w.grownBy w' (some g) := by
  obtain ⟨v, hx, ht⟩ := h
  have hgl := blk_lt hx
  have x0 : w.cell? ⟨g, 0, none⟩ = some v := by rw [blk_cell hx 0]; rfl
  have HX := Hid.mk hx
  have HT : Hid (Txt B (w.alloc (.cells #[.int .u8 32] 5)) v bs) := ht.below ((Below.refl _ _).alloc (by omega) _)
  have HC := Hid.mk (cutI B v bs 32 32 w.heap.size 1 (w.alloc (.cells #[.int .u8 32] 5)) HT.out rfl (by simp) hl)
  have HA : Hid (Below w.heap.size w (w.alloc (.cells #[.int .u8 32] 5))) := (Below.refl _ _).alloc (Nat.le_refl _) _
  clear hx ht
  go_enter Tryz.func54, Tryz.ntmps54
  go_wp2_with (go_at_call 38; refine HC.out.mono ?_; rintro e w1 ⟨⟨v1, v2, rfl, t1, t2⟩, hw⟩; obtain ⟨p2, n2, c2, rfl⟩ := t2.shape; have T1 := Hid.mk t1; have T2 := Hid.mk t2; have HW : Hid (Below w.heap.size w w1) := (by obtain ⟨q, rfl⟩ := hw; exact below_drewN' HA.out q); clear hw t1 t2; have y0 : w1.cell? ⟨g, 0, none⟩ = some v := cell_keep HW.out x0; have f0 : w1.frozen? ⟨g, 0, none⟩ = false := blk_unfrozen (blk_below HX.out HW.out) 0; clear x0)
  go_ret
  obtain ⟨c1, c2⟩ := cur_step HX.out HW.out T2.out hB (ev := v)
  exact ⟨⟨_, rfl, T1.out.set hB 0 _⟩, c1, c2⟩

set_option maxHeartbeats 1600000 in
set_option maxRecDepth 1000000 in
theorem countFI (B g : Nat) (bs : List UInt8) (bad : Bool) (w : World) (hB : B ≤ g) (h : Cur B g w bs bad) (hl : bs.length ≤ 1000000) :
    Calls Tryz.prog 52 #[.pointer (some ⟨g, 0, none⟩)] w fun e w' => e = .returned (.int .i64 ((split 32 bs).length : Nat)) ∧ Below w.heap.size w w' := by
  obtain ⟨v, hx, ht⟩ := h
  have hgl := blk_lt hx
  have x0 : w.cell? ⟨g, 0, none⟩ = some v := by rw [blk_cell hx 0]; rfl
  have HT : Hid (Txt B (w.alloc (.cells #[.int .u8 32] 5)) v bs) := ht.below ((Below.refl _ _).alloc (by omega) _)
  have HC := Hid.mk (countI B v bs 32 32 w.heap.size 1 (w.alloc (.cells #[.int .u8 32] 5)) HT.out rfl (by simp))
  have HN : Hid ((split 32 bs).length = bs.count 32 + 1) := split_count 32 bs
  have hc : bs.count 32 ≤ bs.length := List.count_le_length
  obtain ⟨m, hm⟩ : ∃ m, m = bs.count 32 := ⟨_, rfl⟩
  rw [← hm] at HC HN hc
  have w1 : IntKind.i64.wrap ((m : Int) + 1) = (m : Int) + 1 := by rw [IntKind.wrap_i64]; omega
  clear hx ht hm
  go_enter Tryz.func52, Tryz.ntmps52
  go_wp2_with (go_at_call 69; refine HC.out.mono ?_; rintro e w1 ⟨rfl, rfl⟩)
  go_ret
  rw [HN.out]
  exact ⟨by simp, by go_grown⟩

set_option maxHeartbeats 1600000 in
set_option maxRecDepth 1000000 in
theorem failI (B g : Nat) (bs : List UInt8) (bad : Bool) (w : World) (hB : B ≤ g) (h : Cur B g w bs bad) :
    Calls Tryz.prog 93 #[.pointer (some ⟨g, 0, none⟩)] w fun e w' => e = .returned (.int .i64 0) ∧ Cur B g w' bs true ∧ w.grownBy w' (some g) := by
  obtain ⟨v, hx, ht⟩ := h
  have x1 : w.cell? ⟨g, 1, none⟩ = some (evOf bad) := by rw [blk_cell hx 1]; rfl
  have f1 : w.frozen? ⟨g, 1, none⟩ = false := blk_unfrozen hx 1
  cases bad with
  | true =>
    have x1' : w.cell? ⟨g, 1, none⟩ = some (.iface 64 (.agg #[.int .i64 6])) := x1
    have HX := Hid.mk hx
    have HT := Hid.mk ht
    clear hx ht x1
    go_enter Tryz.func93, Tryz.ntmps93
    go_wp2
    go_ret
    exact ⟨rfl, ⟨v, HX.out, HT.out⟩, World.grownBy.refl _ _⟩
  | false =>
    have x1' : w.cell? ⟨g, 1, none⟩ = some .nilIface := x1
    have HX := Hid.mk hx
    have HT := Hid.mk ht
    clear hx ht x1
    go_enter Tryz.func93, Tryz.ntmps93
    go_wp2
    go_ret
    exact ⟨rfl, ⟨v, blk_set HX.out 1 (errV 6), HT.out.set hB 1 _⟩, gb_set _ _ _ _⟩
end Go.Proofs.YtefkdpppcjlflaaGreatDoor.Parse
