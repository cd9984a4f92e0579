import Derived.Test.YtdhnjkcebaahcaaGreatDoorCurP
import Derived.Test.YtdhnjkcebaahcaaGreatDoorAccL
namespace Go.Proofs.YtdhnjkcebaahcaaGreatDoor.Parse
open Go Go.RowKit Go.Proofs.YtdhnjkcebaahcaaGreatDoor.Mem Go.Proofs.YtdhnjkcebaahcaaGreatDoor.Valid
set_option linter.unusedVariables false
set_option linter.unusedSimpArgs false
attribute [local go_sem ↓] Go.wp_at_zero Go.wp_at_succ

/-- The program's own number of a kind of line, and how many fields such a line has. -/
def kI (f : List UInt8) : Int := if f == wordV then 0 else if f == wordQ then 1 else if f == wordR then 2 else 3
def wI (f : List UInt8) : Int := if f == wordV then 8 else if f == wordQ then 13 else if f == wordR then 4 else 0
set_option maxHeartbeats 1600000 in
set_option maxRecDepth 100000 in
theorem kindWI (a : Option Addr) (f : List UInt8) (n c : Nat) (w : World) (hn : n = f.length) (hr : Rd w a f) :
    Calls Tryz.prog 50 #[.slice a n c] w fun e w' => e = .returned (.tuple #[.int .i64 (kI f), .int .i64 (wI f)]) ∧ w' = w := by
  have cv := conv_rd (P := Tryz.prog) w 22 9 5 a n c f hn hr Tryz.underlying22 Tryz.underlying5 Tryz.underlying9
  clear hn hr
  cases h1 : (f == [118, 101, 104, 105, 99, 108, 101]) with
  | true =>
    have HV : Hid (kI f = 0 ∧ wI f = 8) := by unfold Hid kI wI wordV; rw [h1]; simp
    go_enter Tryz.func50, Tryz.ntmps50
    go_wp2
    go_ret2
    (rw [HV.out.1, HV.out.2]; exact ⟨rfl, rfl⟩)
  | false =>
    cases h2 : (f == [114, 101, 113, 117, 101, 115, 116]) with
    | true =>
      have HV : Hid (kI f = 1 ∧ wI f = 13) := by unfold Hid kI wI wordV wordQ; rw [h1, h2]; simp
      go_enter Tryz.func50, Tryz.ntmps50
      go_wp2
      go_ret2
      (rw [HV.out.1, HV.out.2]; exact ⟨rfl, rfl⟩)
    | false =>
      cases h3 : (f == [114, 111, 97, 100]) with
      | true =>
        have HV : Hid (kI f = 2 ∧ wI f = 4) := by unfold Hid kI wI wordV wordQ wordR; rw [h1, h2, h3]; simp
        go_enter Tryz.func50, Tryz.ntmps50
        go_wp2
        go_ret2
        (rw [HV.out.1, HV.out.2]; exact ⟨rfl, rfl⟩)
      | false =>
        have HV : Hid (kI f = 3 ∧ wI f = 0) := by unfold Hid kI wI wordV wordQ wordR; rw [h1, h2, h3]; simp
        go_enter Tryz.func50, Tryz.ntmps50
        go_wp2
        go_ret2
        (rw [HV.out.1, HV.out.2]; exact ⟨rfl, rfl⟩)

/-- The reader at block r: its rows and the kind of the last line. -/
structure Rdr (B r : Nat) (w : World) (v1 v2 v3 : Value) (s : Acc) (k : Int) : Prop where
  blk : w.heap[r]? = some (.cells #[v1, v2, v3, .int .i64 k] 42)
  acc : AccAt B w v1 v2 v3 s
theorem row_but {w w' : World} {B n sz g : Nat} {v : Value} {t e : TypeId} {xs : List Value} {C : Array Value} {fr : Nat × Nat} (h : w.ownsRow B t sz v n xs) (hg : w.grownBy w' (some g)) (hb : w.heap[g]? = some (.cells C e fr)) (hne : t ≠ e) : w'.ownsRow B t sz v n xs := by
  refine ⟨h.1, ?_⟩
  rcases h.2 with h0 | ⟨b, cap, cur, h1, h2, h3, h4⟩
  · exact Or.inl h0
  · refine Or.inr ⟨b, cap, cur, h1, h2, ?_, h4⟩
    refine blk_grown h3 hg ?_
    intro e1
    rw [e1, hb] at h3
    injection h3 with h3
    injection h3 with _ h5
    exact hne h5.symm
theorem Rdr.grown {B r g : Nat} {w w' : World} {v1 v2 v3 : Value} {s : Acc} {k : Int} {bs : List UInt8} {bad : Bool} (h : Rdr B r w v1 v2 v3 s k) (hc : Cur B g w bs bad) (hg : w.grownBy w' (some g)) (hne : r ≠ g) : Rdr B r w' v1 v2 v3 s k := by
  obtain ⟨u, hx, -⟩ := hc
  exact ⟨blk_grown h.blk hg hne, row_but h.acc.v hg hx (by decide), row_but h.acc.q hg hx (by decide), row_but h.acc.r hg hx (by decide)⟩
theorem Rdr.below {B r : Nat} {w w' : World} {v1 v2 v3 : Value} {s : Acc} {k : Int} (h : Rdr B r w v1 v2 v3 s k) (hb : Below w.heap.size w w') : Rdr B r w' v1 v2 v3 s k := ⟨blk_below h.blk hb, h.acc.below hb⟩
theorem Rdr.kind {B r : Nat} {w : World} {v1 v2 v3 : Value} {s : Acc} {k : Int} (h : Rdr B r w v1 v2 v3 s k) (k' : Int) : Rdr B r (w.setCell ⟨r, 3, none⟩ (.int .i64 k')) v1 v2 v3 s k' :=
  ⟨blk_set h.blk 3 (.int .i64 k'), row_set h.acc.v h.blk (by decide), row_set h.acc.q h.blk (by decide), row_set h.acc.r h.blk (by decide)⟩

def evC (c : Int) : Value := if c = 0 then .nilIface else errV c
/-- What a line's head says: its first field, how many fields, against the kind of the line before. -/
def headC (bs : List UInt8) (k : Int) : Int := if kI (hd 32 bs) = 3 then 3 else if kI (hd 32 bs) < k then 4 else if ((split 32 bs).length : Int) ≠ wI (hd 32 bs) then 5 else 0
theorem gr_below {B g : Nat} {w w' : World} (h : w.grownBy w' (some g)) (hB : B ≤ g) (hs : B ≤ w.heap.size) : Below B w w' := below_of_grown h hB hs

set_option maxHeartbeats 1600000 in
set_option maxRecDepth 1000000 in
theorem enterI (B r g : Nat) (bs : List UInt8) (w : World) (v1 v2 v3 : Value) (s : Acc) (k : Int) (hB : B ≤ g) (hBr : B ≤ r) (hBs : B ≤ w.heap.size) (hne : r ≠ g) (h : Cur B g w bs false) (hr : Rdr B r w v1 v2 v3 s k) (hl : bs.length ≤ 1000000) :
    Calls Tryz.prog 31 #[.pointer (some ⟨r, 0, none⟩), .pointer (some ⟨g, 0, none⟩)] w fun e w' => e = .returned (evC (headC bs k)) ∧ (headC bs k = 0 → Cur B g w' (tl 32 bs) false ∧ Rdr B r w' v1 v2 v3 s (kI (hd 32 bs))) ∧ Below B w w' := by
  obtain ⟨K, hK⟩ : ∃ K, K = kI (hd 32 bs) := ⟨_, rfl⟩
  obtain ⟨N, hN⟩ : ∃ N, N = wI (hd 32 bs) := ⟨_, rfl⟩
  obtain ⟨M, hM⟩ : ∃ M, M = (split 32 bs).length := ⟨_, rfl⟩
  have HCur := Hid.mk h
  have HRd := Hid.mk hr
  have HH : Hid (headC bs k = if K = 3 then 3 else if K < k then 4 else if (M : Int) ≠ N then 5 else 0) := by unfold Hid headC; rw [hK, hN, hM]
  have HK := Hid.mk hK
  have HN := Hid.mk hN
  have HM := Hid.mk hM
  clear h hr hK hN hM
  by_cases h1 : K = 3
  · have HV : Hid (headC bs k = 3) := by unfold Hid; rw [HH.out, if_pos h1]
    have t1 : (K == 3) = true := by simpa using h1
    have h1' := Hid.mk h1
    clear h1
    go_enter Tryz.func31, Tryz.ntmps31
    go_wp2_with (first
      | (go_at_call 49; refine (countFI B g bs false _ hB HCur.out hl).mono ?_; rintro e w1 ⟨rfl, b1⟩; rw [← HM.out]; have B1 := Hid.mk b1; have C1 := Hid.mk (HCur.out.keep hBs b1); have R1 := Hid.mk (HRd.out.below b1); clear b1)
      | (go_at_call 51; refine (fieldI B g bs false _ hB C1.out hl).mono ?_; rintro e w2 ⟨⟨v, rfl, t2⟩, c2, g2⟩; have C2 := Hid.mk c2; have R2 := Hid.mk (R1.out.grown C1.out g2 hne); have HB2 : Hid (Below B w w2) := (B1.out.mono hBs).trans (gr_below g2 hB (Nat.le_trans hBs B1.out.size)); obtain ⟨p2, c2', rfl, hc2, hp2, hr2⟩ := t2.rd; have Q2 := Hid.mk hr2; have x3 : w2.cell? ⟨r, 3, none⟩ = some (.int .i64 k) := (by rw [blk_cell R2.out.blk 3]; rfl); have f3 : w2.frozen? ⟨r, 3, none⟩ = false := blk_unfrozen R2.out.blk 3; clear t2 c2 g2 hp2 hr2 hc2)
      | (go_at_call 50; refine (kindWI _ (hd 32 bs) _ c2' _ rfl Q2.out).mono ?_; rintro e w3 ⟨rfl, rfl⟩; rw [← HK.out, ← HN.out]))
    go_ret
    rw [HV.out]
    exact ⟨rfl, fun h => by omega, HB2.out⟩
  · have t1 : (K == 3) = false := by simpa using h1
    by_cases h2 : K < k
    · have HV : Hid (headC bs k = 4) := by unfold Hid; rw [HH.out, if_neg h1, if_pos h2]
      go_enter Tryz.func31, Tryz.ntmps31
      go_wp2_with (first
        | (go_at_call 49; refine (countFI B g bs false _ hB HCur.out hl).mono ?_; rintro e w1 ⟨rfl, b1⟩; rw [← HM.out]; have B1 := Hid.mk b1; have C1 := Hid.mk (HCur.out.keep hBs b1); have R1 := Hid.mk (HRd.out.below b1); clear b1)
        | (go_at_call 51; refine (fieldI B g bs false _ hB C1.out hl).mono ?_; rintro e w2 ⟨⟨v, rfl, t2⟩, c2, g2⟩; have C2 := Hid.mk c2; have R2 := Hid.mk (R1.out.grown C1.out g2 hne); have HB2 : Hid (Below B w w2) := (B1.out.mono hBs).trans (gr_below g2 hB (Nat.le_trans hBs B1.out.size)); obtain ⟨p2, c2', rfl, hc2, hp2, hr2⟩ := t2.rd; have Q2 := Hid.mk hr2; have x3 : w2.cell? ⟨r, 3, none⟩ = some (.int .i64 k) := (by rw [blk_cell R2.out.blk 3]; rfl); have f3 : w2.frozen? ⟨r, 3, none⟩ = false := blk_unfrozen R2.out.blk 3; clear t2 c2 g2 hp2 hr2 hc2)
        | (go_at_call 50; refine (kindWI _ (hd 32 bs) _ c2' _ rfl Q2.out).mono ?_; rintro e w3 ⟨rfl, rfl⟩; rw [← HK.out, ← HN.out]))
      go_ret
      rw [HV.out]
      exact ⟨rfl, fun h => by omega, HB2.out⟩
    · have t2 : decide (K < k) = false := by simpa using h2
      by_cases h3 : (M : Int) = N
      · have HV : Hid (headC bs k = 0) := by unfold Hid; rw [HH.out, if_neg h1, if_neg h2, if_neg (by simpa using h3)]
        have t3 : ((M : Int) != N) = false := by simpa using h3
        have t4 : ((M : Int) == N) = true := by simpa using h3
        have h3' := Hid.mk h3
        clear h3
        go_enter Tryz.func31, Tryz.ntmps31
        go_wp2_with (first
          | (go_at_call 49; refine (countFI B g bs false _ hB HCur.out hl).mono ?_; rintro e w1 ⟨rfl, b1⟩; rw [← HM.out]; have B1 := Hid.mk b1; have C1 := Hid.mk (HCur.out.keep hBs b1); have R1 := Hid.mk (HRd.out.below b1); clear b1)
          | (go_at_call 51; refine (fieldI B g bs false _ hB C1.out hl).mono ?_; rintro e w2 ⟨⟨v, rfl, t2⟩, c2, g2⟩; have C2 := Hid.mk c2; have R2 := Hid.mk (R1.out.grown C1.out g2 hne); have HB2 : Hid (Below B w w2) := (B1.out.mono hBs).trans (gr_below g2 hB (Nat.le_trans hBs B1.out.size)); obtain ⟨p2, c2', rfl, hc2, hp2, hr2⟩ := t2.rd; have Q2 := Hid.mk hr2; have x3 : w2.cell? ⟨r, 3, none⟩ = some (.int .i64 k) := (by rw [blk_cell R2.out.blk 3]; rfl); have f3 : w2.frozen? ⟨r, 3, none⟩ = false := blk_unfrozen R2.out.blk 3; clear t2 c2 g2 hp2 hr2 hc2)
          | (go_at_call 50; refine (kindWI _ (hd 32 bs) _ c2' _ rfl Q2.out).mono ?_; rintro e w3 ⟨rfl, rfl⟩; rw [← HK.out, ← HN.out]))
        go_ret
        rw [HV.out]
        refine ⟨rfl, fun _ => ⟨?_, ?_⟩, HB2.out.setCell (p := ⟨r, 3, none⟩) hBr _⟩
        · exact C2.out.other hBr hne.symm
        · rw [← HK.out]
          exact R2.out.kind K
      · have HV : Hid (headC bs k = 5) := by unfold Hid; rw [HH.out, if_neg h1, if_neg h2, if_pos (by simpa using h3)]
        have t3 : ((M : Int) != N) = true := by simpa using h3
        have t4 : ((M : Int) == N) = false := by simpa using h3
        go_enter Tryz.func31, Tryz.ntmps31
        go_wp2_with (first
          | (go_at_call 49; refine (countFI B g bs false _ hB HCur.out hl).mono ?_; rintro e w1 ⟨rfl, b1⟩; rw [← HM.out]; have B1 := Hid.mk b1; have C1 := Hid.mk (HCur.out.keep hBs b1); have R1 := Hid.mk (HRd.out.below b1); clear b1)
          | (go_at_call 51; refine (fieldI B g bs false _ hB C1.out hl).mono ?_; rintro e w2 ⟨⟨v, rfl, t2⟩, c2, g2⟩; have C2 := Hid.mk c2; have R2 := Hid.mk (R1.out.grown C1.out g2 hne); have HB2 : Hid (Below B w w2) := (B1.out.mono hBs).trans (gr_below g2 hB (Nat.le_trans hBs B1.out.size)); obtain ⟨p2, c2', rfl, hc2, hp2, hr2⟩ := t2.rd; have Q2 := Hid.mk hr2; have x3 : w2.cell? ⟨r, 3, none⟩ = some (.int .i64 k) := (by rw [blk_cell R2.out.blk 3]; rfl); have f3 : w2.frozen? ⟨r, 3, none⟩ = false := blk_unfrozen R2.out.blk 3; clear t2 c2 g2 hp2 hr2 hc2)
          | (go_at_call 50; refine (kindWI _ (hd 32 bs) _ c2' _ rfl Q2.out).mono ?_; rintro e w3 ⟨rfl, rfl⟩; rw [← HK.out, ← HN.out]))
        go_ret
        rw [HV.out]
        exact ⟨rfl, fun h => by omega, HB2.out⟩
end Go.Proofs.YtdhnjkcebaahcaaGreatDoor.Parse
