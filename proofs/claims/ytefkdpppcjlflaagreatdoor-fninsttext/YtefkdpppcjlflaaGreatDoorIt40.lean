import Derived.Test.YtefkdpppcjlflaaGreatDoorIt39
import Derived.Test.YtefkdpppcjlflaaGreatDoorIt35
namespace Go.Proofs.YtefkdpppcjlflaaGreatDoor.Parse
open Go Go.RowKit Go.Proofs.YtefkdpppcjlflaaGreatDoor.Mem Go.Proofs.YtefkdpppcjlflaaGreatDoor.Valid
set_option linter.unusedVariables false
set_option linter.unusedSimpArgs false
attribute [local go_sem ↓] Go.wp_at_zero Go.wp_at_succ

/-- What is left of the text, from line i on, over what came before. -/
def parseB (bs : List UInt8) (i : Nat) (s : Acc) : Res := parseL (split 10 bs) i s
theorem parseB_nil (i : Nat) (s : Acc) : parseB [] i s = ⟨0, 0, s⟩ := rfl
theorem parseB_no {bs : List UInt8} (i : Nat) (s : Acc) (h : (10 : UInt8) ∉ bs) (hp : 0 < bs.length) : parseB bs i s = ⟨2, (i : Int) + 1, noAcc⟩ := by
  unfold parseB; rw [split_no h, parseL, if_pos hp]
theorem parseB_cut {bs : List UInt8} (i : Nat) (s : Acc) (h : (10 : UInt8) ∈ bs) : parseB bs i s = if (lineF s (hd 10 bs)).1 = 0 then parseB (tl 10 bs) (i + 1) (lineF s (hd 10 bs)).2 else ⟨(lineF s (hd 10 bs)).1, (i : Int) + 1, noAcc⟩ := by
  unfold parseB
  rw [split_hd 10 bs, if_pos h]
  obtain ⟨m, r, e⟩ : ∃ m r, split 10 (tl 10 bs) = m :: r := by rw [split_hd]; exact ⟨_, _, rfl⟩
  rw [e, parseL]
/-- One line of the text, in the program's words. -/
theorem parseB_text {bs : List UInt8} (i : Nat) (s : Acc) (hs : Small s) (hp : 0 < bs.length) :
    ((textC (kd s) bs s).1 = 0 → parseB bs i s = parseB (tl 10 bs) (i + 1) (textC (kd s) bs s).2 ∧ Small (textC (kd s) bs s).2 ∧ kI (hd 32 (hd 10 bs)) = kd (textC (kd s) bs s).2) ∧ (¬ (textC (kd s) bs s).1 = 0 → parseB bs i s = ⟨(textC (kd s) bs s).1, (i : Int) + 1, noAcc⟩) := by
  unfold textC
  by_cases h : (10 : UInt8) ∈ bs
  · rw [if_pos h, parseB_cut i s h]
    obtain ⟨e1, e2⟩ := line_eq s (hd 10 bs) hs
    constructor
    · intro h0
      obtain ⟨f1, f2, f3⟩ := e2 h0
      rw [← e1, if_pos h0, f1]
      rw [f1] at f2 f3
      exact ⟨rfl, f2, f3⟩
    · intro h0
      rw [← e1, if_neg h0]
  · rw [if_neg h]
    constructor
    · intro h0; simp at h0
    · intro _
      exact parseB_no i s h hp
theorem tl_lt {sep : UInt8} {bs : List UInt8} (hp : 0 < bs.length) : (tl sep bs).length < bs.length := by unfold tl; rw [List.length_drop]; omega
def lenV : Value → Nat
  | .slice _ n _ => n
  | _ => 0
theorem accNo (B : Nat) (w : World) : AccAt B w (.slice none 0 0) (.slice none 0 0) (.slice none 0 0) noAcc := ⟨⟨by decide, Or.inl ⟨rfl, rfl⟩⟩, ⟨by decide, Or.inl ⟨rfl, rfl⟩⟩, ⟨by decide, Or.inl ⟨rfl, rfl⟩⟩⟩
theorem row_up {B B' n s : Nat} {w : World} {v : Value} {t : TypeId} {xs : List Value} (h : w.ownsRow B t s v n xs) (hB : B' ≤ B) : w.ownsRow B' t s v n xs := by
  refine ⟨h.1, ?_⟩
  rcases h.2 with h0 | ⟨g, cap, cur, h1, h2, h3⟩
  · exact Or.inl h0
  · exact Or.inr ⟨g, cap, cur, h1, Nat.le_trans hB h2, h3⟩
theorem AccAt.up {B B' : Nat} {w : World} {v1 v2 v3 : Value} {s : Acc} (h : AccAt B w v1 v2 v3 s) (hB : B' ≤ B) : AccAt B' w v1 v2 v3 s := ⟨row_up h.v hB, row_up h.q hB, row_up h.r hB⟩
theorem AccAt.setO {B : Nat} {w : World} {v1 v2 v3 : Value} {s : Acc} {b o : Nat} {C : Array Value} {fr : Nat × Nat} {e : TypeId} (h : AccAt B w v1 v2 v3 s) (hb : w.heap[b]? = some (.cells C e fr)) (h1 : 45 ≠ e) (h2 : 48 ≠ e) (h3 : 51 ≠ e) (u : Value) : AccAt B (w.setCell ⟨b, o, none⟩ u) v1 v2 v3 s :=
  ⟨row_set h.v hb h1, row_set h.q hb h2, row_set h.r hb h3⟩
theorem fin5 {b : Nat} {W : World} {z0 z1 z2 z3 z4 : Value} (X : W.heap[b]? = some (.cells #[z0, z1, z2, z3, z4] 32)) (x0 x1 x2 x3 x4 : Value) :
    ∃ Z, Z = ((((W.setCell ⟨b, 0, none⟩ x0).setCell ⟨b, 1, none⟩ x1).setCell ⟨b, 2, none⟩ x2).setCell ⟨b, 3, none⟩ x3).setCell ⟨b, 4, none⟩ x4 ∧ Z.heap[b]? = some (.cells #[x0, x1, x2, x3, x4] 32) ∧ (∀ B w, B ≤ b → Below B w W → Below B w Z) ∧ (∀ B v1 v2 v3 s, AccAt B W v1 v2 v3 s → AccAt B Z v1 v2 v3 s) := by
  have b0 := blk_set X 0 x0
  simp only [List.setIfInBounds_toArray, List.set_cons_zero, List.set_cons_succ] at b0
  have b1 := blk_set b0 1 x1
  simp only [List.setIfInBounds_toArray, List.set_cons_zero, List.set_cons_succ] at b1
  have b2 := blk_set b1 2 x2
  simp only [List.setIfInBounds_toArray, List.set_cons_zero, List.set_cons_succ] at b2
  have b3 := blk_set b2 3 x3
  simp only [List.setIfInBounds_toArray, List.set_cons_zero, List.set_cons_succ] at b3
  have b4 := blk_set b3 4 x4
  simp only [List.setIfInBounds_toArray, List.set_cons_zero, List.set_cons_succ] at b4
  refine ⟨_, rfl, b4, fun B w hB h => ?_, fun B v1 v2 v3 s h => ?_⟩
  · exact ((((h.setCell (p := ⟨b, 0, none⟩) hB x0).setCell (p := ⟨b, 1, none⟩) hB x1).setCell (p := ⟨b, 2, none⟩) hB x2).setCell (p := ⟨b, 3, none⟩) hB x3).setCell (p := ⟨b, 4, none⟩) hB x4
  · exact ((((h.setO X (by decide) (by decide) (by decide) x0).setO b0 (by decide) (by decide) (by decide) x1).setO b1 (by decide) (by decide) (by decide) x2).setO b2 (by decide) (by decide) (by decide) x3).setO b3 (by decide) (by decide) (by decide) x4
theorem small_no : Small noAcc := ⟨by decide, by decide, by decide⟩

set_option maxHeartbeats 4000000 in
set_option maxRecDepth 1000000 in
theorem parseI (a : Option Addr) (t : List UInt8) (n c : Nat) (w : World) (hn : n = t.length) (hc : n ≤ c) (hr : Rd w a t) (hl : n ≤ 1048576)
    (hg : w.cell? ⟨0, 0, none⟩ = some (.iface 107 (.agg #[.pointer (some ⟨5, 60, none⟩)]))) :
    Calls Tryz.prog 7 #[.slice a n c] w fun e w' => ∃ v1 v2 v3, e = .returned (.agg #[.int .i64 (parseT t).err, .int .i64 (parseT t).line, v1, v2, v3]) ∧ AccAt w.heap.size w' v1 v2 v3 (parseT t).acc ∧ Below w.heap.size w w' := by
  have HN := Hid.mk hn
  have HR := Hid.mk hr
  have HG := Hid.mk hg
  clear hn hr hg
  by_cases hlong : 300000 < n
  · have HV : Hid (parseT t = ⟨1, 0, noAcc⟩) := by unfold Hid parseT; rw [if_pos (by rw [← HN.out]; exact hlong)]
    have hl' : (300000 : Int) < (n : Int) := by omega
    go_enter Tryz.func7, Tryz.ntmps7
    go_wp2
    go_returns
    rw [HV.out]
    exact ⟨_, _, _, rfl, accNo _ _, by go_grown⟩
  · have HV : Hid (parseT t = parseB t 0 noAcc) := by unfold Hid parseT parseB; rw [if_neg (by rw [← HN.out]; exact hlong)]
    have hl' : decide ((300000 : Int) < (n : Int)) = false := by simp; omega
    go_enter Tryz.func7, Tryz.ntmps7
    go_wp2_with fail
    obtain ⟨W1, hW1⟩ : ∃ W1, W1 = w.alloc (.cells #[.int .i64 0, .int .i64 0, .slice none 0 0, .slice none 0 0, .slice none 0 0] 32) := ⟨_, rfl⟩
    have hsz : w.heap.size + 1 = W1.heap.size := by rw [hW1]; simp
    have H1 : Hid (Below w.heap.size w W1) := by rw [hW1]; exact below_alloc' (Below.refl _ _) _
    have X1 : Hid (W1.heap[w.heap.size]? = some (.cells #[.int .i64 0, .int .i64 0, .slice none 0 0, .slice none 0 0, .slice none 0 0] 32)) := by rw [hW1]; exact blk_new _ _
    rw [← hW1, hsz]
    clear hW1
    obtain ⟨W2, hW2⟩ : ∃ W2, W2 = W1.alloc (.cells #[.slice none 0 0, .slice none 0 0, .slice none 0 0, .int .i64 0] 58) := ⟨_, rfl⟩
    have H2 : Hid (Below W1.heap.size W1 W2) := by rw [hW2]; exact below_alloc' (Below.refl _ _) _
    have R2 : Hid (RdrE W1.heap.size W1.heap.size W2 noAcc (kd noAcc)) := ⟨_, _, _, by rw [hW2]; exact blk_new _ _, accNo _ _⟩
    rw [← hW2]
    clear hW2
    have T2 : Hid (0 < t.length → Txt W1.heap.size W2 (.slice a t.length c) t) := by
      intro hp
      obtain ⟨g, o, rfl⟩ := HR.out.some hp
      refine ⟨_, c, rfl, by rw [← HN.out]; exact hc, Or.inr ⟨g, o, rfl, fun j hj => ?_⟩⟩
      have hcell := HR.out.at j hj
      have hlt := lt_of_cell hcell
      exact ⟨by omega, cell_keep H2.out (cell_keep H1.out hcell)⟩
    go_loopw [0, 4] (fun u v wr => ∃ (bs : List UInt8) (i : Nat) (s : Acc) (p : Option Addr) (q m : Nat), u = .slice p m q ∧ v = .int .i64 ((i : Int) + 1) ∧ i + m ≤ n ∧ Hid (m = bs.length) ∧ Hid (0 < bs.length → Txt W1.heap.size wr (.slice p bs.length q) bs) ∧ Hid (RdrE W1.heap.size W1.heap.size wr s (kd s)) ∧ Hid (Small s) ∧ Hid (parseT t = parseB bs i s) ∧ Hid (Below W1.heap.size W1 wr)) (fun u _ _ => lenV u)
    case atStart => exact ⟨t, 0, noAcc, a, c, n, rfl, rfl, by omega, HN, T2, R2, small_no, HV, H2⟩
    case round =>
      obtain ⟨bs, i, s, p, q, m, rfl, rfl, him, hm, ht, hrd, hsm, hpv, hbw⟩ := hrel
      by_cases hp : 0 < m
      · have m1 : (0 : Int) < (m : Int) := by omega
        have hlen : Hid (bs.length ≤ 1000000) := by unfold Hid; rw [← hm.out]; omega
        have TT : Hid (Txt W1.heap.size wr (.slice p m q) bs) := by unfold Hid; have := ht.out (by rw [← hm.out]; exact hp); rwa [← hm.out] at this
        obtain ⟨P0, P1⟩ := parseB_text (bs := bs) i s hsm.out (by rw [← hm.out]; exact hp)
        have HC := Hid.mk (readI W1.heap.size W1.heap.size (.slice p m q) bs wr s (kd s) (Nat.le_refl _) hbw.out.size TT.out hrd.out hlen.out hsm.out)
        by_cases h0 : (textC (kd s) bs s).1 = 0
        · obtain ⟨f1, f2, f3⟩ := P0 h0
          have F1 := Hid.mk f1
          have F2 := Hid.mk f2
          have F3 := Hid.mk f3
          have HE : Hid (evC (textC (kd s) bs s).1 = .nilIface) := by unfold Hid evC; rw [if_pos h0]
          have H0 := Hid.mk h0
          have TL : Hid ((tl 10 bs).length < m) := by unfold Hid; rw [hm.out]; exact tl_lt (by rw [← hm.out]; exact hp)
          have i1 : IntKind.i64.wrap ((i : Int) + 1 + 1) = (i : Int) + 1 + 1 := by rw [IntKind.wrap_i64]; omega
          clear P0 P1 f1 f2 f3 h0 ht
          go_wp2_with (first
            | (go_at_call 22; refine HC.out.mono ?_; rintro e w3 ⟨u3, rfl, h3, b3⟩; rw [HE.out]; obtain ⟨t3, r3⟩ := h3 H0.out; obtain ⟨p3, c3, rfl, hc3, -⟩ := id t3; have T3 := Hid.mk t3; have R3 := Hid.mk r3; have B3 := Hid.mk (hbw.out.trans b3); clear h3 b3 t3 r3 hc3)
            | (go_at_call 23; refine (as_none _ _).mono ?_; rintro e w4 ⟨rfl, rfl⟩))
          obtain ⟨m3, hm3⟩ : ∃ m3, m3 = (tl 10 bs).length := ⟨_, rfl⟩
          have hlt3 : m3 < m := by rw [hm3]; exact TL.out
          refine ⟨⟨tl 10 bs, i + 1, (textC (kd s) bs s).2, p3, c3, (tl 10 bs).length, rfl, by simp [i1], by rw [← hm3]; omega, rfl, fun _ => T3.out.below ((Below.refl _ _).alloc B3.out.size _), ?_, F2.out, ?_, B3.out.alloc B3.out.size _⟩, by simp only [lenV]; rw [← hm3]; simpa using hlt3⟩
          · obtain ⟨x1, x2, x3, hx⟩ := R3.out
            rw [F3.out] at hx
            exact ⟨x1, x2, x3, hx.below ((Below.refl _ _).alloc (Nat.le_refl _) _)⟩
          · unfold Hid; rw [hpv.out]; exact F1.out
        · have PV : Hid (parseT t = ⟨(textC (kd s) bs s).1, (i : Int) + 1, noAcc⟩) := by unfold Hid; rw [hpv.out]; exact P1 h0
          have HE := Hid.mk (evC_pos h0)
          obtain ⟨C, hC⟩ : ∃ C, C = (textC (kd s) bs s).1 := ⟨_, rfl⟩
          rw [← hC] at PV HE HC
          clear P0 P1 h0 ht hC
          go_wp2_with (first
            | (go_at_call 22; refine HC.out.mono ?_; rintro e w3 ⟨u3, rfl, h3, b3⟩; rw [HE.out]; have B3 := Hid.mk (hbw.out.trans b3); have B4 : Hid (Below W1.heap.size W1 (w3.alloc (.cells #[.int .i64 0] 64))) := B3.out.alloc B3.out.size _; have g4 : (w3.alloc (.cells #[.int .i64 0] 64)).cell? ⟨0, 0, none⟩ = some (.iface 107 (.agg #[.pointer (some ⟨5, 60, none⟩)])) := cell_keep B4.out (cell_keep H1.out HG.out); have G4 := Hid.mk g4; clear h3 b3 g4)
            | (go_at_call 23; refine (as_hit C ⟨w3.heap.size, 0, none⟩ (.int .i64 0) _ G4.out (by simp) (by simp)).mono ?_; rintro e w5 ⟨rfl, hw5⟩; have B5 : Hid (Below W1.heap.size W1 w5) := (by rw [hw5]; exact ((((B4.out.alloc B4.out.size _).alloc (B4.out.alloc B4.out.size _).size _).alloc ((B4.out.alloc B4.out.size _).alloc (B4.out.alloc B4.out.size _).size _).size _).alloc (((B4.out.alloc B4.out.size _).alloc (B4.out.alloc B4.out.size _).size _).alloc ((B4.out.alloc B4.out.size _).alloc (B4.out.alloc B4.out.size _).size _).size _).size _).setCell (p := ⟨w3.heap.size, 0, none⟩) B3.out.size _); have x5 : w5.cell? ⟨w3.heap.size, 0, none⟩ = some (.int .i64 C) := (by rw [hw5]; exact World.cell?_setCell_same _ _ _ (cell_alloc' (cell_alloc' (cell_alloc' (cell_alloc' (show (w3.alloc (.cells #[.int .i64 0] 64)).cell? ⟨w3.heap.size, 0, none⟩ = some (.int .i64 0) by simp) _) _) _) _)); have X5 := Hid.mk (blk_below X1.out B5.out); have q0 := blk_cell X5.out 0; have q1 := blk_cell X5.out 1; have q2 := blk_cell X5.out 2; have q3 := blk_cell X5.out 3; have q4 := blk_cell X5.out 4; simp only [List.getElem?_toArray, List.getElem?_cons_zero, List.getElem?_cons_succ] at q0 q1 q2 q3 q4; have e0 := blk_unfrozen X5.out 0; have e1 := blk_unfrozen X5.out 1; have e2 := blk_unfrozen X5.out 2; have e3 := blk_unfrozen X5.out 3; have e4 := blk_unfrozen X5.out 4; clear hw5))
          obtain ⟨Z, hZ, XZ, bZ, aZ⟩ := fin5 X5.out (.int .i64 C) (.int .i64 ((i : Int) + 1)) (.slice none 0 0) (.slice none 0 0) (.slice none 0 0)
          rw [← hZ]
          have HBZ := Hid.mk (bZ w.heap.size w (Nat.le_refl _) (H1.out.trans (B5.out.mono (by omega))))
          have r0 := (blk_cell XZ 0).trans (show _ = some (.int .i64 C) from rfl)
          have r1 := (blk_cell XZ 1).trans (show _ = some (.int .i64 ((i : Int) + 1)) from rfl)
          have r2 := (blk_cell XZ 2).trans (show _ = some (.slice none 0 0) from rfl)
          have r3 := (blk_cell XZ 3).trans (show _ = some (.slice none 0 0) from rfl)
          have r4 := (blk_cell XZ 4).trans (show _ = some (.slice none 0 0) from rfl)
          have HAZ : Hid (AccAt w.heap.size Z (.slice none 0 0) (.slice none 0 0) (.slice none 0 0) (noAcc)) := accNo _ _
          clear hZ XZ bZ aZ q0 q1 q2 q3 q4 e0 e1 e2 e3 e4
          refine bodyPost_ret (by simp [results, Tryz.results7, go_sem, r0, r1, r2, r3, r4]; try rfl) rfl ?_
          rw [PV.out]
          exact ⟨_, _, _, rfl, HAZ.out, HBZ.out⟩
      · have m1 : decide ((0 : Int) < (m : Int)) = false := by simp; omega
        have hbn : bs = [] := List.eq_nil_of_length_eq_zero (by rw [← hm.out]; omega)
        have PV : Hid (parseT t = ⟨0, 0, s⟩) := by unfold Hid; rw [hpv.out, hbn]; rfl
        obtain ⟨x1, x2, x3, hx⟩ := hrd.out
        obtain ⟨a1, c1, rfl, -⟩ := row_shape hx.acc.v
        obtain ⟨a2, c2, rfl, -⟩ := row_shape hx.acc.q
        obtain ⟨a3, c3, rfl, -⟩ := row_shape hx.acc.r
        have HX := Hid.mk hx
        have y0 := blk_cell hx.blk 0
        have y1 := blk_cell hx.blk 1
        have y2 := blk_cell hx.blk 2
        have X5 := Hid.mk (blk_below X1.out hbw.out)
        have q0 := blk_cell X5.out 0
        have q1 := blk_cell X5.out 1
        have q2 := blk_cell X5.out 2
        have q3 := blk_cell X5.out 3
        have q4 := blk_cell X5.out 4
        simp only [List.getElem?_toArray, List.getElem?_cons_zero, List.getElem?_cons_succ] at q0 q1 q2 q3 q4 y0 y1 y2
        have e0 := blk_unfrozen X5.out 0
        have e1 := blk_unfrozen X5.out 1
        have e2 := blk_unfrozen X5.out 2
        have e3 := blk_unfrozen X5.out 3
        have e4 := blk_unfrozen X5.out 4
        clear hx ht hbn hrd
        go_wp2
        obtain ⟨Z, hZ, XZ, bZ, aZ⟩ := fin5 X5.out (.int .i64 0) (.int .i64 0) (.slice a1 s.V.length c1) (.slice a2 s.Q.length c2) (.slice a3 s.R.length c3)
        rw [← hZ]
        have HBZ := Hid.mk (bZ w.heap.size w (Nat.le_refl _) (H1.out.trans (hbw.out.mono (by omega))))
        have r0 := (blk_cell XZ 0).trans (show _ = some (.int .i64 0) from rfl)
        have r1 := (blk_cell XZ 1).trans (show _ = some (.int .i64 0) from rfl)
        have r2 := (blk_cell XZ 2).trans (show _ = some (.slice a1 s.V.length c1) from rfl)
        have r3 := (blk_cell XZ 3).trans (show _ = some (.slice a2 s.Q.length c2) from rfl)
        have r4 := (blk_cell XZ 4).trans (show _ = some (.slice a3 s.R.length c3) from rfl)
        have HAZ : Hid (AccAt w.heap.size Z (.slice a1 s.V.length c1) (.slice a2 s.Q.length c2) (.slice a3 s.R.length c3) (s)) := (aZ _ _ _ _ _ HX.out.acc).up (by omega)
        clear hZ XZ bZ aZ q0 q1 q2 q3 q4 e0 e1 e2 e3 e4
        refine bodyPost_ret (by simp [results, Tryz.results7, go_sem, r0, r1, r2, r3, r4]; try rfl) rfl ?_
        rw [PV.out]
        exact ⟨_, _, _, rfl, HAZ.out, HBZ.out⟩
end Go.Proofs.YtefkdpppcjlflaaGreatDoor.Parse
namespace Go.Proofs.YtefkdpppcjlflaaGreatDoor.Back
open Go Go.RowKit Go.Proofs.YtefkdpppcjlflaaGreatDoor.Mem Go.Proofs.YtefkdpppcjlflaaGreatDoor.Valid Go.Proofs.YtefkdpppcjlflaaGreatDoor.Parse Go.Proofs.YtefkdpppcjlflaaGreatDoor.Print
set_option linter.unusedVariables false
set_option linter.unusedSimpArgs false

/-! A line comes back from its fields. -/
theorem split_snoc {sep : UInt8} {x f : List UInt8} (hf : sep ∉ f) : split sep (x ++ sep :: f) = split sep x ++ [f] := by
  unfold split spl
  rw [List.foldl_append, List.foldl_cons]
  generalize x.foldl (stp sep) ([], []) = q
  obtain ⟨q1, q2⟩ := q
  simp only [stp, if_true]
  rw [stp_add, spl_no sep f [] hf]
  simp
theorem split_jn {L : List (List UInt8)} (h : ∀ f ∈ L, (32 : UInt8) ∉ f) : ∀ k, k < L.length → split 32 (jn L (k + 1)) = L.take (k + 1) := by
  intro k
  induction k with
  | zero =>
    intro hk
    have hm : L.getD 0 [] ∈ L := by rw [getD_get hk]; exact List.getElem_mem hk
    rw [jn, if_pos rfl, jn, List.nil_append, split_no (h _ hm), getD_get hk]
    cases L with
    | nil => simp at hk
    | cons x r => rfl
  | succ m ih =>
    intro hk
    have hm : L.getD (m + 1) [] ∈ L := by rw [getD_get hk]; exact List.getElem_mem hk
    rw [jn, if_neg (by omega), List.append_assoc]
    show split 32 (jn L (m + 1) ++ 32 :: L.getD (m + 1) []) = _
    rw [split_snoc (h _ hm), ih (by omega), getD_get hk, List.take_succ_eq_append_getElem hk]
theorem split_line {L : List (List UInt8)} (h : ∀ f ∈ L, (32 : UInt8) ∉ f) (hp : 0 < L.length) : split 32 (jn L L.length) = L := by
  obtain ⟨k, hk⟩ : ∃ k, L.length = k + 1 := ⟨L.length - 1, by omega⟩
  rw [hk, split_jn h k (by omega), List.take_of_length_le (by omega)]
theorem jn_no {L : List (List UInt8)} (h : ∀ f ∈ L, (10 : UInt8) ∉ f) : ∀ k, k ≤ L.length → (10 : UInt8) ∉ jn L k := by
  intro k
  induction k with
  | zero => intro _; simp [jn]
  | succ m ih =>
    intro hk hm
    have hml : L.getD m [] ∈ L := by rw [getD_get (by omega)]; exact List.getElem_mem (by omega)
    rw [jn] at hm
    rcases List.mem_append.1 hm with h1 | h1
    · split at h1
      · exact ih (by omega) h1
      · rcases List.mem_append.1 h1 with h2 | h2
        · exact ih (by omega) h2
        · revert h2; decide
    · exact h _ hml h1
theorem line_cut {L : List (List UInt8)} {rest : List UInt8} : line L ++ rest = jn L L.length ++ 10 :: rest := by unfold line; simp
theorem parseB_line {ln rest : List UInt8} {s s' : Acc} (i : Nat) (hn : (10 : UInt8) ∉ ln) (h : lineF s ln = (0, s')) : parseB (ln ++ 10 :: rest) i s = parseB rest (i + 1) s' := by
  unfold parseB
  rw [split_cut hn]
  obtain ⟨m, r, e⟩ : ∃ m r, split 10 rest = m :: r := by rw [split_hd]; exact ⟨_, _, rfl⟩
  rw [e, parseL, h]
  simp

theorem vehL_ok {v : Veh} (g : gV v = true) : (∀ f ∈ vehL v, (32 : UInt8) ∉ f) ∧ (∀ f ∈ vehL v, (10 : UInt8) ∉ f) := by
  have hb := veh_bd g
  simp only [gV, gVeh, gPlace, inB, Bool.and_eq_true, decide_eq_true_eq] at g
  have no : ∀ (b : UInt8), b.toNat < 45 → (b ∉ ([118, 101, 104, 105, 99, 108, 101] : List UInt8)) → ∀ f ∈ vehL v, b ∉ f := by
    intro b hb45 hw f hf
    simp only [vehL, List.mem_append, List.mem_cons, List.not_mem_nil, or_false] at hf
    rcases hf with (rfl | rfl | rfl) | rfl | rfl | rfl | rfl | rfl
    · exact hw
    · exact itoa_no (by omega) (by omega) hb45
    · exact tags_no hb45
    · exact itoa_no (by omega) (by omega) hb45
    · exact itoa_no (by omega) (by omega) hb45
    · exact itoa_no (by omega) (by omega) hb45
    · exact itoa_no (by omega) (by omega) hb45
    · exact itoa_no (by omega) (by omega) hb45
  exact ⟨no 32 (by decide) (by decide), no 10 (by decide) (by decide)⟩
theorem line_V {s : Acc} {v : Veh} (g : gV v = true) (hq : s.Q = []) (hr : s.R = []) (hl : s.V.length < 64) : lineF s (jn (vehL v) (vehL v).length) = (0, { s with V := s.V ++ [v] }) := by
  have hno := vehL_ok g
  have hb := veh_bd g
  unfold lineF
  rw [split_line hno.1 (by simp [vehL])]
  have hgv : gVeh v.a v.b v.x v.y v.o v.c v.h = true := g
  simp only [gV, gVeh, gPlace, inB, Bool.and_eq_true, decide_eq_true_eq] at g
  have na := itoa_num (z := v.a) (by omega) (by omega)
  have nx := itoa_num (z := v.x) (by omega) (by omega)
  have ny := itoa_num (z := v.y) (by omega) (by omega)
  have no := itoa_num (z := v.o) (by omega) (by omega)
  have nc := itoa_num (z := v.c) (by omega) (by omega)
  have nh := itoa_num (z := v.h) (by omega) (by omega)
  have nt := tags_back (s := v.b) (by omega) (by omega)
  have hk : kindOf (fld (vehL v) 0) = 1 := by rfl
  have hlen : (vehL v).length = 8 := rfl
  have hok : okFlds 1 (vehL v) = true := by
    unfold okFlds
    rw [hlen]
    simp only [allB, okFld, fld, vehL, Nat.reduceAdd, Nat.reduceSub]
    simp [na.1, nx.1, ny.1, no.1, nc.1, nh.1, nt.1]
  have hv : vehOf (vehL v) = v := by
    unfold vehOf tagsOf
    simp only [fld, vehL]
    simp [na.2, nx.2, ny.2, no.2, nc.2, nh.2, nt.2]
  unfold lineK
  rw [hk, if_neg (by omega), if_neg (by rw [hq, hr]; simp), if_neg (by rw [hlen]; decide), hok, if_neg (by decide), if_pos rfl, hv]
  unfold addV
  rw [hgv, if_neg (by decide), if_neg (by omega)]
theorem reqL_ok {q : Req} (g : gQ q = true) : (∀ f ∈ reqL q, (32 : UInt8) ∉ f) ∧ (∀ f ∈ reqL q, (10 : UInt8) ∉ f) := by
  simp only [gQ, gReq, gPlace, inB, Bool.and_eq_true, decide_eq_true_eq] at g
  have no : ∀ (b : UInt8), b.toNat < 45 → (b ∉ ([114, 101, 113, 117, 101, 115, 116] : List UInt8)) → ∀ f ∈ reqL q, b ∉ f := by
    intro b hb45 hw f hf
    simp only [reqL, List.mem_append, List.mem_cons, List.not_mem_nil, or_false] at hf
    rcases hf with ((rfl | rfl | rfl) | rfl | rfl | rfl | rfl | rfl) | rfl | rfl | rfl | rfl | rfl
    · exact hw
    · exact itoa_no (by omega) (by omega) hb45
    · exact tags_no hb45
    all_goals exact itoa_no (by omega) (by omega) hb45
  exact ⟨no 32 (by decide) (by decide), no 10 (by decide) (by decide)⟩
theorem line_Q {s : Acc} {q : Req} (g : gQ q = true) (hr : s.R = []) (hl : s.Q.length < 1000) : lineF s (jn (reqL q) (reqL q).length) = (0, { s with Q := s.Q ++ [q] }) := by
  have hno := reqL_ok g
  unfold lineF
  rw [split_line hno.1 (by simp [reqL])]
  have hgq : gReq q.a q.b q.x q.y q.o q.c q.h q.x' q.y' q.o' q.c' q.h' = true := g
  simp only [gQ, gReq, gPlace, inB, Bool.and_eq_true, decide_eq_true_eq] at g
  have na := itoa_num (z := q.a) (by omega) (by omega)
  have nx := itoa_num (z := q.x) (by omega) (by omega)
  have ny := itoa_num (z := q.y) (by omega) (by omega)
  have no := itoa_num (z := q.o) (by omega) (by omega)
  have nc := itoa_num (z := q.c) (by omega) (by omega)
  have nh := itoa_num (z := q.h) (by omega) (by omega)
  have nx' := itoa_num (z := q.x') (by omega) (by omega)
  have ny' := itoa_num (z := q.y') (by omega) (by omega)
  have no' := itoa_num (z := q.o') (by omega) (by omega)
  have nc' := itoa_num (z := q.c') (by omega) (by omega)
  have nh' := itoa_num (z := q.h') (by omega) (by omega)
  have nt := tags_back (s := q.b) (by omega) (by omega)
  have hk : kindOf (fld (reqL q) 0) = 2 := by rfl
  have hlen : (reqL q).length = 13 := rfl
  have hok : okFlds 2 (reqL q) = true := by
    unfold okFlds
    rw [hlen]
    simp only [allB, okFld, fld, reqL, Nat.reduceAdd, Nat.reduceSub]
    simp [na.1, nx.1, ny.1, no.1, nc.1, nh.1, nx'.1, ny'.1, no'.1, nc'.1, nh'.1, nt.1]
  have hv : reqOf (reqL q) = q := by
    unfold reqOf tagsOf
    simp only [fld, reqL]
    simp [na.2, nx.2, ny.2, no.2, nc.2, nh.2, nx'.2, ny'.2, no'.2, nc'.2, nh'.2, nt.2]
  unfold lineK
  rw [hk, if_neg (by omega), if_neg (by rw [hr]; simp), if_neg (by rw [hlen]; decide), hok, if_neg (by decide), if_neg (by omega), if_pos rfl, hv]
  unfold addQ
  rw [hgq, if_neg (by decide), if_neg (by omega)]
theorem rdL_ok {r : Mem.Rd} (h : RB r) (h' : -1000000000 < r.a ∧ r.a < 1000000000 ∧ -1000000000 < r.b ∧ r.b < 1000000000 ∧ -1000000000 < r.t ∧ r.t < 1000000000) : (∀ f ∈ rdL r, (32 : UInt8) ∉ f) ∧ (∀ f ∈ rdL r, (10 : UInt8) ∉ f) := by
  have no : ∀ (b : UInt8), b.toNat < 45 → (b ∉ ([114, 111, 97, 100] : List UInt8)) → ∀ f ∈ rdL r, b ∉ f := by
    intro b hb45 hw f hf
    simp only [rdL, List.mem_cons, List.not_mem_nil, or_false] at hf
    rcases hf with rfl | rfl | rfl | rfl
    · exact hw
    all_goals exact itoa_no (by omega) (by omega) hb45
  exact ⟨no 32 (by decide) (by decide), no 10 (by decide) (by decide)⟩
theorem line_R {s : Acc} {r : Mem.Rd} {n : Int} (hn : nodesA s = n) (hn1 : n ≤ 4000) (g : gR r n = true) (hlb : lastBefore s r = true) (hl : s.R.length < 4000) : lineF s (jn (rdL r) (rdL r).length) = (0, { s with R := s.R ++ [r] }) ∧ (10 : UInt8) ∉ jn (rdL r) (rdL r).length := by
  have hgr : gRoad r.a r.b r.t n = true := g
  have hrb := road_bd hn1 g
  simp only [gR, gRoad, inB, Bool.and_eq_true, decide_eq_true_eq] at g
  have hno := rdL_ok hrb (by omega)
  refine ⟨?_, jn_no hno.2 _ (Nat.le_refl _)⟩
  unfold lineF
  rw [split_line hno.1 (by simp [rdL])]
  have na := itoa_num (z := r.a) (by omega) (by omega)
  have nb := itoa_num (z := r.b) (by omega) (by omega)
  have nt := itoa_num (z := r.t) (by omega) (by omega)
  have hk : kindOf (fld (rdL r) 0) = 3 := by rfl
  have hlen : (rdL r).length = 4 := rfl
  have hok : okFlds 3 (rdL r) = true := by
    unfold okFlds
    rw [hlen]
    simp only [allB, okFld, fld, rdL, Nat.reduceAdd, Nat.reduceSub]
    simp [na.1, nb.1, nt.1]
  have hv : rdOf (rdL r) = r := by
    unfold rdOf
    simp only [fld, rdL]
    simp [na.2, nb.2, nt.2]
  unfold lineK
  rw [hk, if_neg (by omega), if_neg (by omega), if_neg (by rw [hlen]; decide), hok, if_neg (by decide), if_neg (by omega), if_neg (by omega), hv]
  unfold addR
  rw [hn, hgr, hlb, if_neg (by decide), if_neg (by decide), if_neg (by omega)]
end Go.Proofs.YtefkdpppcjlflaaGreatDoor.Back
