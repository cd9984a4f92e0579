import Derived.Test.YtfoigigbggickaaDoorPq38
namespace Go.Proofs.YtfoigigbggickaaDoor.Par
open Go Go.RowKit Go.Proofs.YtfoigigbggickaaDoor.Mem Go.Proofs.YtfoigigbggickaaDoor.Syn Go.Proofs.YtfoigigbggickaaDoor.Parse
set_option linter.unusedVariables false
set_option linter.unusedSimpArgs false
attribute [local go_sem ↓] Go.wp_at_zero Go.wp_at_succ

/-- An item. -/
structure Im where
  (k : Int) (n : List UInt8) (E F : List Po) (K lo hi : Int)
def pxP (T : Nat → Tk) (F i o : Nat) : Rs (List Po × Nat × Nat) := (ex T F 1 i o 0).bnd fun x => .ok (x.1.pf, x.2.1, x.2.2)
/-- An item behind its first word, by its kind; the semicolon that ends it. -/
def itemK (T : Nat → Tk) (F k j o : Nat) : Rs (Im × Nat × Nat) :=
  if k = 1 then (nameP T j).bnd fun n => (exp T 13 n.2).bnd fun j1 => (pxP T F j1 o).bnd fun e => (exp T 3 e.2.1).bnd fun z => .ok (⟨1, n.1, e.1, [], 0, 0, 0⟩, z, e.2.2)
  else if k = 2 ∨ k = 3 then (pxP T F j o).bnd fun e => (exp T 3 e.2.1).bnd fun z => .ok (⟨k, [], e.1, [], 0, 0, 0⟩, z, e.2.2)
  else if k = 4 then (pxP T F j o).bnd fun e => (exp T 43 e.2.1).bnd fun j1 => (sgnP T j1).bnd fun x => (spanP T x.2).bnd fun y => (exp T 3 y.2).bnd fun z => .ok (⟨4, [], e.1, [], x.1, y.1.1, y.1.2⟩, z, e.2.2)
  else if k = 5 then (pxP T F j o).bnd fun e => (exp T 45 e.2.1).bnd fun j1 => (pxP T F j1 e.2.2).bnd fun f => (exp T 3 f.2.1).bnd fun z => .ok (⟨5, [], e.1, f.1, 0, 0, 0⟩, z, f.2.2)
  else if k = 6 then (tagP T j).bnd fun x => (tagP T x.2).bnd fun y => (exp T 3 y.2).bnd fun z => .ok (⟨6, [], [], [], x.1, y.1, 0⟩, z, o)
  else if k = 7 then (numP T j).bnd fun x => (exp T 3 x.2).bnd fun z => .ok (⟨7, [], [], [], x.1, 0, 0⟩, z, o)
  else if k = 8 then (pxP T F j o).bnd fun e => (spanP T e.2.1).bnd fun y => (exp T 3 y.2).bnd fun z => .ok (⟨8, [], e.1, [], 0, y.1.1, y.1.2⟩, z, e.2.2)
  else (pxP T F j o).bnd fun e => (exp T 46 e.2.1).bnd fun j1 => (numP T j1).bnd fun x => (exp T 3 x.2).bnd fun z => .ok (⟨9, [], e.1, [], x.1, 0, 0⟩, z, e.2.2)
def itemP (T : Nat → Tk) (F i o : Nat) : Rs (Im × Nat × Nat) := (adv T i).bnd fun j => itemK T F ((T i).k - 15) j o
/-- An item of the call's own: its rows lie in new blocks, one behind the other. -/
structure ItO (s : Nat) (w : World) (v : Value) (im : Im) (vE vF : Value) (m : Nat) : Prop where
  v : v = .agg #[.int .i64 im.k, .string ⟨im.n.toArray⟩, vE, vF, .int .i64 im.K, .int .i64 im.lo, .int .i64 im.hi]
  e : OwnO s w vE im.E
  eb : ∀ g, vE.ownBlock = some g → g < m
  sm : s ≤ m
  f : OwnO m w vF im.F
theorem OwnO.keepB {B : Nat} {w w' : World} {v : Value} {L : List Po} (h : OwnO B w v L) (hk : ∀ g C fr, B ≤ g → w.heap[g]? = some (.cells C 82 fr) → w'.heap[g]? = some (.cells C 82 fr)) : OwnO B w' v L := by
  refine ⟨h.1, ?_⟩
  rcases h.2 with h0 | ⟨g, cap, cur, h1, h2, h3, h4⟩
  · exact Or.inl h0
  · exact Or.inr ⟨g, cap, cur, h1, h2, hk g _ _ h2 h3, h4⟩
theorem OwnO.gb {B b : Nat} {w w' : World} {v : Value} {L : List Po} (h : OwnO B w v L) (g : w.grownBy w' (some b)) (hb : b < B) : OwnO B w' v L := h.keepB fun x C fr hx hc => by
  rw [g.block x (blk_lt hc) (by simp; omega)]; exact hc
theorem OwnO.st {B r i : Nat} {w : World} {v u : Value} {L : List Po} (h : OwnO B w v L) (hr : r < B) : OwnO B (w.setCell ⟨r, i, none⟩ u) v L := h.keepB fun x C fr hx hc => blk_set_other hc (show x ≠ r by omega) _
theorem OwnO.sl {B : Nat} {w : World} {v : Value} {L : List Po} (h : OwnO B w v L) : ∃ a c, v = .slice a L.length c := by
  obtain ⟨a, c, e, -⟩ := row_shape h; exact ⟨a, c, e⟩
theorem OwnO.hi {B : Nat} {w : World} {v : Value} {L : List Po} (h : OwnO B w v L) : ∀ g, v.ownBlock = some g → g < w.heap.size := fun g e => (h.lt g e).2
/-- A fault of an expression's reader is no want of fuel. -/
theorem px_no {T : Nat → Tk} {F i o : Nat} (h : pxP T F i o ≠ .out) : ex T F 1 i o 0 ≠ .out := fun e => h (by unfold pxP; rw [e]; rfl)
theorem pxI (B b : Nat) (a : Option Addr) (c : Nat) (t : List UInt8) (F i o : Nat) (w : World) (h : PS B b a c t i o 0 w) (ho : o ≤ 2000) (hn : pxP (tkT t) F i o ≠ .out) :
    Calls Tryd.prog 52 #[.pointer (some ⟨b, 0, none⟩)] w fun e w' => Res (pxP (tkT t) F i o) (fun x e w' => ∃ v, e = .returned v ∧ OwnO w.heap.size w' v x.1 ∧ PS B b a c t x.2.1 x.2.2 0 w' ∧ x.2.2 ≤ 2000) e w' ∧ w.grownBy w' (some b) := postfixI B b a c t F i o w h ho (px_no hn)

set_option maxHeartbeats 3200000 in
set_option maxRecDepth 1000000 in
theorem item1 (B b : Nat) (a : Option Addr) (c : Nat) (t : List UInt8) (F i j o : Nat) (w W : World) (hk : (tkT t i).k = 16) (h : PS B b a c t i o 0 w) (ho : o ≤ 2000) (ha : adv (tkT t) i = .ok j) (hn : itemK (tkT t) F 1 j o ≠ .out) :
    Calls Tryd.prog 33 #[.pointer (some ⟨b, 0, none⟩)] w fun e w' => Res (itemK (tkT t) F 1 j o) (fun x e w' => ∃ v vE vF m, e = .returned v ∧ ItO w.heap.size w' v x.1 vE vF m ∧ PS B b a c t x.2.1 x.2.2 0 w' ∧ x.2.2 ≤ 2000) e w' ∧ w.grownBy w' (some b) := by
  have y2 := Px.c2 h
  dsimp only at y2
  rw [hk] at y2
  have hlt := Px.lt h
  have e9 : IntKind.i64.wrap ((((16 : Nat) : Int)) - 16) = 0 := by decide
  obtain ⟨W1, hW1⟩ : ∃ W, W = (w.alloc (.cells #[.int .i64 0, .string ⟨#[]⟩, .slice none 0 0, .slice none 0 0, .int .i64 0, .int .i64 0, .int .i64 0] 45)).alloc (.cells #[.int .i64 1, .string ⟨#[]⟩, .slice none 0 0, .slice none 0 0, .int .i64 0, .int .i64 0, .int .i64 0] 45) := ⟨_, rfl⟩
  have A1 : Hid (Below w.heap.size w W1) := by rw [hW1]; exact below_alloc' (below_alloc' (Below.refl _ _) _) _
  have RZ0 : Hid (W1.heap[w.heap.size]? = some (.cells #[.int .i64 0, .string ⟨#[]⟩, .slice none 0 0, .slice none 0 0, .int .i64 0, .int .i64 0, .int .i64 0] 45)) := by rw [hW1]; exact blk_alloc (blk_new _ _) _
  have BX0 : Hid (W1.heap[w.heap.size + 1]? = some (.cells #[.int .i64 1, .string ⟨#[]⟩, .slice none 0 0, .slice none 0 0, .int .i64 0, .int .i64 0, .int .i64 0] 45)) := by rw [hW1]; exact blk_new1 _ _ _
  have P0 : Hid (PS B b a c t i o 0 W1) := Px.below h A1.out
  have G0 : Hid (w.grownBy W1 (some b)) := gb_below A1.out
  have hs0 : w.heap.size + 2 ≤ W1.heap.size := by rw [hW1]; simp
  have HN := Hid.mk hn
  have HA := Hid.mk ha
  clear h hk hn ha
  unfold itemK at HN ⊢
  rw [if_pos (by omega)] at HN ⊢
  go_enter Tryd.func33, Tryd.ntmps33
  go_wp2_with fail
  rw [← hW1]
  clear hW1
  refine (advI B b a c t i o 0 W1 P0.out).mono ?_
  rintro e w0 ⟨p, g⟩
  rw [HA.out] at p
  obtain ⟨rfl, p0⟩ := p
  have PA := Hid.mk p0
  have GA := Hid.mk (gb_then G0.out g)
  have BXa := Hid.mk (blk_grown' BX0.out g (by omega))
  have RZa := Hid.mk (blk_grown' RZ0.out g (by omega))
  have hsa : w.heap.size + 2 ≤ w0.heap.size := Nat.le_trans hs0 g.size
  have k0 := (blk_cell BXa.out 0).trans rfl
  clear p0 g y2 e9
  go_wp2_with fail
  clear k0
  refine (nameI B b a c t j o 0 w0 PA.out).mono ?_
  rintro e w1 ⟨p, g⟩
  cases hr1 : nameP (tkT t) j with
  | out => rw [hr1] at p; exact p.elim
  | bad cc aa =>
    have HR1 := Hid.mk hr1
    rw [hr1] at p; have p : e = .panicked (flV cc aa) := p; subst p
    exact ⟨rfl, (by simp only [HR1.out, bnd_ok, bnd_bad]; exact rfl), gb_then (GA.out) g⟩
  | ok x1 =>
    have HR1 := Hid.mk hr1
    rw [hr1] at p
    obtain ⟨rfl, p1⟩ := p
    have P1 := Hid.mk p1
    have GG1 := Hid.mk g
    have G1 := Hid.mk (gb_then (GA.out) g)
    clear p1 g hr1
    have BX1 := Hid.mk (blk_grown' BXa.out GG1.out (by omega))
    have RZ1 := Hid.mk (blk_grown' RZa.out GG1.out (by omega))
    have hs1 : w.heap.size + 2 ≤ w1.heap.size := Nat.le_trans hsa GG1.out.size
    have cc1 := (blk_cell BX1.out 1).trans rfl
    have f1 := blk_unfrozen BX1.out 1
    have BX1s : Hid ((w1.setCell ⟨w.heap.size + 1, 1, none⟩ (.string ⟨x1.1.toArray⟩)).heap[w.heap.size + 1]? = some (.cells #[.int .i64 1, .string ⟨x1.1.toArray⟩, .slice none 0 0, .slice none 0 0, .int .i64 0, .int .i64 0, .int .i64 0] 45)) := by unfold Hid; have := blk_set BX1.out 1 (.string ⟨x1.1.toArray⟩); simpa using this
    have RZ1s : Hid ((w1.setCell ⟨w.heap.size + 1, 1, none⟩ (.string ⟨x1.1.toArray⟩)).heap[w.heap.size]? = some (.cells #[.int .i64 0, .string ⟨#[]⟩, .slice none 0 0, .slice none 0 0, .int .i64 0, .int .i64 0, .int .i64 0] 45)) := blk_set_other RZ1.out (show w.heap.size ≠ w.heap.size + 1 by omega) _
    have P1s : Hid (PS B b a c t x1.2 o 0 (w1.setCell ⟨w.heap.size + 1, 1, none⟩ (.string ⟨x1.1.toArray⟩))) := Px.other P1.out (by have := P1.out.hB; omega) (by omega)
    obtain ⟨V1, hV1⟩ : ∃ W, W = (w1.setCell ⟨w.heap.size + 1, 1, none⟩ (.string ⟨x1.1.toArray⟩)) := ⟨_, rfl⟩
    have GV1 : Hid (w.grownBy V1 (some b)) := by rw [hV1]; exact (gb_new' G1.out (by omega))
    have sv1 : Hid (V1.heap.size = w1.heap.size) := by rw [hV1]; unfold Hid; simp only [size_set]
    rw [← hV1] at BX1s RZ1s P1s
    have hs1v : w.heap.size + 2 ≤ V1.heap.size := by rw [sv1.out]; exact hs1
    go_wp2_with fail
    rw [← hV1]
    clear hV1 cc1 f1
    refine (expI B b a c t x1.2 o 0 V1 P1s.out 13).mono ?_
    rintro e w2 ⟨p, g⟩
    cases hr2 : exp (tkT t) 13 x1.2 with
    | out => rw [hr2] at p; exact p.elim
    | bad cc aa =>
      have HR2 := Hid.mk hr2
      rw [hr2] at p; have p : e = .panicked (flV cc aa) := p; subst p
      exact ⟨rfl, (by simp only [HR1.out, HR2.out, bnd_ok, bnd_bad]; exact rfl), gb_then (GV1.out) g⟩
    | ok x2 =>
      have HR2 := Hid.mk hr2
      rw [hr2] at p
      obtain ⟨rfl, p2⟩ := p
      have P2 := Hid.mk p2
      have GG2 := Hid.mk g
      have G2 := Hid.mk (gb_then (GV1.out) g)
      clear p2 g hr2
      have BX2 := Hid.mk (blk_grown' BX1s.out GG2.out (by omega))
      have RZ2 := Hid.mk (blk_grown' RZ1s.out GG2.out (by omega))
      have hs2 : w.heap.size + 2 ≤ w2.heap.size := Nat.le_trans hs1v GG2.out.size
      go_wp2_with fail
      have hn3 : pxP (tkT t) F x2 o ≠ .out := fun e => HN.out (by simp only [HR1.out, HR2.out, bnd_ok, e]; rfl)
      refine (pxI B b a c t F x2 o w2 P2.out ho hn3).mono ?_
      rintro e w3 ⟨p, g⟩
      cases hr3 : pxP (tkT t) F x2 o with
      | out => rw [hr3] at p; exact p.elim
      | bad cc aa =>
        have HR3 := Hid.mk hr3
        rw [hr3] at p; have p : e = .panicked (flV cc aa) := p; subst p
        exact ⟨rfl, (by simp only [HR1.out, HR2.out, HR3.out, bnd_ok, bnd_bad]; exact rfl), gb_then (G2.out) g⟩
      | ok x3 =>
        have HR3 := Hid.mk hr3
        rw [hr3] at p
        obtain ⟨v3, rfl, ow3, p3, hx3⟩ := p
        have P3 := Hid.mk p3
        have GG3 := Hid.mk g
        have G3 := Hid.mk (gb_then (G2.out) g)
        obtain ⟨a3, c3, rfl⟩ := ow3.sl
        clear p3 g hr3
        obtain ⟨B3, hB3⟩ : ∃ n, n = w2.heap.size := ⟨_, rfl⟩
        have hsB3 : w.heap.size + 2 ≤ B3 := by rw [hB3]; exact hs2
        have BX3 := Hid.mk (blk_grown' BX2.out GG3.out (by omega))
        have RZ3 := Hid.mk (blk_grown' RZ2.out GG3.out (by omega))
        have hs3 : w.heap.size + 2 ≤ w3.heap.size := Nat.le_trans hs2 GG3.out.size
        have OW3 : Hid (OwnO B3 w3 (.slice a3 x3.1.length c3) x3.1) := by rw [hB3]; exact ow3
        clear ow3 hB3
        have hup3 := Hid.mk (OwnO.hi OW3.out)
        have cc2 := (blk_cell BX3.out 2).trans rfl
        have f2 := blk_unfrozen BX3.out 2
        have BX3s : Hid ((w3.setCell ⟨w.heap.size + 1, 2, none⟩ (.slice a3 x3.1.length c3)).heap[w.heap.size + 1]? = some (.cells #[.int .i64 1, .string ⟨x1.1.toArray⟩, .slice a3 x3.1.length c3, .slice none 0 0, .int .i64 0, .int .i64 0, .int .i64 0] 45)) := by unfold Hid; have := blk_set BX3.out 2 (.slice a3 x3.1.length c3); simpa using this
        have RZ3s : Hid ((w3.setCell ⟨w.heap.size + 1, 2, none⟩ (.slice a3 x3.1.length c3)).heap[w.heap.size]? = some (.cells #[.int .i64 0, .string ⟨#[]⟩, .slice none 0 0, .slice none 0 0, .int .i64 0, .int .i64 0, .int .i64 0] 45)) := blk_set_other RZ3.out (show w.heap.size ≠ w.heap.size + 1 by omega) _
        have P3s : Hid (PS B b a c t x3.2.1 x3.2.2 0 (w3.setCell ⟨w.heap.size + 1, 2, none⟩ (.slice a3 x3.1.length c3))) := Px.other P3.out (by have := P3.out.hB; omega) (by omega)
        have OW3s : Hid (OwnO B3 (w3.setCell ⟨w.heap.size + 1, 2, none⟩ (.slice a3 x3.1.length c3)) (.slice a3 x3.1.length c3) x3.1) := OwnO.st OW3.out (by omega)
        obtain ⟨V3, hV3⟩ : ∃ W, W = (w3.setCell ⟨w.heap.size + 1, 2, none⟩ (.slice a3 x3.1.length c3)) := ⟨_, rfl⟩
        have GV3 : Hid (w.grownBy V3 (some b)) := by rw [hV3]; exact (gb_new' G3.out (by omega))
        have sv3 : Hid (V3.heap.size = w3.heap.size) := by rw [hV3]; unfold Hid; simp only [size_set]
        rw [← hV3] at BX3s RZ3s P3s OW3s
        have hs3v : w.heap.size + 2 ≤ V3.heap.size := by rw [sv3.out]; exact hs3
        go_wp2_with fail
        rw [← hV3]
        clear hV3 cc2 f2
        refine (expI B b a c t x3.2.1 x3.2.2 0 V3 P3s.out 3).mono ?_
        rintro e w4 ⟨p, g⟩
        cases hr4 : exp (tkT t) 3 x3.2.1 with
        | out => rw [hr4] at p; exact p.elim
        | bad cc aa =>
          have HR4 := Hid.mk hr4
          rw [hr4] at p; have p : e = .panicked (flV cc aa) := p; subst p
          exact ⟨rfl, (by simp only [HR1.out, HR2.out, HR3.out, HR4.out, bnd_ok, bnd_bad]; exact rfl), gb_then (GV3.out) g⟩
        | ok x4 =>
          have HR4 := Hid.mk hr4
          rw [hr4] at p
          obtain ⟨rfl, p4⟩ := p
          have P4 := Hid.mk p4
          have GG4 := Hid.mk g
          have G4 := Hid.mk (gb_then (GV3.out) g)
          clear p4 g hr4
          have BX4 := Hid.mk (blk_grown' BX3s.out GG4.out (by omega))
          have RZ4 := Hid.mk (blk_grown' RZ3s.out GG4.out (by omega))
          have hs4 : w.heap.size + 2 ≤ w4.heap.size := Nat.le_trans hs3v GG4.out.size
          have OW3_4 := Hid.mk (OwnO.gb OW3s.out GG4.out (by omega))
          have cc0 := (blk_cell BX4.out 0).trans rfl
          have cc1 := (blk_cell BX4.out 1).trans rfl
          have cc2 := (blk_cell BX4.out 2).trans rfl
          have cc3 := (blk_cell BX4.out 3).trans rfl
          have cc4 := (blk_cell BX4.out 4).trans rfl
          have cc5 := (blk_cell BX4.out 5).trans rfl
          have cc6 := (blk_cell BX4.out 6).trans rfl
          have z0 := (blk_cell RZ4.out 0).trans rfl
          have f0 := blk_unfrozen RZ4.out 0
          have z1 := (blk_cell RZ4.out 1).trans rfl
          have f1 := blk_unfrozen RZ4.out 1
          have z2 := (blk_cell RZ4.out 2).trans rfl
          have f2 := blk_unfrozen RZ4.out 2
          have z3 := (blk_cell RZ4.out 3).trans rfl
          have f3 := blk_unfrozen RZ4.out 3
          have z4 := (blk_cell RZ4.out 4).trans rfl
          have f4 := blk_unfrozen RZ4.out 4
          have z5 := (blk_cell RZ4.out 5).trans rfl
          have f5 := blk_unfrozen RZ4.out 5
          have z6 := (blk_cell RZ4.out 6).trans rfl
          have f6 := blk_unfrozen RZ4.out 6
          have PZ : Hid (PS B b a c t x4 x3.2.2 0 (((((((w4.setCell ⟨w.heap.size, 0, none⟩ (.int .i64 1)).setCell ⟨w.heap.size, 1, none⟩ (.string ⟨x1.1.toArray⟩)).setCell ⟨w.heap.size, 2, none⟩ (.slice a3 x3.1.length c3)).setCell ⟨w.heap.size, 3, none⟩ (.slice none 0 0)).setCell ⟨w.heap.size, 4, none⟩ (.int .i64 0)).setCell ⟨w.heap.size, 5, none⟩ (.int .i64 0)).setCell ⟨w.heap.size, 6, none⟩ (.int .i64 0))) := Px.other (Px.other (Px.other (Px.other (Px.other (Px.other (Px.other (P4.out) (by have := P4.out.hB; omega) (by omega)) (by have := P4.out.hB; omega) (by omega)) (by have := P4.out.hB; omega) (by omega)) (by have := P4.out.hB; omega) (by omega)) (by have := P4.out.hB; omega) (by omega)) (by have := P4.out.hB; omega) (by omega)) (by have := P4.out.hB; omega) (by omega)
          have IT : Hid (ItO w.heap.size (((((((w4.setCell ⟨w.heap.size, 0, none⟩ (.int .i64 1)).setCell ⟨w.heap.size, 1, none⟩ (.string ⟨x1.1.toArray⟩)).setCell ⟨w.heap.size, 2, none⟩ (.slice a3 x3.1.length c3)).setCell ⟨w.heap.size, 3, none⟩ (.slice none 0 0)).setCell ⟨w.heap.size, 4, none⟩ (.int .i64 0)).setCell ⟨w.heap.size, 5, none⟩ (.int .i64 0)).setCell ⟨w.heap.size, 6, none⟩ (.int .i64 0)) (.agg #[.int .i64 1, .string ⟨x1.1.toArray⟩, .slice a3 x3.1.length c3, .slice none 0 0, .int .i64 0, .int .i64 0, .int .i64 0]) ⟨1, x1.1, x3.1, [], 0, 0, 0⟩ (.slice a3 x3.1.length c3) (.slice none 0 0) w4.heap.size) := ⟨rfl, own_base (OwnO.st (OwnO.st (OwnO.st (OwnO.st (OwnO.st (OwnO.st (OwnO.st (OW3_4.out) (by omega)) (by omega)) (by omega)) (by omega)) (by omega)) (by omega)) (by omega)) (by omega), OwnO.hi OW3_4.out, by omega, World.ownsRow_nil _ _ _ _⟩
          go_wp2
          refine bodyPost_ret (by simp [results, Tryd.results33, go_sem, z0, z1, z2, z3, z4, z5, z6]; try rfl) rfl ?_
          exact ⟨(by simp only [HR1.out, HR2.out, HR3.out, HR4.out, bnd_ok]; exact ⟨_, _, _, _, rfl, IT.out, PZ.out, hx3⟩), (gb_new' (gb_new' (gb_new' (gb_new' (gb_new' (gb_new' (gb_new' G4.out (Nat.le_refl _)) (Nat.le_refl _)) (Nat.le_refl _)) (Nat.le_refl _)) (Nat.le_refl _)) (Nat.le_refl _)) (Nat.le_refl _))⟩

set_option maxHeartbeats 3200000 in
set_option maxRecDepth 1000000 in
theorem item2 (B b : Nat) (a : Option Addr) (c : Nat) (t : List UInt8) (F i j o : Nat) (w W : World) (hk : (tkT t i).k = 17) (h : PS B b a c t i o 0 w) (ho : o ≤ 2000) (ha : adv (tkT t) i = .ok j) (hn : itemK (tkT t) F 2 j o ≠ .out) :
    Calls Tryd.prog 33 #[.pointer (some ⟨b, 0, none⟩)] w fun e w' => Res (itemK (tkT t) F 2 j o) (fun x e w' => ∃ v vE vF m, e = .returned v ∧ ItO w.heap.size w' v x.1 vE vF m ∧ PS B b a c t x.2.1 x.2.2 0 w' ∧ x.2.2 ≤ 2000) e w' ∧ w.grownBy w' (some b) := by
  have y2 := Px.c2 h
  dsimp only at y2
  rw [hk] at y2
  have hlt := Px.lt h
  have e9 : IntKind.i64.wrap ((((17 : Nat) : Int)) - 16) = 1 := by decide
  obtain ⟨W1, hW1⟩ : ∃ W, W = (w.alloc (.cells #[.int .i64 0, .string ⟨#[]⟩, .slice none 0 0, .slice none 0 0, .int .i64 0, .int .i64 0, .int .i64 0] 45)).alloc (.cells #[.int .i64 2, .string ⟨#[]⟩, .slice none 0 0, .slice none 0 0, .int .i64 0, .int .i64 0, .int .i64 0] 45) := ⟨_, rfl⟩
  have A1 : Hid (Below w.heap.size w W1) := by rw [hW1]; exact below_alloc' (below_alloc' (Below.refl _ _) _) _
  have RZ0 : Hid (W1.heap[w.heap.size]? = some (.cells #[.int .i64 0, .string ⟨#[]⟩, .slice none 0 0, .slice none 0 0, .int .i64 0, .int .i64 0, .int .i64 0] 45)) := by rw [hW1]; exact blk_alloc (blk_new _ _) _
  have BX0 : Hid (W1.heap[w.heap.size + 1]? = some (.cells #[.int .i64 2, .string ⟨#[]⟩, .slice none 0 0, .slice none 0 0, .int .i64 0, .int .i64 0, .int .i64 0] 45)) := by rw [hW1]; exact blk_new1 _ _ _
  have P0 : Hid (PS B b a c t i o 0 W1) := Px.below h A1.out
  have G0 : Hid (w.grownBy W1 (some b)) := gb_below A1.out
  have hs0 : w.heap.size + 2 ≤ W1.heap.size := by rw [hW1]; simp
  have HN := Hid.mk hn
  have HA := Hid.mk ha
  clear h hk hn ha
  unfold itemK at HN ⊢
  rw [if_neg (by omega), if_pos (by omega)] at HN ⊢
  go_enter Tryd.func33, Tryd.ntmps33
  go_wp2_with fail
  rw [← hW1]
  clear hW1
  refine (advI B b a c t i o 0 W1 P0.out).mono ?_
  rintro e w0 ⟨p, g⟩
  rw [HA.out] at p
  obtain ⟨rfl, p0⟩ := p
  have PA := Hid.mk p0
  have GA := Hid.mk (gb_then G0.out g)
  have BXa := Hid.mk (blk_grown' BX0.out g (by omega))
  have RZa := Hid.mk (blk_grown' RZ0.out g (by omega))
  have hsa : w.heap.size + 2 ≤ w0.heap.size := Nat.le_trans hs0 g.size
  have k0 := (blk_cell BXa.out 0).trans rfl
  clear p0 g y2 e9
  go_wp2_with fail
  clear k0
  have hn1 : pxP (tkT t) F j o ≠ .out := fun e => HN.out (by simp only [bnd_ok, e]; rfl)
  refine (pxI B b a c t F j o w0 PA.out ho hn1).mono ?_
  rintro e w1 ⟨p, g⟩
  cases hr1 : pxP (tkT t) F j o with
  | out => rw [hr1] at p; exact p.elim
  | bad cc aa =>
    have HR1 := Hid.mk hr1
    rw [hr1] at p; have p : e = .panicked (flV cc aa) := p; subst p
    exact ⟨rfl, (by simp only [HR1.out, bnd_ok, bnd_bad]; exact rfl), gb_then (GA.out) g⟩
  | ok x1 =>
    have HR1 := Hid.mk hr1
    rw [hr1] at p
    obtain ⟨v1, rfl, ow1, p1, hx1⟩ := p
    have P1 := Hid.mk p1
    have GG1 := Hid.mk g
    have G1 := Hid.mk (gb_then (GA.out) g)
    obtain ⟨a1, c1, rfl⟩ := ow1.sl
    clear p1 g hr1
    obtain ⟨B1, hB1⟩ : ∃ n, n = w0.heap.size := ⟨_, rfl⟩
    have hsB1 : w.heap.size + 2 ≤ B1 := by rw [hB1]; exact hsa
    have BX1 := Hid.mk (blk_grown' BXa.out GG1.out (by omega))
    have RZ1 := Hid.mk (blk_grown' RZa.out GG1.out (by omega))
    have hs1 : w.heap.size + 2 ≤ w1.heap.size := Nat.le_trans hsa GG1.out.size
    have OW1 : Hid (OwnO B1 w1 (.slice a1 x1.1.length c1) x1.1) := by rw [hB1]; exact ow1
    clear ow1 hB1
    have hup1 := Hid.mk (OwnO.hi OW1.out)
    have cc2 := (blk_cell BX1.out 2).trans rfl
    have f2 := blk_unfrozen BX1.out 2
    have BX1s : Hid ((w1.setCell ⟨w.heap.size + 1, 2, none⟩ (.slice a1 x1.1.length c1)).heap[w.heap.size + 1]? = some (.cells #[.int .i64 2, .string ⟨#[]⟩, .slice a1 x1.1.length c1, .slice none 0 0, .int .i64 0, .int .i64 0, .int .i64 0] 45)) := by unfold Hid; have := blk_set BX1.out 2 (.slice a1 x1.1.length c1); simpa using this
    have RZ1s : Hid ((w1.setCell ⟨w.heap.size + 1, 2, none⟩ (.slice a1 x1.1.length c1)).heap[w.heap.size]? = some (.cells #[.int .i64 0, .string ⟨#[]⟩, .slice none 0 0, .slice none 0 0, .int .i64 0, .int .i64 0, .int .i64 0] 45)) := blk_set_other RZ1.out (show w.heap.size ≠ w.heap.size + 1 by omega) _
    have P1s : Hid (PS B b a c t x1.2.1 x1.2.2 0 (w1.setCell ⟨w.heap.size + 1, 2, none⟩ (.slice a1 x1.1.length c1))) := Px.other P1.out (by have := P1.out.hB; omega) (by omega)
    have OW1s : Hid (OwnO B1 (w1.setCell ⟨w.heap.size + 1, 2, none⟩ (.slice a1 x1.1.length c1)) (.slice a1 x1.1.length c1) x1.1) := OwnO.st OW1.out (by omega)
    obtain ⟨V1, hV1⟩ : ∃ W, W = (w1.setCell ⟨w.heap.size + 1, 2, none⟩ (.slice a1 x1.1.length c1)) := ⟨_, rfl⟩
    have GV1 : Hid (w.grownBy V1 (some b)) := by rw [hV1]; exact (gb_new' G1.out (by omega))
    have sv1 : Hid (V1.heap.size = w1.heap.size) := by rw [hV1]; unfold Hid; simp only [size_set]
    rw [← hV1] at BX1s RZ1s P1s OW1s
    have hs1v : w.heap.size + 2 ≤ V1.heap.size := by rw [sv1.out]; exact hs1
    go_wp2_with fail
    rw [← hV1]
    clear hV1 cc2 f2
    refine (expI B b a c t x1.2.1 x1.2.2 0 V1 P1s.out 3).mono ?_
    rintro e w2 ⟨p, g⟩
    cases hr2 : exp (tkT t) 3 x1.2.1 with
    | out => rw [hr2] at p; exact p.elim
    | bad cc aa =>
      have HR2 := Hid.mk hr2
      rw [hr2] at p; have p : e = .panicked (flV cc aa) := p; subst p
      exact ⟨rfl, (by simp only [HR1.out, HR2.out, bnd_ok, bnd_bad]; exact rfl), gb_then (GV1.out) g⟩
    | ok x2 =>
      have HR2 := Hid.mk hr2
      rw [hr2] at p
      obtain ⟨rfl, p2⟩ := p
      have P2 := Hid.mk p2
      have GG2 := Hid.mk g
      have G2 := Hid.mk (gb_then (GV1.out) g)
      clear p2 g hr2
      have BX2 := Hid.mk (blk_grown' BX1s.out GG2.out (by omega))
      have RZ2 := Hid.mk (blk_grown' RZ1s.out GG2.out (by omega))
      have hs2 : w.heap.size + 2 ≤ w2.heap.size := Nat.le_trans hs1v GG2.out.size
      have OW1_2 := Hid.mk (OwnO.gb OW1s.out GG2.out (by omega))
      have cc0 := (blk_cell BX2.out 0).trans rfl
      have cc1 := (blk_cell BX2.out 1).trans rfl
      have cc2 := (blk_cell BX2.out 2).trans rfl
      have cc3 := (blk_cell BX2.out 3).trans rfl
      have cc4 := (blk_cell BX2.out 4).trans rfl
      have cc5 := (blk_cell BX2.out 5).trans rfl
      have cc6 := (blk_cell BX2.out 6).trans rfl
      have z0 := (blk_cell RZ2.out 0).trans rfl
      have f0 := blk_unfrozen RZ2.out 0
      have z1 := (blk_cell RZ2.out 1).trans rfl
      have f1 := blk_unfrozen RZ2.out 1
      have z2 := (blk_cell RZ2.out 2).trans rfl
      have f2 := blk_unfrozen RZ2.out 2
      have z3 := (blk_cell RZ2.out 3).trans rfl
      have f3 := blk_unfrozen RZ2.out 3
      have z4 := (blk_cell RZ2.out 4).trans rfl
      have f4 := blk_unfrozen RZ2.out 4
      have z5 := (blk_cell RZ2.out 5).trans rfl
      have f5 := blk_unfrozen RZ2.out 5
      have z6 := (blk_cell RZ2.out 6).trans rfl
      have f6 := blk_unfrozen RZ2.out 6
      have PZ : Hid (PS B b a c t x2 x1.2.2 0 (((((((w2.setCell ⟨w.heap.size, 0, none⟩ (.int .i64 2)).setCell ⟨w.heap.size, 1, none⟩ (.string ⟨#[]⟩)).setCell ⟨w.heap.size, 2, none⟩ (.slice a1 x1.1.length c1)).setCell ⟨w.heap.size, 3, none⟩ (.slice none 0 0)).setCell ⟨w.heap.size, 4, none⟩ (.int .i64 0)).setCell ⟨w.heap.size, 5, none⟩ (.int .i64 0)).setCell ⟨w.heap.size, 6, none⟩ (.int .i64 0))) := Px.other (Px.other (Px.other (Px.other (Px.other (Px.other (Px.other (P2.out) (by have := P2.out.hB; omega) (by omega)) (by have := P2.out.hB; omega) (by omega)) (by have := P2.out.hB; omega) (by omega)) (by have := P2.out.hB; omega) (by omega)) (by have := P2.out.hB; omega) (by omega)) (by have := P2.out.hB; omega) (by omega)) (by have := P2.out.hB; omega) (by omega)
      have IT : Hid (ItO w.heap.size (((((((w2.setCell ⟨w.heap.size, 0, none⟩ (.int .i64 2)).setCell ⟨w.heap.size, 1, none⟩ (.string ⟨#[]⟩)).setCell ⟨w.heap.size, 2, none⟩ (.slice a1 x1.1.length c1)).setCell ⟨w.heap.size, 3, none⟩ (.slice none 0 0)).setCell ⟨w.heap.size, 4, none⟩ (.int .i64 0)).setCell ⟨w.heap.size, 5, none⟩ (.int .i64 0)).setCell ⟨w.heap.size, 6, none⟩ (.int .i64 0)) (.agg #[.int .i64 2, .string ⟨#[]⟩, .slice a1 x1.1.length c1, .slice none 0 0, .int .i64 0, .int .i64 0, .int .i64 0]) ⟨2, [], x1.1, [], 0, 0, 0⟩ (.slice a1 x1.1.length c1) (.slice none 0 0) w2.heap.size) := ⟨rfl, own_base (OwnO.st (OwnO.st (OwnO.st (OwnO.st (OwnO.st (OwnO.st (OwnO.st (OW1_2.out) (by omega)) (by omega)) (by omega)) (by omega)) (by omega)) (by omega)) (by omega)) (by omega), OwnO.hi OW1_2.out, by omega, World.ownsRow_nil _ _ _ _⟩
      go_wp2
      refine bodyPost_ret (by simp [results, Tryd.results33, go_sem, z0, z1, z2, z3, z4, z5, z6]; try rfl) rfl ?_
      exact ⟨(by simp only [HR1.out, HR2.out, bnd_ok]; exact ⟨_, _, _, _, rfl, IT.out, PZ.out, hx1⟩), (gb_new' (gb_new' (gb_new' (gb_new' (gb_new' (gb_new' (gb_new' G2.out (Nat.le_refl _)) (Nat.le_refl _)) (Nat.le_refl _)) (Nat.le_refl _)) (Nat.le_refl _)) (Nat.le_refl _)) (Nat.le_refl _))⟩

set_option maxHeartbeats 3200000 in
set_option maxRecDepth 1000000 in
theorem item3 (B b : Nat) (a : Option Addr) (c : Nat) (t : List UInt8) (F i j o : Nat) (w W : World) (hk : (tkT t i).k = 18) (h : PS B b a c t i o 0 w) (ho : o ≤ 2000) (ha : adv (tkT t) i = .ok j) (hn : itemK (tkT t) F 3 j o ≠ .out) :
    Calls Tryd.prog 33 #[.pointer (some ⟨b, 0, none⟩)] w fun e w' => Res (itemK (tkT t) F 3 j o) (fun x e w' => ∃ v vE vF m, e = .returned v ∧ ItO w.heap.size w' v x.1 vE vF m ∧ PS B b a c t x.2.1 x.2.2 0 w' ∧ x.2.2 ≤ 2000) e w' ∧ w.grownBy w' (some b) := by
  have y2 := Px.c2 h
  dsimp only at y2
  rw [hk] at y2
  have hlt := Px.lt h
  have e9 : IntKind.i64.wrap ((((18 : Nat) : Int)) - 16) = 2 := by decide
  obtain ⟨W1, hW1⟩ : ∃ W, W = (w.alloc (.cells #[.int .i64 0, .string ⟨#[]⟩, .slice none 0 0, .slice none 0 0, .int .i64 0, .int .i64 0, .int .i64 0] 45)).alloc (.cells #[.int .i64 3, .string ⟨#[]⟩, .slice none 0 0, .slice none 0 0, .int .i64 0, .int .i64 0, .int .i64 0] 45) := ⟨_, rfl⟩
  have A1 : Hid (Below w.heap.size w W1) := by rw [hW1]; exact below_alloc' (below_alloc' (Below.refl _ _) _) _
  have RZ0 : Hid (W1.heap[w.heap.size]? = some (.cells #[.int .i64 0, .string ⟨#[]⟩, .slice none 0 0, .slice none 0 0, .int .i64 0, .int .i64 0, .int .i64 0] 45)) := by rw [hW1]; exact blk_alloc (blk_new _ _) _
  have BX0 : Hid (W1.heap[w.heap.size + 1]? = some (.cells #[.int .i64 3, .string ⟨#[]⟩, .slice none 0 0, .slice none 0 0, .int .i64 0, .int .i64 0, .int .i64 0] 45)) := by rw [hW1]; exact blk_new1 _ _ _
  have P0 : Hid (PS B b a c t i o 0 W1) := Px.below h A1.out
  have G0 : Hid (w.grownBy W1 (some b)) := gb_below A1.out
  have hs0 : w.heap.size + 2 ≤ W1.heap.size := by rw [hW1]; simp
  have HN := Hid.mk hn
  have HA := Hid.mk ha
  clear h hk hn ha
  unfold itemK at HN ⊢
  rw [if_neg (by omega), if_pos (by omega)] at HN ⊢
  go_enter Tryd.func33, Tryd.ntmps33
  go_wp2_with fail
  rw [← hW1]
  clear hW1
  refine (advI B b a c t i o 0 W1 P0.out).mono ?_
  rintro e w0 ⟨p, g⟩
  rw [HA.out] at p
  obtain ⟨rfl, p0⟩ := p
  have PA := Hid.mk p0
  have GA := Hid.mk (gb_then G0.out g)
  have BXa := Hid.mk (blk_grown' BX0.out g (by omega))
  have RZa := Hid.mk (blk_grown' RZ0.out g (by omega))
  have hsa : w.heap.size + 2 ≤ w0.heap.size := Nat.le_trans hs0 g.size
  have k0 := (blk_cell BXa.out 0).trans rfl
  clear p0 g y2 e9
  go_wp2_with fail
  clear k0
  have hn1 : pxP (tkT t) F j o ≠ .out := fun e => HN.out (by simp only [bnd_ok, e]; rfl)
  refine (pxI B b a c t F j o w0 PA.out ho hn1).mono ?_
  rintro e w1 ⟨p, g⟩
  cases hr1 : pxP (tkT t) F j o with
  | out => rw [hr1] at p; exact p.elim
  | bad cc aa =>
    have HR1 := Hid.mk hr1
    rw [hr1] at p; have p : e = .panicked (flV cc aa) := p; subst p
    exact ⟨rfl, (by simp only [HR1.out, bnd_ok, bnd_bad]; exact rfl), gb_then (GA.out) g⟩
  | ok x1 =>
    have HR1 := Hid.mk hr1
    rw [hr1] at p
    obtain ⟨v1, rfl, ow1, p1, hx1⟩ := p
    have P1 := Hid.mk p1
    have GG1 := Hid.mk g
    have G1 := Hid.mk (gb_then (GA.out) g)
    obtain ⟨a1, c1, rfl⟩ := ow1.sl
    clear p1 g hr1
    obtain ⟨B1, hB1⟩ : ∃ n, n = w0.heap.size := ⟨_, rfl⟩
    have hsB1 : w.heap.size + 2 ≤ B1 := by rw [hB1]; exact hsa
    have BX1 := Hid.mk (blk_grown' BXa.out GG1.out (by omega))
    have RZ1 := Hid.mk (blk_grown' RZa.out GG1.out (by omega))
    have hs1 : w.heap.size + 2 ≤ w1.heap.size := Nat.le_trans hsa GG1.out.size
    have OW1 : Hid (OwnO B1 w1 (.slice a1 x1.1.length c1) x1.1) := by rw [hB1]; exact ow1
    clear ow1 hB1
    have hup1 := Hid.mk (OwnO.hi OW1.out)
    have cc2 := (blk_cell BX1.out 2).trans rfl
    have f2 := blk_unfrozen BX1.out 2
    have BX1s : Hid ((w1.setCell ⟨w.heap.size + 1, 2, none⟩ (.slice a1 x1.1.length c1)).heap[w.heap.size + 1]? = some (.cells #[.int .i64 3, .string ⟨#[]⟩, .slice a1 x1.1.length c1, .slice none 0 0, .int .i64 0, .int .i64 0, .int .i64 0] 45)) := by unfold Hid; have := blk_set BX1.out 2 (.slice a1 x1.1.length c1); simpa using this
    have RZ1s : Hid ((w1.setCell ⟨w.heap.size + 1, 2, none⟩ (.slice a1 x1.1.length c1)).heap[w.heap.size]? = some (.cells #[.int .i64 0, .string ⟨#[]⟩, .slice none 0 0, .slice none 0 0, .int .i64 0, .int .i64 0, .int .i64 0] 45)) := blk_set_other RZ1.out (show w.heap.size ≠ w.heap.size + 1 by omega) _
    have P1s : Hid (PS B b a c t x1.2.1 x1.2.2 0 (w1.setCell ⟨w.heap.size + 1, 2, none⟩ (.slice a1 x1.1.length c1))) := Px.other P1.out (by have := P1.out.hB; omega) (by omega)
    have OW1s : Hid (OwnO B1 (w1.setCell ⟨w.heap.size + 1, 2, none⟩ (.slice a1 x1.1.length c1)) (.slice a1 x1.1.length c1) x1.1) := OwnO.st OW1.out (by omega)
    obtain ⟨V1, hV1⟩ : ∃ W, W = (w1.setCell ⟨w.heap.size + 1, 2, none⟩ (.slice a1 x1.1.length c1)) := ⟨_, rfl⟩
    have GV1 : Hid (w.grownBy V1 (some b)) := by rw [hV1]; exact (gb_new' G1.out (by omega))
    have sv1 : Hid (V1.heap.size = w1.heap.size) := by rw [hV1]; unfold Hid; simp only [size_set]
    rw [← hV1] at BX1s RZ1s P1s OW1s
    have hs1v : w.heap.size + 2 ≤ V1.heap.size := by rw [sv1.out]; exact hs1
    go_wp2_with fail
    rw [← hV1]
    clear hV1 cc2 f2
    refine (expI B b a c t x1.2.1 x1.2.2 0 V1 P1s.out 3).mono ?_
    rintro e w2 ⟨p, g⟩
    cases hr2 : exp (tkT t) 3 x1.2.1 with
    | out => rw [hr2] at p; exact p.elim
    | bad cc aa =>
      have HR2 := Hid.mk hr2
      rw [hr2] at p; have p : e = .panicked (flV cc aa) := p; subst p
      exact ⟨rfl, (by simp only [HR1.out, HR2.out, bnd_ok, bnd_bad]; exact rfl), gb_then (GV1.out) g⟩
    | ok x2 =>
      have HR2 := Hid.mk hr2
      rw [hr2] at p
      obtain ⟨rfl, p2⟩ := p
      have P2 := Hid.mk p2
      have GG2 := Hid.mk g
      have G2 := Hid.mk (gb_then (GV1.out) g)
      clear p2 g hr2
      have BX2 := Hid.mk (blk_grown' BX1s.out GG2.out (by omega))
      have RZ2 := Hid.mk (blk_grown' RZ1s.out GG2.out (by omega))
      have hs2 : w.heap.size + 2 ≤ w2.heap.size := Nat.le_trans hs1v GG2.out.size
      have OW1_2 := Hid.mk (OwnO.gb OW1s.out GG2.out (by omega))
      have cc0 := (blk_cell BX2.out 0).trans rfl
      have cc1 := (blk_cell BX2.out 1).trans rfl
      have cc2 := (blk_cell BX2.out 2).trans rfl
      have cc3 := (blk_cell BX2.out 3).trans rfl
      have cc4 := (blk_cell BX2.out 4).trans rfl
      have cc5 := (blk_cell BX2.out 5).trans rfl
      have cc6 := (blk_cell BX2.out 6).trans rfl
      have z0 := (blk_cell RZ2.out 0).trans rfl
      have f0 := blk_unfrozen RZ2.out 0
      have z1 := (blk_cell RZ2.out 1).trans rfl
      have f1 := blk_unfrozen RZ2.out 1
      have z2 := (blk_cell RZ2.out 2).trans rfl
      have f2 := blk_unfrozen RZ2.out 2
      have z3 := (blk_cell RZ2.out 3).trans rfl
      have f3 := blk_unfrozen RZ2.out 3
      have z4 := (blk_cell RZ2.out 4).trans rfl
      have f4 := blk_unfrozen RZ2.out 4
      have z5 := (blk_cell RZ2.out 5).trans rfl
      have f5 := blk_unfrozen RZ2.out 5
      have z6 := (blk_cell RZ2.out 6).trans rfl
      have f6 := blk_unfrozen RZ2.out 6
      have PZ : Hid (PS B b a c t x2 x1.2.2 0 (((((((w2.setCell ⟨w.heap.size, 0, none⟩ (.int .i64 3)).setCell ⟨w.heap.size, 1, none⟩ (.string ⟨#[]⟩)).setCell ⟨w.heap.size, 2, none⟩ (.slice a1 x1.1.length c1)).setCell ⟨w.heap.size, 3, none⟩ (.slice none 0 0)).setCell ⟨w.heap.size, 4, none⟩ (.int .i64 0)).setCell ⟨w.heap.size, 5, none⟩ (.int .i64 0)).setCell ⟨w.heap.size, 6, none⟩ (.int .i64 0))) := Px.other (Px.other (Px.other (Px.other (Px.other (Px.other (Px.other (P2.out) (by have := P2.out.hB; omega) (by omega)) (by have := P2.out.hB; omega) (by omega)) (by have := P2.out.hB; omega) (by omega)) (by have := P2.out.hB; omega) (by omega)) (by have := P2.out.hB; omega) (by omega)) (by have := P2.out.hB; omega) (by omega)) (by have := P2.out.hB; omega) (by omega)
      have IT : Hid (ItO w.heap.size (((((((w2.setCell ⟨w.heap.size, 0, none⟩ (.int .i64 3)).setCell ⟨w.heap.size, 1, none⟩ (.string ⟨#[]⟩)).setCell ⟨w.heap.size, 2, none⟩ (.slice a1 x1.1.length c1)).setCell ⟨w.heap.size, 3, none⟩ (.slice none 0 0)).setCell ⟨w.heap.size, 4, none⟩ (.int .i64 0)).setCell ⟨w.heap.size, 5, none⟩ (.int .i64 0)).setCell ⟨w.heap.size, 6, none⟩ (.int .i64 0)) (.agg #[.int .i64 3, .string ⟨#[]⟩, .slice a1 x1.1.length c1, .slice none 0 0, .int .i64 0, .int .i64 0, .int .i64 0]) ⟨3, [], x1.1, [], 0, 0, 0⟩ (.slice a1 x1.1.length c1) (.slice none 0 0) w2.heap.size) := ⟨rfl, own_base (OwnO.st (OwnO.st (OwnO.st (OwnO.st (OwnO.st (OwnO.st (OwnO.st (OW1_2.out) (by omega)) (by omega)) (by omega)) (by omega)) (by omega)) (by omega)) (by omega)) (by omega), OwnO.hi OW1_2.out, by omega, World.ownsRow_nil _ _ _ _⟩
      go_wp2
      refine bodyPost_ret (by simp [results, Tryd.results33, go_sem, z0, z1, z2, z3, z4, z5, z6]; try rfl) rfl ?_
      exact ⟨(by simp only [HR1.out, HR2.out, bnd_ok]; exact ⟨_, _, _, _, rfl, IT.out, PZ.out, hx1⟩), (gb_new' (gb_new' (gb_new' (gb_new' (gb_new' (gb_new' (gb_new' G2.out (Nat.le_refl _)) (Nat.le_refl _)) (Nat.le_refl _)) (Nat.le_refl _)) (Nat.le_refl _)) (Nat.le_refl _)) (Nat.le_refl _))⟩

set_option maxHeartbeats 3200000 in
set_option maxRecDepth 1000000 in
theorem item4 (B b : Nat) (a : Option Addr) (c : Nat) (t : List UInt8) (F i j o : Nat) (w W : World) (hk : (tkT t i).k = 19) (h : PS B b a c t i o 0 w) (ho : o ≤ 2000) (ha : adv (tkT t) i = .ok j) (hn : itemK (tkT t) F 4 j o ≠ .out) :
    Calls Tryd.prog 33 #[.pointer (some ⟨b, 0, none⟩)] w fun e w' => Res (itemK (tkT t) F 4 j o) (fun x e w' => ∃ v vE vF m, e = .returned v ∧ ItO w.heap.size w' v x.1 vE vF m ∧ PS B b a c t x.2.1 x.2.2 0 w' ∧ x.2.2 ≤ 2000) e w' ∧ w.grownBy w' (some b) := by
  have y2 := Px.c2 h
  dsimp only at y2
  rw [hk] at y2
  have hlt := Px.lt h
  have e9 : IntKind.i64.wrap ((((19 : Nat) : Int)) - 16) = 3 := by decide
  obtain ⟨W1, hW1⟩ : ∃ W, W = (w.alloc (.cells #[.int .i64 0, .string ⟨#[]⟩, .slice none 0 0, .slice none 0 0, .int .i64 0, .int .i64 0, .int .i64 0] 45)).alloc (.cells #[.int .i64 4, .string ⟨#[]⟩, .slice none 0 0, .slice none 0 0, .int .i64 0, .int .i64 0, .int .i64 0] 45) := ⟨_, rfl⟩
  have A1 : Hid (Below w.heap.size w W1) := by rw [hW1]; exact below_alloc' (below_alloc' (Below.refl _ _) _) _
  have RZ0 : Hid (W1.heap[w.heap.size]? = some (.cells #[.int .i64 0, .string ⟨#[]⟩, .slice none 0 0, .slice none 0 0, .int .i64 0, .int .i64 0, .int .i64 0] 45)) := by rw [hW1]; exact blk_alloc (blk_new _ _) _
  have BX0 : Hid (W1.heap[w.heap.size + 1]? = some (.cells #[.int .i64 4, .string ⟨#[]⟩, .slice none 0 0, .slice none 0 0, .int .i64 0, .int .i64 0, .int .i64 0] 45)) := by rw [hW1]; exact blk_new1 _ _ _
  have P0 : Hid (PS B b a c t i o 0 W1) := Px.below h A1.out
  have G0 : Hid (w.grownBy W1 (some b)) := gb_below A1.out
  have hs0 : w.heap.size + 2 ≤ W1.heap.size := by rw [hW1]; simp
  have HN := Hid.mk hn
  have HA := Hid.mk ha
  clear h hk hn ha
  unfold itemK at HN ⊢
  rw [if_neg (by omega), if_neg (by omega), if_pos (by omega)] at HN ⊢
  go_enter Tryd.func33, Tryd.ntmps33
  go_wp2_with fail
  rw [← hW1]
  clear hW1
  refine (advI B b a c t i o 0 W1 P0.out).mono ?_
  rintro e w0 ⟨p, g⟩
  rw [HA.out] at p
  obtain ⟨rfl, p0⟩ := p
  have PA := Hid.mk p0
  have GA := Hid.mk (gb_then G0.out g)
  have BXa := Hid.mk (blk_grown' BX0.out g (by omega))
  have RZa := Hid.mk (blk_grown' RZ0.out g (by omega))
  have hsa : w.heap.size + 2 ≤ w0.heap.size := Nat.le_trans hs0 g.size
  have k0 := (blk_cell BXa.out 0).trans rfl
  clear p0 g y2 e9
  go_wp2_with fail
  clear k0
  have hn1 : pxP (tkT t) F j o ≠ .out := fun e => HN.out (by simp only [bnd_ok, e]; rfl)
  refine (pxI B b a c t F j o w0 PA.out ho hn1).mono ?_
  rintro e w1 ⟨p, g⟩
  cases hr1 : pxP (tkT t) F j o with
  | out => rw [hr1] at p; exact p.elim
  | bad cc aa =>
    have HR1 := Hid.mk hr1
    rw [hr1] at p; have p : e = .panicked (flV cc aa) := p; subst p
    exact ⟨rfl, (by simp only [HR1.out, bnd_ok, bnd_bad]; exact rfl), gb_then (GA.out) g⟩
  | ok x1 =>
    have HR1 := Hid.mk hr1
    rw [hr1] at p
    obtain ⟨v1, rfl, ow1, p1, hx1⟩ := p
    have P1 := Hid.mk p1
    have GG1 := Hid.mk g
    have G1 := Hid.mk (gb_then (GA.out) g)
    obtain ⟨a1, c1, rfl⟩ := ow1.sl
    clear p1 g hr1
    obtain ⟨B1, hB1⟩ : ∃ n, n = w0.heap.size := ⟨_, rfl⟩
    have hsB1 : w.heap.size + 2 ≤ B1 := by rw [hB1]; exact hsa
    have BX1 := Hid.mk (blk_grown' BXa.out GG1.out (by omega))
    have RZ1 := Hid.mk (blk_grown' RZa.out GG1.out (by omega))
    have hs1 : w.heap.size + 2 ≤ w1.heap.size := Nat.le_trans hsa GG1.out.size
    have OW1 : Hid (OwnO B1 w1 (.slice a1 x1.1.length c1) x1.1) := by rw [hB1]; exact ow1
    clear ow1 hB1
    have hup1 := Hid.mk (OwnO.hi OW1.out)
    have cc2 := (blk_cell BX1.out 2).trans rfl
    have f2 := blk_unfrozen BX1.out 2
    have BX1s : Hid ((w1.setCell ⟨w.heap.size + 1, 2, none⟩ (.slice a1 x1.1.length c1)).heap[w.heap.size + 1]? = some (.cells #[.int .i64 4, .string ⟨#[]⟩, .slice a1 x1.1.length c1, .slice none 0 0, .int .i64 0, .int .i64 0, .int .i64 0] 45)) := by unfold Hid; have := blk_set BX1.out 2 (.slice a1 x1.1.length c1); simpa using this
    have RZ1s : Hid ((w1.setCell ⟨w.heap.size + 1, 2, none⟩ (.slice a1 x1.1.length c1)).heap[w.heap.size]? = some (.cells #[.int .i64 0, .string ⟨#[]⟩, .slice none 0 0, .slice none 0 0, .int .i64 0, .int .i64 0, .int .i64 0] 45)) := blk_set_other RZ1.out (show w.heap.size ≠ w.heap.size + 1 by omega) _
    have P1s : Hid (PS B b a c t x1.2.1 x1.2.2 0 (w1.setCell ⟨w.heap.size + 1, 2, none⟩ (.slice a1 x1.1.length c1))) := Px.other P1.out (by have := P1.out.hB; omega) (by omega)
    have OW1s : Hid (OwnO B1 (w1.setCell ⟨w.heap.size + 1, 2, none⟩ (.slice a1 x1.1.length c1)) (.slice a1 x1.1.length c1) x1.1) := OwnO.st OW1.out (by omega)
    obtain ⟨V1, hV1⟩ : ∃ W, W = (w1.setCell ⟨w.heap.size + 1, 2, none⟩ (.slice a1 x1.1.length c1)) := ⟨_, rfl⟩
    have GV1 : Hid (w.grownBy V1 (some b)) := by rw [hV1]; exact (gb_new' G1.out (by omega))
    have sv1 : Hid (V1.heap.size = w1.heap.size) := by rw [hV1]; unfold Hid; simp only [size_set]
    rw [← hV1] at BX1s RZ1s P1s OW1s
    have hs1v : w.heap.size + 2 ≤ V1.heap.size := by rw [sv1.out]; exact hs1
    go_wp2_with fail
    rw [← hV1]
    clear hV1 cc2 f2
    refine (expI B b a c t x1.2.1 x1.2.2 0 V1 P1s.out 43).mono ?_
    rintro e w2 ⟨p, g⟩
    cases hr2 : exp (tkT t) 43 x1.2.1 with
    | out => rw [hr2] at p; exact p.elim
    | bad cc aa =>
      have HR2 := Hid.mk hr2
      rw [hr2] at p; have p : e = .panicked (flV cc aa) := p; subst p
      exact ⟨rfl, (by simp only [HR1.out, HR2.out, bnd_ok, bnd_bad]; exact rfl), gb_then (GV1.out) g⟩
    | ok x2 =>
      have HR2 := Hid.mk hr2
      rw [hr2] at p
      obtain ⟨rfl, p2⟩ := p
      have P2 := Hid.mk p2
      have GG2 := Hid.mk g
      have G2 := Hid.mk (gb_then (GV1.out) g)
      clear p2 g hr2
      have BX2 := Hid.mk (blk_grown' BX1s.out GG2.out (by omega))
      have RZ2 := Hid.mk (blk_grown' RZ1s.out GG2.out (by omega))
      have hs2 : w.heap.size + 2 ≤ w2.heap.size := Nat.le_trans hs1v GG2.out.size
      have OW1_2 := Hid.mk (OwnO.gb OW1s.out GG2.out (by omega))
      go_wp2_with fail
      refine (signedI B b a c t x2 x1.2.2 0 w2 P2.out).mono ?_
      rintro e w3 ⟨p, g⟩
      cases hr3 : sgnP (tkT t) x2 with
      | out => rw [hr3] at p; exact p.elim
      | bad cc aa =>
        have HR3 := Hid.mk hr3
        rw [hr3] at p; have p : e = .panicked (flV cc aa) := p; subst p
        exact ⟨rfl, (by simp only [HR1.out, HR2.out, HR3.out, bnd_ok, bnd_bad]; exact rfl), gb_then (G2.out) g⟩
      | ok x3 =>
        have HR3 := Hid.mk hr3
        rw [hr3] at p
        obtain ⟨rfl, p3⟩ := p
        have P3 := Hid.mk p3
        have GG3 := Hid.mk g
        have G3 := Hid.mk (gb_then (G2.out) g)
        clear p3 g hr3
        have BX3 := Hid.mk (blk_grown' BX2.out GG3.out (by omega))
        have RZ3 := Hid.mk (blk_grown' RZ2.out GG3.out (by omega))
        have hs3 : w.heap.size + 2 ≤ w3.heap.size := Nat.le_trans hs2 GG3.out.size
        have OW1_3 := Hid.mk (OwnO.gb OW1_2.out GG3.out (by omega))
        have cc4 := (blk_cell BX3.out 4).trans rfl
        have f4 := blk_unfrozen BX3.out 4
        have BX3s : Hid ((w3.setCell ⟨w.heap.size + 1, 4, none⟩ (.int .i64 x3.1)).heap[w.heap.size + 1]? = some (.cells #[.int .i64 4, .string ⟨#[]⟩, .slice a1 x1.1.length c1, .slice none 0 0, .int .i64 x3.1, .int .i64 0, .int .i64 0] 45)) := by unfold Hid; have := blk_set BX3.out 4 (.int .i64 x3.1); simpa using this
        have RZ3s : Hid ((w3.setCell ⟨w.heap.size + 1, 4, none⟩ (.int .i64 x3.1)).heap[w.heap.size]? = some (.cells #[.int .i64 0, .string ⟨#[]⟩, .slice none 0 0, .slice none 0 0, .int .i64 0, .int .i64 0, .int .i64 0] 45)) := blk_set_other RZ3.out (show w.heap.size ≠ w.heap.size + 1 by omega) _
        have P3s : Hid (PS B b a c t x3.2 x1.2.2 0 (w3.setCell ⟨w.heap.size + 1, 4, none⟩ (.int .i64 x3.1))) := Px.other P3.out (by have := P3.out.hB; omega) (by omega)
        have OW1_3s : Hid (OwnO B1 (w3.setCell ⟨w.heap.size + 1, 4, none⟩ (.int .i64 x3.1)) (.slice a1 x1.1.length c1) x1.1) := OwnO.st OW1_3.out (by omega)
        obtain ⟨V3, hV3⟩ : ∃ W, W = (w3.setCell ⟨w.heap.size + 1, 4, none⟩ (.int .i64 x3.1)) := ⟨_, rfl⟩
        have GV3 : Hid (w.grownBy V3 (some b)) := by rw [hV3]; exact (gb_new' G3.out (by omega))
        have sv3 : Hid (V3.heap.size = w3.heap.size) := by rw [hV3]; unfold Hid; simp only [size_set]
        rw [← hV3] at BX3s RZ3s P3s OW1_3s
        have hs3v : w.heap.size + 2 ≤ V3.heap.size := by rw [sv3.out]; exact hs3
        go_wp2_with fail
        rw [← hV3]
        clear hV3 cc4 f4
        refine (spanI B b a c t x3.2 x1.2.2 0 V3 P3s.out).mono ?_
        rintro e w4 ⟨p, g⟩
        cases hr4 : spanP (tkT t) x3.2 with
        | out => rw [hr4] at p; exact p.elim
        | bad cc aa =>
          have HR4 := Hid.mk hr4
          rw [hr4] at p; have p : e = .panicked (flV cc aa) := p; subst p
          exact ⟨rfl, (by simp only [HR1.out, HR2.out, HR3.out, HR4.out, bnd_ok, bnd_bad]; exact rfl), gb_then (GV3.out) g⟩
        | ok x4 =>
          have HR4 := Hid.mk hr4
          rw [hr4] at p
          obtain ⟨rfl, p4⟩ := p
          have P4 := Hid.mk p4
          have GG4 := Hid.mk g
          have G4 := Hid.mk (gb_then (GV3.out) g)
          clear p4 g hr4
          have BX4 := Hid.mk (blk_grown' BX3s.out GG4.out (by omega))
          have RZ4 := Hid.mk (blk_grown' RZ3s.out GG4.out (by omega))
          have hs4 : w.heap.size + 2 ≤ w4.heap.size := Nat.le_trans hs3v GG4.out.size
          have OW1_4 := Hid.mk (OwnO.gb OW1_3s.out GG4.out (by omega))
          have cc5 := (blk_cell BX4.out 5).trans rfl
          have f5 := blk_unfrozen BX4.out 5
          have cc6 := (blk_cell BX4.out 6).trans rfl
          have f6 := blk_unfrozen BX4.out 6
          have BX4s : Hid ((w4.setCell ⟨w.heap.size + 1, 5, none⟩ (.int .i64 x4.1.1)).heap[w.heap.size + 1]? = some (.cells #[.int .i64 4, .string ⟨#[]⟩, .slice a1 x1.1.length c1, .slice none 0 0, .int .i64 x3.1, .int .i64 x4.1.1, .int .i64 0] 45)) := by unfold Hid; have := blk_set BX4.out 5 (.int .i64 x4.1.1); simpa using this
          have RZ4s : Hid ((w4.setCell ⟨w.heap.size + 1, 5, none⟩ (.int .i64 x4.1.1)).heap[w.heap.size]? = some (.cells #[.int .i64 0, .string ⟨#[]⟩, .slice none 0 0, .slice none 0 0, .int .i64 0, .int .i64 0, .int .i64 0] 45)) := blk_set_other RZ4.out (show w.heap.size ≠ w.heap.size + 1 by omega) _
          have P4s : Hid (PS B b a c t x4.2 x1.2.2 0 (w4.setCell ⟨w.heap.size + 1, 5, none⟩ (.int .i64 x4.1.1))) := Px.other P4.out (by have := P4.out.hB; omega) (by omega)
          have OW1_4s : Hid (OwnO B1 (w4.setCell ⟨w.heap.size + 1, 5, none⟩ (.int .i64 x4.1.1)) (.slice a1 x1.1.length c1) x1.1) := OwnO.st OW1_4.out (by omega)
          have BX4ss : Hid (((w4.setCell ⟨w.heap.size + 1, 5, none⟩ (.int .i64 x4.1.1)).setCell ⟨w.heap.size + 1, 6, none⟩ (.int .i64 x4.1.2)).heap[w.heap.size + 1]? = some (.cells #[.int .i64 4, .string ⟨#[]⟩, .slice a1 x1.1.length c1, .slice none 0 0, .int .i64 x3.1, .int .i64 x4.1.1, .int .i64 x4.1.2] 45)) := by unfold Hid; have := blk_set BX4s.out 6 (.int .i64 x4.1.2); simpa using this
          have RZ4ss : Hid (((w4.setCell ⟨w.heap.size + 1, 5, none⟩ (.int .i64 x4.1.1)).setCell ⟨w.heap.size + 1, 6, none⟩ (.int .i64 x4.1.2)).heap[w.heap.size]? = some (.cells #[.int .i64 0, .string ⟨#[]⟩, .slice none 0 0, .slice none 0 0, .int .i64 0, .int .i64 0, .int .i64 0] 45)) := blk_set_other RZ4s.out (show w.heap.size ≠ w.heap.size + 1 by omega) _
          have P4ss : Hid (PS B b a c t x4.2 x1.2.2 0 ((w4.setCell ⟨w.heap.size + 1, 5, none⟩ (.int .i64 x4.1.1)).setCell ⟨w.heap.size + 1, 6, none⟩ (.int .i64 x4.1.2))) := Px.other P4s.out (by have := P4s.out.hB; omega) (by omega)
          have OW1_4ss : Hid (OwnO B1 ((w4.setCell ⟨w.heap.size + 1, 5, none⟩ (.int .i64 x4.1.1)).setCell ⟨w.heap.size + 1, 6, none⟩ (.int .i64 x4.1.2)) (.slice a1 x1.1.length c1) x1.1) := OwnO.st OW1_4s.out (by omega)
          obtain ⟨V4, hV4⟩ : ∃ W, W = ((w4.setCell ⟨w.heap.size + 1, 5, none⟩ (.int .i64 x4.1.1)).setCell ⟨w.heap.size + 1, 6, none⟩ (.int .i64 x4.1.2)) := ⟨_, rfl⟩
          have GV4 : Hid (w.grownBy V4 (some b)) := by rw [hV4]; exact (gb_new' (gb_new' G4.out (by omega)) (by omega))
          have sv4 : Hid (V4.heap.size = w4.heap.size) := by rw [hV4]; unfold Hid; simp only [size_set]
          rw [← hV4] at BX4ss RZ4ss P4ss OW1_4ss
          have hs4v : w.heap.size + 2 ≤ V4.heap.size := by rw [sv4.out]; exact hs4
          go_wp2_with fail
          rw [← hV4]
          clear hV4 cc5 cc6 f5 f6
          refine (expI B b a c t x4.2 x1.2.2 0 V4 P4ss.out 3).mono ?_
          rintro e w5 ⟨p, g⟩
          cases hr5 : exp (tkT t) 3 x4.2 with
          | out => rw [hr5] at p; exact p.elim
          | bad cc aa =>
            have HR5 := Hid.mk hr5
            rw [hr5] at p; have p : e = .panicked (flV cc aa) := p; subst p
            exact ⟨rfl, (by simp only [HR1.out, HR2.out, HR3.out, HR4.out, HR5.out, bnd_ok, bnd_bad]; exact rfl), gb_then (GV4.out) g⟩
          | ok x5 =>
            have HR5 := Hid.mk hr5
            rw [hr5] at p
            obtain ⟨rfl, p5⟩ := p
            have P5 := Hid.mk p5
            have GG5 := Hid.mk g
            have G5 := Hid.mk (gb_then (GV4.out) g)
            clear p5 g hr5
            have BX5 := Hid.mk (blk_grown' BX4ss.out GG5.out (by omega))
            have RZ5 := Hid.mk (blk_grown' RZ4ss.out GG5.out (by omega))
            have hs5 : w.heap.size + 2 ≤ w5.heap.size := Nat.le_trans hs4v GG5.out.size
            have OW1_5 := Hid.mk (OwnO.gb OW1_4ss.out GG5.out (by omega))
            have cc0 := (blk_cell BX5.out 0).trans rfl
            have cc1 := (blk_cell BX5.out 1).trans rfl
            have cc2 := (blk_cell BX5.out 2).trans rfl
            have cc3 := (blk_cell BX5.out 3).trans rfl
            have cc4 := (blk_cell BX5.out 4).trans rfl
            have cc5 := (blk_cell BX5.out 5).trans rfl
            have cc6 := (blk_cell BX5.out 6).trans rfl
            have z0 := (blk_cell RZ5.out 0).trans rfl
            have f0 := blk_unfrozen RZ5.out 0
            have z1 := (blk_cell RZ5.out 1).trans rfl
            have f1 := blk_unfrozen RZ5.out 1
            have z2 := (blk_cell RZ5.out 2).trans rfl
            have f2 := blk_unfrozen RZ5.out 2
            have z3 := (blk_cell RZ5.out 3).trans rfl
            have f3 := blk_unfrozen RZ5.out 3
            have z4 := (blk_cell RZ5.out 4).trans rfl
            have f4 := blk_unfrozen RZ5.out 4
            have z5 := (blk_cell RZ5.out 5).trans rfl
            have f5 := blk_unfrozen RZ5.out 5
            have z6 := (blk_cell RZ5.out 6).trans rfl
            have f6 := blk_unfrozen RZ5.out 6
            have PZ : Hid (PS B b a c t x5 x1.2.2 0 (((((((w5.setCell ⟨w.heap.size, 0, none⟩ (.int .i64 4)).setCell ⟨w.heap.size, 1, none⟩ (.string ⟨#[]⟩)).setCell ⟨w.heap.size, 2, none⟩ (.slice a1 x1.1.length c1)).setCell ⟨w.heap.size, 3, none⟩ (.slice none 0 0)).setCell ⟨w.heap.size, 4, none⟩ (.int .i64 x3.1)).setCell ⟨w.heap.size, 5, none⟩ (.int .i64 x4.1.1)).setCell ⟨w.heap.size, 6, none⟩ (.int .i64 x4.1.2))) := Px.other (Px.other (Px.other (Px.other (Px.other (Px.other (Px.other (P5.out) (by have := P5.out.hB; omega) (by omega)) (by have := P5.out.hB; omega) (by omega)) (by have := P5.out.hB; omega) (by omega)) (by have := P5.out.hB; omega) (by omega)) (by have := P5.out.hB; omega) (by omega)) (by have := P5.out.hB; omega) (by omega)) (by have := P5.out.hB; omega) (by omega)
            have IT : Hid (ItO w.heap.size (((((((w5.setCell ⟨w.heap.size, 0, none⟩ (.int .i64 4)).setCell ⟨w.heap.size, 1, none⟩ (.string ⟨#[]⟩)).setCell ⟨w.heap.size, 2, none⟩ (.slice a1 x1.1.length c1)).setCell ⟨w.heap.size, 3, none⟩ (.slice none 0 0)).setCell ⟨w.heap.size, 4, none⟩ (.int .i64 x3.1)).setCell ⟨w.heap.size, 5, none⟩ (.int .i64 x4.1.1)).setCell ⟨w.heap.size, 6, none⟩ (.int .i64 x4.1.2)) (.agg #[.int .i64 4, .string ⟨#[]⟩, .slice a1 x1.1.length c1, .slice none 0 0, .int .i64 x3.1, .int .i64 x4.1.1, .int .i64 x4.1.2]) ⟨4, [], x1.1, [], x3.1, x4.1.1, x4.1.2⟩ (.slice a1 x1.1.length c1) (.slice none 0 0) w5.heap.size) := ⟨rfl, own_base (OwnO.st (OwnO.st (OwnO.st (OwnO.st (OwnO.st (OwnO.st (OwnO.st (OW1_5.out) (by omega)) (by omega)) (by omega)) (by omega)) (by omega)) (by omega)) (by omega)) (by omega), OwnO.hi OW1_5.out, by omega, World.ownsRow_nil _ _ _ _⟩
            go_wp2
            refine bodyPost_ret (by simp [results, Tryd.results33, go_sem, z0, z1, z2, z3, z4, z5, z6]; try rfl) rfl ?_
            exact ⟨(by simp only [HR1.out, HR2.out, HR3.out, HR4.out, HR5.out, bnd_ok]; exact ⟨_, _, _, _, rfl, IT.out, PZ.out, hx1⟩), (gb_new' (gb_new' (gb_new' (gb_new' (gb_new' (gb_new' (gb_new' G5.out (Nat.le_refl _)) (Nat.le_refl _)) (Nat.le_refl _)) (Nat.le_refl _)) (Nat.le_refl _)) (Nat.le_refl _)) (Nat.le_refl _))⟩

set_option maxHeartbeats 3200000 in
set_option maxRecDepth 1000000 in
theorem item5 (B b : Nat) (a : Option Addr) (c : Nat) (t : List UInt8) (F i j o : Nat) (w W : World) (hk : (tkT t i).k = 20) (h : PS B b a c t i o 0 w) (ho : o ≤ 2000) (ha : adv (tkT t) i = .ok j) (hn : itemK (tkT t) F 5 j o ≠ .out) :
    Calls Tryd.prog 33 #[.pointer (some ⟨b, 0, none⟩)] w fun e w' => Res (itemK (tkT t) F 5 j o) (fun x e w' => ∃ v vE vF m, e = .returned v ∧ ItO w.heap.size w' v x.1 vE vF m ∧ PS B b a c t x.2.1 x.2.2 0 w' ∧ x.2.2 ≤ 2000) e w' ∧ w.grownBy w' (some b) := by
  have y2 := Px.c2 h
  dsimp only at y2
  rw [hk] at y2
  have hlt := Px.lt h
  have e9 : IntKind.i64.wrap ((((20 : Nat) : Int)) - 16) = 4 := by decide
  obtain ⟨W1, hW1⟩ : ∃ W, W = (w.alloc (.cells #[.int .i64 0, .string ⟨#[]⟩, .slice none 0 0, .slice none 0 0, .int .i64 0, .int .i64 0, .int .i64 0] 45)).alloc (.cells #[.int .i64 5, .string ⟨#[]⟩, .slice none 0 0, .slice none 0 0, .int .i64 0, .int .i64 0, .int .i64 0] 45) := ⟨_, rfl⟩
  have A1 : Hid (Below w.heap.size w W1) := by rw [hW1]; exact below_alloc' (below_alloc' (Below.refl _ _) _) _
  have RZ0 : Hid (W1.heap[w.heap.size]? = some (.cells #[.int .i64 0, .string ⟨#[]⟩, .slice none 0 0, .slice none 0 0, .int .i64 0, .int .i64 0, .int .i64 0] 45)) := by rw [hW1]; exact blk_alloc (blk_new _ _) _
  have BX0 : Hid (W1.heap[w.heap.size + 1]? = some (.cells #[.int .i64 5, .string ⟨#[]⟩, .slice none 0 0, .slice none 0 0, .int .i64 0, .int .i64 0, .int .i64 0] 45)) := by rw [hW1]; exact blk_new1 _ _ _
  have P0 : Hid (PS B b a c t i o 0 W1) := Px.below h A1.out
  have G0 : Hid (w.grownBy W1 (some b)) := gb_below A1.out
  have hs0 : w.heap.size + 2 ≤ W1.heap.size := by rw [hW1]; simp
  have HN := Hid.mk hn
  have HA := Hid.mk ha
  clear h hk hn ha
  unfold itemK at HN ⊢
  rw [if_neg (by omega), if_neg (by omega), if_neg (by omega), if_pos (by omega)] at HN ⊢
  go_enter Tryd.func33, Tryd.ntmps33
  go_wp2_with fail
  rw [← hW1]
  clear hW1
  refine (advI B b a c t i o 0 W1 P0.out).mono ?_
  rintro e w0 ⟨p, g⟩
  rw [HA.out] at p
  obtain ⟨rfl, p0⟩ := p
  have PA := Hid.mk p0
  have GA := Hid.mk (gb_then G0.out g)
  have BXa := Hid.mk (blk_grown' BX0.out g (by omega))
  have RZa := Hid.mk (blk_grown' RZ0.out g (by omega))
  have hsa : w.heap.size + 2 ≤ w0.heap.size := Nat.le_trans hs0 g.size
  have k0 := (blk_cell BXa.out 0).trans rfl
  clear p0 g y2 e9
  go_wp2_with fail
  clear k0
  have hn1 : pxP (tkT t) F j o ≠ .out := fun e => HN.out (by simp only [bnd_ok, e]; rfl)
  refine (pxI B b a c t F j o w0 PA.out ho hn1).mono ?_
  rintro e w1 ⟨p, g⟩
  cases hr1 : pxP (tkT t) F j o with
  | out => rw [hr1] at p; exact p.elim
  | bad cc aa =>
    have HR1 := Hid.mk hr1
    rw [hr1] at p; have p : e = .panicked (flV cc aa) := p; subst p
    exact ⟨rfl, (by simp only [HR1.out, bnd_ok, bnd_bad]; exact rfl), gb_then (GA.out) g⟩
  | ok x1 =>
    have HR1 := Hid.mk hr1
    rw [hr1] at p
    obtain ⟨v1, rfl, ow1, p1, hx1⟩ := p
    have P1 := Hid.mk p1
    have GG1 := Hid.mk g
    have G1 := Hid.mk (gb_then (GA.out) g)
    obtain ⟨a1, c1, rfl⟩ := ow1.sl
    clear p1 g hr1
    obtain ⟨B1, hB1⟩ : ∃ n, n = w0.heap.size := ⟨_, rfl⟩
    have hsB1 : w.heap.size + 2 ≤ B1 := by rw [hB1]; exact hsa
    have BX1 := Hid.mk (blk_grown' BXa.out GG1.out (by omega))
    have RZ1 := Hid.mk (blk_grown' RZa.out GG1.out (by omega))
    have hs1 : w.heap.size + 2 ≤ w1.heap.size := Nat.le_trans hsa GG1.out.size
    have OW1 : Hid (OwnO B1 w1 (.slice a1 x1.1.length c1) x1.1) := by rw [hB1]; exact ow1
    clear ow1 hB1
    have hup1 := Hid.mk (OwnO.hi OW1.out)
    have cc2 := (blk_cell BX1.out 2).trans rfl
    have f2 := blk_unfrozen BX1.out 2
    have BX1s : Hid ((w1.setCell ⟨w.heap.size + 1, 2, none⟩ (.slice a1 x1.1.length c1)).heap[w.heap.size + 1]? = some (.cells #[.int .i64 5, .string ⟨#[]⟩, .slice a1 x1.1.length c1, .slice none 0 0, .int .i64 0, .int .i64 0, .int .i64 0] 45)) := by unfold Hid; have := blk_set BX1.out 2 (.slice a1 x1.1.length c1); simpa using this
    have RZ1s : Hid ((w1.setCell ⟨w.heap.size + 1, 2, none⟩ (.slice a1 x1.1.length c1)).heap[w.heap.size]? = some (.cells #[.int .i64 0, .string ⟨#[]⟩, .slice none 0 0, .slice none 0 0, .int .i64 0, .int .i64 0, .int .i64 0] 45)) := blk_set_other RZ1.out (show w.heap.size ≠ w.heap.size + 1 by omega) _
    have P1s : Hid (PS B b a c t x1.2.1 x1.2.2 0 (w1.setCell ⟨w.heap.size + 1, 2, none⟩ (.slice a1 x1.1.length c1))) := Px.other P1.out (by have := P1.out.hB; omega) (by omega)
    have OW1s : Hid (OwnO B1 (w1.setCell ⟨w.heap.size + 1, 2, none⟩ (.slice a1 x1.1.length c1)) (.slice a1 x1.1.length c1) x1.1) := OwnO.st OW1.out (by omega)
    obtain ⟨V1, hV1⟩ : ∃ W, W = (w1.setCell ⟨w.heap.size + 1, 2, none⟩ (.slice a1 x1.1.length c1)) := ⟨_, rfl⟩
    have GV1 : Hid (w.grownBy V1 (some b)) := by rw [hV1]; exact (gb_new' G1.out (by omega))
    have sv1 : Hid (V1.heap.size = w1.heap.size) := by rw [hV1]; unfold Hid; simp only [size_set]
    rw [← hV1] at BX1s RZ1s P1s OW1s
    have hs1v : w.heap.size + 2 ≤ V1.heap.size := by rw [sv1.out]; exact hs1
    go_wp2_with fail
    rw [← hV1]
    clear hV1 cc2 f2
    refine (expI B b a c t x1.2.1 x1.2.2 0 V1 P1s.out 45).mono ?_
    rintro e w2 ⟨p, g⟩
    cases hr2 : exp (tkT t) 45 x1.2.1 with
    | out => rw [hr2] at p; exact p.elim
    | bad cc aa =>
      have HR2 := Hid.mk hr2
      rw [hr2] at p; have p : e = .panicked (flV cc aa) := p; subst p
      exact ⟨rfl, (by simp only [HR1.out, HR2.out, bnd_ok, bnd_bad]; exact rfl), gb_then (GV1.out) g⟩
    | ok x2 =>
      have HR2 := Hid.mk hr2
      rw [hr2] at p
      obtain ⟨rfl, p2⟩ := p
      have P2 := Hid.mk p2
      have GG2 := Hid.mk g
      have G2 := Hid.mk (gb_then (GV1.out) g)
      clear p2 g hr2
      have BX2 := Hid.mk (blk_grown' BX1s.out GG2.out (by omega))
      have RZ2 := Hid.mk (blk_grown' RZ1s.out GG2.out (by omega))
      have hs2 : w.heap.size + 2 ≤ w2.heap.size := Nat.le_trans hs1v GG2.out.size
      have OW1_2 := Hid.mk (OwnO.gb OW1s.out GG2.out (by omega))
      go_wp2_with fail
      have hn3 : pxP (tkT t) F x2 x1.2.2 ≠ .out := fun e => HN.out (by simp only [HR1.out, HR2.out, bnd_ok, e]; rfl)
      refine (pxI B b a c t F x2 x1.2.2 w2 P2.out hx1 hn3).mono ?_
      rintro e w3 ⟨p, g⟩
      cases hr3 : pxP (tkT t) F x2 x1.2.2 with
      | out => rw [hr3] at p; exact p.elim
      | bad cc aa =>
        have HR3 := Hid.mk hr3
        rw [hr3] at p; have p : e = .panicked (flV cc aa) := p; subst p
        exact ⟨rfl, (by simp only [HR1.out, HR2.out, HR3.out, bnd_ok, bnd_bad]; exact rfl), gb_then (G2.out) g⟩
      | ok x3 =>
        have HR3 := Hid.mk hr3
        rw [hr3] at p
        obtain ⟨v3, rfl, ow3, p3, hx3⟩ := p
        have P3 := Hid.mk p3
        have GG3 := Hid.mk g
        have G3 := Hid.mk (gb_then (G2.out) g)
        obtain ⟨a3, c3, rfl⟩ := ow3.sl
        clear p3 g hr3
        obtain ⟨B3, hB3⟩ : ∃ n, n = w2.heap.size := ⟨_, rfl⟩
        have hsB3 : w.heap.size + 2 ≤ B3 := by rw [hB3]; exact hs2
        have hEB3 : Hid (∀ g, ((.slice a1 x1.1.length c1) : Value).ownBlock = some g → g < B3) := fun g e => by rw [hB3]; exact OwnO.hi OW1_2.out g e
        have BX3 := Hid.mk (blk_grown' BX2.out GG3.out (by omega))
        have RZ3 := Hid.mk (blk_grown' RZ2.out GG3.out (by omega))
        have hs3 : w.heap.size + 2 ≤ w3.heap.size := Nat.le_trans hs2 GG3.out.size
        have OW1_3 := Hid.mk (OwnO.gb OW1_2.out GG3.out (by omega))
        have OW3 : Hid (OwnO B3 w3 (.slice a3 x3.1.length c3) x3.1) := by rw [hB3]; exact ow3
        clear ow3 hB3
        have hup3 := Hid.mk (OwnO.hi OW3.out)
        have cc3 := (blk_cell BX3.out 3).trans rfl
        have f3 := blk_unfrozen BX3.out 3
        have BX3s : Hid ((w3.setCell ⟨w.heap.size + 1, 3, none⟩ (.slice a3 x3.1.length c3)).heap[w.heap.size + 1]? = some (.cells #[.int .i64 5, .string ⟨#[]⟩, .slice a1 x1.1.length c1, .slice a3 x3.1.length c3, .int .i64 0, .int .i64 0, .int .i64 0] 45)) := by unfold Hid; have := blk_set BX3.out 3 (.slice a3 x3.1.length c3); simpa using this
        have RZ3s : Hid ((w3.setCell ⟨w.heap.size + 1, 3, none⟩ (.slice a3 x3.1.length c3)).heap[w.heap.size]? = some (.cells #[.int .i64 0, .string ⟨#[]⟩, .slice none 0 0, .slice none 0 0, .int .i64 0, .int .i64 0, .int .i64 0] 45)) := blk_set_other RZ3.out (show w.heap.size ≠ w.heap.size + 1 by omega) _
        have P3s : Hid (PS B b a c t x3.2.1 x3.2.2 0 (w3.setCell ⟨w.heap.size + 1, 3, none⟩ (.slice a3 x3.1.length c3))) := Px.other P3.out (by have := P3.out.hB; omega) (by omega)
        have OW1_3s : Hid (OwnO B1 (w3.setCell ⟨w.heap.size + 1, 3, none⟩ (.slice a3 x3.1.length c3)) (.slice a1 x1.1.length c1) x1.1) := OwnO.st OW1_3.out (by omega)
        have OW3s : Hid (OwnO B3 (w3.setCell ⟨w.heap.size + 1, 3, none⟩ (.slice a3 x3.1.length c3)) (.slice a3 x3.1.length c3) x3.1) := OwnO.st OW3.out (by omega)
        obtain ⟨V3, hV3⟩ : ∃ W, W = (w3.setCell ⟨w.heap.size + 1, 3, none⟩ (.slice a3 x3.1.length c3)) := ⟨_, rfl⟩
        have GV3 : Hid (w.grownBy V3 (some b)) := by rw [hV3]; exact (gb_new' G3.out (by omega))
        have sv3 : Hid (V3.heap.size = w3.heap.size) := by rw [hV3]; unfold Hid; simp only [size_set]
        rw [← hV3] at BX3s RZ3s P3s OW1_3s OW3s
        have hs3v : w.heap.size + 2 ≤ V3.heap.size := by rw [sv3.out]; exact hs3
        go_wp2_with fail
        rw [← hV3]
        clear hV3 cc3 f3
        refine (expI B b a c t x3.2.1 x3.2.2 0 V3 P3s.out 3).mono ?_
        rintro e w4 ⟨p, g⟩
        cases hr4 : exp (tkT t) 3 x3.2.1 with
        | out => rw [hr4] at p; exact p.elim
        | bad cc aa =>
          have HR4 := Hid.mk hr4
          rw [hr4] at p; have p : e = .panicked (flV cc aa) := p; subst p
          exact ⟨rfl, (by simp only [HR1.out, HR2.out, HR3.out, HR4.out, bnd_ok, bnd_bad]; exact rfl), gb_then (GV3.out) g⟩
        | ok x4 =>
          have HR4 := Hid.mk hr4
          rw [hr4] at p
          obtain ⟨rfl, p4⟩ := p
          have P4 := Hid.mk p4
          have GG4 := Hid.mk g
          have G4 := Hid.mk (gb_then (GV3.out) g)
          clear p4 g hr4
          have BX4 := Hid.mk (blk_grown' BX3s.out GG4.out (by omega))
          have RZ4 := Hid.mk (blk_grown' RZ3s.out GG4.out (by omega))
          have hs4 : w.heap.size + 2 ≤ w4.heap.size := Nat.le_trans hs3v GG4.out.size
          have OW1_4 := Hid.mk (OwnO.gb OW1_3s.out GG4.out (by omega))
          have OW3_4 := Hid.mk (OwnO.gb OW3s.out GG4.out (by omega))
          have cc0 := (blk_cell BX4.out 0).trans rfl
          have cc1 := (blk_cell BX4.out 1).trans rfl
          have cc2 := (blk_cell BX4.out 2).trans rfl
          have cc3 := (blk_cell BX4.out 3).trans rfl
          have cc4 := (blk_cell BX4.out 4).trans rfl
          have cc5 := (blk_cell BX4.out 5).trans rfl
          have cc6 := (blk_cell BX4.out 6).trans rfl
          have z0 := (blk_cell RZ4.out 0).trans rfl
          have f0 := blk_unfrozen RZ4.out 0
          have z1 := (blk_cell RZ4.out 1).trans rfl
          have f1 := blk_unfrozen RZ4.out 1
          have z2 := (blk_cell RZ4.out 2).trans rfl
          have f2 := blk_unfrozen RZ4.out 2
          have z3 := (blk_cell RZ4.out 3).trans rfl
          have f3 := blk_unfrozen RZ4.out 3
          have z4 := (blk_cell RZ4.out 4).trans rfl
          have f4 := blk_unfrozen RZ4.out 4
          have z5 := (blk_cell RZ4.out 5).trans rfl
          have f5 := blk_unfrozen RZ4.out 5
          have z6 := (blk_cell RZ4.out 6).trans rfl
          have f6 := blk_unfrozen RZ4.out 6
          have PZ : Hid (PS B b a c t x4 x3.2.2 0 (((((((w4.setCell ⟨w.heap.size, 0, none⟩ (.int .i64 5)).setCell ⟨w.heap.size, 1, none⟩ (.string ⟨#[]⟩)).setCell ⟨w.heap.size, 2, none⟩ (.slice a1 x1.1.length c1)).setCell ⟨w.heap.size, 3, none⟩ (.slice a3 x3.1.length c3)).setCell ⟨w.heap.size, 4, none⟩ (.int .i64 0)).setCell ⟨w.heap.size, 5, none⟩ (.int .i64 0)).setCell ⟨w.heap.size, 6, none⟩ (.int .i64 0))) := Px.other (Px.other (Px.other (Px.other (Px.other (Px.other (Px.other (P4.out) (by have := P4.out.hB; omega) (by omega)) (by have := P4.out.hB; omega) (by omega)) (by have := P4.out.hB; omega) (by omega)) (by have := P4.out.hB; omega) (by omega)) (by have := P4.out.hB; omega) (by omega)) (by have := P4.out.hB; omega) (by omega)) (by have := P4.out.hB; omega) (by omega)
          have IT : Hid (ItO w.heap.size (((((((w4.setCell ⟨w.heap.size, 0, none⟩ (.int .i64 5)).setCell ⟨w.heap.size, 1, none⟩ (.string ⟨#[]⟩)).setCell ⟨w.heap.size, 2, none⟩ (.slice a1 x1.1.length c1)).setCell ⟨w.heap.size, 3, none⟩ (.slice a3 x3.1.length c3)).setCell ⟨w.heap.size, 4, none⟩ (.int .i64 0)).setCell ⟨w.heap.size, 5, none⟩ (.int .i64 0)).setCell ⟨w.heap.size, 6, none⟩ (.int .i64 0)) (.agg #[.int .i64 5, .string ⟨#[]⟩, .slice a1 x1.1.length c1, .slice a3 x3.1.length c3, .int .i64 0, .int .i64 0, .int .i64 0]) ⟨5, [], x1.1, x3.1, 0, 0, 0⟩ (.slice a1 x1.1.length c1) (.slice a3 x3.1.length c3) B3) := ⟨rfl, own_base (OwnO.st (OwnO.st (OwnO.st (OwnO.st (OwnO.st (OwnO.st (OwnO.st (OW1_4.out) (by omega)) (by omega)) (by omega)) (by omega)) (by omega)) (by omega)) (by omega)) (by omega), hEB3.out, by omega, OwnO.st (OwnO.st (OwnO.st (OwnO.st (OwnO.st (OwnO.st (OwnO.st (OW3_4.out) (by omega)) (by omega)) (by omega)) (by omega)) (by omega)) (by omega)) (by omega)⟩
          go_wp2
          refine bodyPost_ret (by simp [results, Tryd.results33, go_sem, z0, z1, z2, z3, z4, z5, z6]; try rfl) rfl ?_
          exact ⟨(by simp only [HR1.out, HR2.out, HR3.out, HR4.out, bnd_ok]; exact ⟨_, _, _, _, rfl, IT.out, PZ.out, hx3⟩), (gb_new' (gb_new' (gb_new' (gb_new' (gb_new' (gb_new' (gb_new' G4.out (Nat.le_refl _)) (Nat.le_refl _)) (Nat.le_refl _)) (Nat.le_refl _)) (Nat.le_refl _)) (Nat.le_refl _)) (Nat.le_refl _))⟩

set_option maxHeartbeats 3200000 in
set_option maxRecDepth 1000000 in
theorem item6 (B b : Nat) (a : Option Addr) (c : Nat) (t : List UInt8) (F i j o : Nat) (w W : World) (hk : (tkT t i).k = 21) (h : PS B b a c t i o 0 w) (ho : o ≤ 2000) (ha : adv (tkT t) i = .ok j) (hn : itemK (tkT t) F 6 j o ≠ .out) :
    Calls Tryd.prog 33 #[.pointer (some ⟨b, 0, none⟩)] w fun e w' => Res (itemK (tkT t) F 6 j o) (fun x e w' => ∃ v vE vF m, e = .returned v ∧ ItO w.heap.size w' v x.1 vE vF m ∧ PS B b a c t x.2.1 x.2.2 0 w' ∧ x.2.2 ≤ 2000) e w' ∧ w.grownBy w' (some b) := by
  have y2 := Px.c2 h
  dsimp only at y2
  rw [hk] at y2
  have hlt := Px.lt h
  have e9 : IntKind.i64.wrap ((((21 : Nat) : Int)) - 16) = 5 := by decide
  obtain ⟨W1, hW1⟩ : ∃ W, W = (w.alloc (.cells #[.int .i64 0, .string ⟨#[]⟩, .slice none 0 0, .slice none 0 0, .int .i64 0, .int .i64 0, .int .i64 0] 45)).alloc (.cells #[.int .i64 6, .string ⟨#[]⟩, .slice none 0 0, .slice none 0 0, .int .i64 0, .int .i64 0, .int .i64 0] 45) := ⟨_, rfl⟩
  have A1 : Hid (Below w.heap.size w W1) := by rw [hW1]; exact below_alloc' (below_alloc' (Below.refl _ _) _) _
  have RZ0 : Hid (W1.heap[w.heap.size]? = some (.cells #[.int .i64 0, .string ⟨#[]⟩, .slice none 0 0, .slice none 0 0, .int .i64 0, .int .i64 0, .int .i64 0] 45)) := by rw [hW1]; exact blk_alloc (blk_new _ _) _
  have BX0 : Hid (W1.heap[w.heap.size + 1]? = some (.cells #[.int .i64 6, .string ⟨#[]⟩, .slice none 0 0, .slice none 0 0, .int .i64 0, .int .i64 0, .int .i64 0] 45)) := by rw [hW1]; exact blk_new1 _ _ _
  have P0 : Hid (PS B b a c t i o 0 W1) := Px.below h A1.out
  have G0 : Hid (w.grownBy W1 (some b)) := gb_below A1.out
  have hs0 : w.heap.size + 2 ≤ W1.heap.size := by rw [hW1]; simp
  have HN := Hid.mk hn
  have HA := Hid.mk ha
  clear h hk hn ha
  unfold itemK at HN ⊢
  rw [if_neg (by omega), if_neg (by omega), if_neg (by omega), if_neg (by omega), if_pos (by omega)] at HN ⊢
  go_enter Tryd.func33, Tryd.ntmps33
  go_wp2_with fail
  rw [← hW1]
  clear hW1
  refine (advI B b a c t i o 0 W1 P0.out).mono ?_
  rintro e w0 ⟨p, g⟩
  rw [HA.out] at p
  obtain ⟨rfl, p0⟩ := p
  have PA := Hid.mk p0
  have GA := Hid.mk (gb_then G0.out g)
  have BXa := Hid.mk (blk_grown' BX0.out g (by omega))
  have RZa := Hid.mk (blk_grown' RZ0.out g (by omega))
  have hsa : w.heap.size + 2 ≤ w0.heap.size := Nat.le_trans hs0 g.size
  have k0 := (blk_cell BXa.out 0).trans rfl
  clear p0 g y2 e9
  go_wp2_with fail
  clear k0
  refine (tagI B b a c t j o 0 w0 PA.out).mono ?_
  rintro e w1 ⟨p, g⟩
  cases hr1 : tagP (tkT t) j with
  | out => rw [hr1] at p; exact p.elim
  | bad cc aa =>
    have HR1 := Hid.mk hr1
    rw [hr1] at p; have p : e = .panicked (flV cc aa) := p; subst p
    exact ⟨rfl, (by simp only [HR1.out, bnd_ok, bnd_bad]; exact rfl), gb_then (GA.out) g⟩
  | ok x1 =>
    have HR1 := Hid.mk hr1
    rw [hr1] at p
    obtain ⟨rfl, p1⟩ := p
    have P1 := Hid.mk p1
    have GG1 := Hid.mk g
    have G1 := Hid.mk (gb_then (GA.out) g)
    clear p1 g hr1
    have BX1 := Hid.mk (blk_grown' BXa.out GG1.out (by omega))
    have RZ1 := Hid.mk (blk_grown' RZa.out GG1.out (by omega))
    have hs1 : w.heap.size + 2 ≤ w1.heap.size := Nat.le_trans hsa GG1.out.size
    have cc4 := (blk_cell BX1.out 4).trans rfl
    have f4 := blk_unfrozen BX1.out 4
    have BX1s : Hid ((w1.setCell ⟨w.heap.size + 1, 4, none⟩ (.int .i64 x1.1)).heap[w.heap.size + 1]? = some (.cells #[.int .i64 6, .string ⟨#[]⟩, .slice none 0 0, .slice none 0 0, .int .i64 x1.1, .int .i64 0, .int .i64 0] 45)) := by unfold Hid; have := blk_set BX1.out 4 (.int .i64 x1.1); simpa using this
    have RZ1s : Hid ((w1.setCell ⟨w.heap.size + 1, 4, none⟩ (.int .i64 x1.1)).heap[w.heap.size]? = some (.cells #[.int .i64 0, .string ⟨#[]⟩, .slice none 0 0, .slice none 0 0, .int .i64 0, .int .i64 0, .int .i64 0] 45)) := blk_set_other RZ1.out (show w.heap.size ≠ w.heap.size + 1 by omega) _
    have P1s : Hid (PS B b a c t x1.2 o 0 (w1.setCell ⟨w.heap.size + 1, 4, none⟩ (.int .i64 x1.1))) := Px.other P1.out (by have := P1.out.hB; omega) (by omega)
    obtain ⟨V1, hV1⟩ : ∃ W, W = (w1.setCell ⟨w.heap.size + 1, 4, none⟩ (.int .i64 x1.1)) := ⟨_, rfl⟩
    have GV1 : Hid (w.grownBy V1 (some b)) := by rw [hV1]; exact (gb_new' G1.out (by omega))
    have sv1 : Hid (V1.heap.size = w1.heap.size) := by rw [hV1]; unfold Hid; simp only [size_set]
    rw [← hV1] at BX1s RZ1s P1s
    have hs1v : w.heap.size + 2 ≤ V1.heap.size := by rw [sv1.out]; exact hs1
    go_wp2_with fail
    rw [← hV1]
    clear hV1 cc4 f4
    refine (tagI B b a c t x1.2 o 0 V1 P1s.out).mono ?_
    rintro e w2 ⟨p, g⟩
    cases hr2 : tagP (tkT t) x1.2 with
    | out => rw [hr2] at p; exact p.elim
    | bad cc aa =>
      have HR2 := Hid.mk hr2
      rw [hr2] at p; have p : e = .panicked (flV cc aa) := p; subst p
      exact ⟨rfl, (by simp only [HR1.out, HR2.out, bnd_ok, bnd_bad]; exact rfl), gb_then (GV1.out) g⟩
    | ok x2 =>
      have HR2 := Hid.mk hr2
      rw [hr2] at p
      obtain ⟨rfl, p2⟩ := p
      have P2 := Hid.mk p2
      have GG2 := Hid.mk g
      have G2 := Hid.mk (gb_then (GV1.out) g)
      clear p2 g hr2
      have BX2 := Hid.mk (blk_grown' BX1s.out GG2.out (by omega))
      have RZ2 := Hid.mk (blk_grown' RZ1s.out GG2.out (by omega))
      have hs2 : w.heap.size + 2 ≤ w2.heap.size := Nat.le_trans hs1v GG2.out.size
      have cc5 := (blk_cell BX2.out 5).trans rfl
      have f5 := blk_unfrozen BX2.out 5
      have BX2s : Hid ((w2.setCell ⟨w.heap.size + 1, 5, none⟩ (.int .i64 x2.1)).heap[w.heap.size + 1]? = some (.cells #[.int .i64 6, .string ⟨#[]⟩, .slice none 0 0, .slice none 0 0, .int .i64 x1.1, .int .i64 x2.1, .int .i64 0] 45)) := by unfold Hid; have := blk_set BX2.out 5 (.int .i64 x2.1); simpa using this
      have RZ2s : Hid ((w2.setCell ⟨w.heap.size + 1, 5, none⟩ (.int .i64 x2.1)).heap[w.heap.size]? = some (.cells #[.int .i64 0, .string ⟨#[]⟩, .slice none 0 0, .slice none 0 0, .int .i64 0, .int .i64 0, .int .i64 0] 45)) := blk_set_other RZ2.out (show w.heap.size ≠ w.heap.size + 1 by omega) _
      have P2s : Hid (PS B b a c t x2.2 o 0 (w2.setCell ⟨w.heap.size + 1, 5, none⟩ (.int .i64 x2.1))) := Px.other P2.out (by have := P2.out.hB; omega) (by omega)
      obtain ⟨V2, hV2⟩ : ∃ W, W = (w2.setCell ⟨w.heap.size + 1, 5, none⟩ (.int .i64 x2.1)) := ⟨_, rfl⟩
      have GV2 : Hid (w.grownBy V2 (some b)) := by rw [hV2]; exact (gb_new' G2.out (by omega))
      have sv2 : Hid (V2.heap.size = w2.heap.size) := by rw [hV2]; unfold Hid; simp only [size_set]
      rw [← hV2] at BX2s RZ2s P2s
      have hs2v : w.heap.size + 2 ≤ V2.heap.size := by rw [sv2.out]; exact hs2
      go_wp2_with fail
      rw [← hV2]
      clear hV2 cc5 f5
      refine (expI B b a c t x2.2 o 0 V2 P2s.out 3).mono ?_
      rintro e w3 ⟨p, g⟩
      cases hr3 : exp (tkT t) 3 x2.2 with
      | out => rw [hr3] at p; exact p.elim
      | bad cc aa =>
        have HR3 := Hid.mk hr3
        rw [hr3] at p; have p : e = .panicked (flV cc aa) := p; subst p
        exact ⟨rfl, (by simp only [HR1.out, HR2.out, HR3.out, bnd_ok, bnd_bad]; exact rfl), gb_then (GV2.out) g⟩
      | ok x3 =>
        have HR3 := Hid.mk hr3
        rw [hr3] at p
        obtain ⟨rfl, p3⟩ := p
        have P3 := Hid.mk p3
        have GG3 := Hid.mk g
        have G3 := Hid.mk (gb_then (GV2.out) g)
        clear p3 g hr3
        have BX3 := Hid.mk (blk_grown' BX2s.out GG3.out (by omega))
        have RZ3 := Hid.mk (blk_grown' RZ2s.out GG3.out (by omega))
        have hs3 : w.heap.size + 2 ≤ w3.heap.size := Nat.le_trans hs2v GG3.out.size
        have cc0 := (blk_cell BX3.out 0).trans rfl
        have cc1 := (blk_cell BX3.out 1).trans rfl
        have cc2 := (blk_cell BX3.out 2).trans rfl
        have cc3 := (blk_cell BX3.out 3).trans rfl
        have cc4 := (blk_cell BX3.out 4).trans rfl
        have cc5 := (blk_cell BX3.out 5).trans rfl
        have cc6 := (blk_cell BX3.out 6).trans rfl
        have z0 := (blk_cell RZ3.out 0).trans rfl
        have f0 := blk_unfrozen RZ3.out 0
        have z1 := (blk_cell RZ3.out 1).trans rfl
        have f1 := blk_unfrozen RZ3.out 1
        have z2 := (blk_cell RZ3.out 2).trans rfl
        have f2 := blk_unfrozen RZ3.out 2
        have z3 := (blk_cell RZ3.out 3).trans rfl
        have f3 := blk_unfrozen RZ3.out 3
        have z4 := (blk_cell RZ3.out 4).trans rfl
        have f4 := blk_unfrozen RZ3.out 4
        have z5 := (blk_cell RZ3.out 5).trans rfl
        have f5 := blk_unfrozen RZ3.out 5
        have z6 := (blk_cell RZ3.out 6).trans rfl
        have f6 := blk_unfrozen RZ3.out 6
        have PZ : Hid (PS B b a c t x3 o 0 (((((((w3.setCell ⟨w.heap.size, 0, none⟩ (.int .i64 6)).setCell ⟨w.heap.size, 1, none⟩ (.string ⟨#[]⟩)).setCell ⟨w.heap.size, 2, none⟩ (.slice none 0 0)).setCell ⟨w.heap.size, 3, none⟩ (.slice none 0 0)).setCell ⟨w.heap.size, 4, none⟩ (.int .i64 x1.1)).setCell ⟨w.heap.size, 5, none⟩ (.int .i64 x2.1)).setCell ⟨w.heap.size, 6, none⟩ (.int .i64 0))) := Px.other (Px.other (Px.other (Px.other (Px.other (Px.other (Px.other (P3.out) (by have := P3.out.hB; omega) (by omega)) (by have := P3.out.hB; omega) (by omega)) (by have := P3.out.hB; omega) (by omega)) (by have := P3.out.hB; omega) (by omega)) (by have := P3.out.hB; omega) (by omega)) (by have := P3.out.hB; omega) (by omega)) (by have := P3.out.hB; omega) (by omega)
        have IT : Hid (ItO w.heap.size (((((((w3.setCell ⟨w.heap.size, 0, none⟩ (.int .i64 6)).setCell ⟨w.heap.size, 1, none⟩ (.string ⟨#[]⟩)).setCell ⟨w.heap.size, 2, none⟩ (.slice none 0 0)).setCell ⟨w.heap.size, 3, none⟩ (.slice none 0 0)).setCell ⟨w.heap.size, 4, none⟩ (.int .i64 x1.1)).setCell ⟨w.heap.size, 5, none⟩ (.int .i64 x2.1)).setCell ⟨w.heap.size, 6, none⟩ (.int .i64 0)) (.agg #[.int .i64 6, .string ⟨#[]⟩, .slice none 0 0, .slice none 0 0, .int .i64 x1.1, .int .i64 x2.1, .int .i64 0]) ⟨6, [], [], [], x1.1, x2.1, 0⟩ (.slice none 0 0) (.slice none 0 0) w.heap.size) := ⟨rfl, World.ownsRow_nil _ _ _ _, (fun g e => by cases e), Nat.le_refl _, World.ownsRow_nil _ _ _ _⟩
        go_wp2
        refine bodyPost_ret (by simp [results, Tryd.results33, go_sem, z0, z1, z2, z3, z4, z5, z6]; try rfl) rfl ?_
        exact ⟨(by simp only [HR1.out, HR2.out, HR3.out, bnd_ok]; exact ⟨_, _, _, _, rfl, IT.out, PZ.out, ho⟩), (gb_new' (gb_new' (gb_new' (gb_new' (gb_new' (gb_new' (gb_new' G3.out (Nat.le_refl _)) (Nat.le_refl _)) (Nat.le_refl _)) (Nat.le_refl _)) (Nat.le_refl _)) (Nat.le_refl _)) (Nat.le_refl _))⟩

set_option maxHeartbeats 3200000 in
set_option maxRecDepth 1000000 in
theorem item7 (B b : Nat) (a : Option Addr) (c : Nat) (t : List UInt8) (F i j o : Nat) (w W : World) (hk : (tkT t i).k = 22) (h : PS B b a c t i o 0 w) (ho : o ≤ 2000) (ha : adv (tkT t) i = .ok j) (hn : itemK (tkT t) F 7 j o ≠ .out) :
    Calls Tryd.prog 33 #[.pointer (some ⟨b, 0, none⟩)] w fun e w' => Res (itemK (tkT t) F 7 j o) (fun x e w' => ∃ v vE vF m, e = .returned v ∧ ItO w.heap.size w' v x.1 vE vF m ∧ PS B b a c t x.2.1 x.2.2 0 w' ∧ x.2.2 ≤ 2000) e w' ∧ w.grownBy w' (some b) := by
  have y2 := Px.c2 h
  dsimp only at y2
  rw [hk] at y2
  have hlt := Px.lt h
  have e9 : IntKind.i64.wrap ((((22 : Nat) : Int)) - 16) = 6 := by decide
  obtain ⟨W1, hW1⟩ : ∃ W, W = (w.alloc (.cells #[.int .i64 0, .string ⟨#[]⟩, .slice none 0 0, .slice none 0 0, .int .i64 0, .int .i64 0, .int .i64 0] 45)).alloc (.cells #[.int .i64 7, .string ⟨#[]⟩, .slice none 0 0, .slice none 0 0, .int .i64 0, .int .i64 0, .int .i64 0] 45) := ⟨_, rfl⟩
  have A1 : Hid (Below w.heap.size w W1) := by rw [hW1]; exact below_alloc' (below_alloc' (Below.refl _ _) _) _
  have RZ0 : Hid (W1.heap[w.heap.size]? = some (.cells #[.int .i64 0, .string ⟨#[]⟩, .slice none 0 0, .slice none 0 0, .int .i64 0, .int .i64 0, .int .i64 0] 45)) := by rw [hW1]; exact blk_alloc (blk_new _ _) _
  have BX0 : Hid (W1.heap[w.heap.size + 1]? = some (.cells #[.int .i64 7, .string ⟨#[]⟩, .slice none 0 0, .slice none 0 0, .int .i64 0, .int .i64 0, .int .i64 0] 45)) := by rw [hW1]; exact blk_new1 _ _ _
  have P0 : Hid (PS B b a c t i o 0 W1) := Px.below h A1.out
  have G0 : Hid (w.grownBy W1 (some b)) := gb_below A1.out
  have hs0 : w.heap.size + 2 ≤ W1.heap.size := by rw [hW1]; simp
  have HN := Hid.mk hn
  have HA := Hid.mk ha
  clear h hk hn ha
  unfold itemK at HN ⊢
  rw [if_neg (by omega), if_neg (by omega), if_neg (by omega), if_neg (by omega), if_neg (by omega), if_pos (by omega)] at HN ⊢
  go_enter Tryd.func33, Tryd.ntmps33
  go_wp2_with fail
  rw [← hW1]
  clear hW1
  refine (advI B b a c t i o 0 W1 P0.out).mono ?_
  rintro e w0 ⟨p, g⟩
  rw [HA.out] at p
  obtain ⟨rfl, p0⟩ := p
  have PA := Hid.mk p0
  have GA := Hid.mk (gb_then G0.out g)
  have BXa := Hid.mk (blk_grown' BX0.out g (by omega))
  have RZa := Hid.mk (blk_grown' RZ0.out g (by omega))
  have hsa : w.heap.size + 2 ≤ w0.heap.size := Nat.le_trans hs0 g.size
  have k0 := (blk_cell BXa.out 0).trans rfl
  clear p0 g y2 e9
  go_wp2_with fail
  clear k0
  refine (numberP B b a c t j o 0 w0 PA.out).mono ?_
  rintro e w1 ⟨p, g⟩
  cases hr1 : numP (tkT t) j with
  | out => rw [hr1] at p; exact p.elim
  | bad cc aa =>
    have HR1 := Hid.mk hr1
    rw [hr1] at p; have p : e = .panicked (flV cc aa) := p; subst p
    exact ⟨rfl, (by simp only [HR1.out, bnd_ok, bnd_bad]; exact rfl), gb_then (GA.out) g⟩
  | ok x1 =>
    have HR1 := Hid.mk hr1
    rw [hr1] at p
    obtain ⟨rfl, p1⟩ := p
    have P1 := Hid.mk p1
    have GG1 := Hid.mk g
    have G1 := Hid.mk (gb_then (GA.out) g)
    clear p1 g hr1
    have BX1 := Hid.mk (blk_grown' BXa.out GG1.out (by omega))
    have RZ1 := Hid.mk (blk_grown' RZa.out GG1.out (by omega))
    have hs1 : w.heap.size + 2 ≤ w1.heap.size := Nat.le_trans hsa GG1.out.size
    have cc4 := (blk_cell BX1.out 4).trans rfl
    have f4 := blk_unfrozen BX1.out 4
    have BX1s : Hid ((w1.setCell ⟨w.heap.size + 1, 4, none⟩ (.int .i64 x1.1)).heap[w.heap.size + 1]? = some (.cells #[.int .i64 7, .string ⟨#[]⟩, .slice none 0 0, .slice none 0 0, .int .i64 x1.1, .int .i64 0, .int .i64 0] 45)) := by unfold Hid; have := blk_set BX1.out 4 (.int .i64 x1.1); simpa using this
    have RZ1s : Hid ((w1.setCell ⟨w.heap.size + 1, 4, none⟩ (.int .i64 x1.1)).heap[w.heap.size]? = some (.cells #[.int .i64 0, .string ⟨#[]⟩, .slice none 0 0, .slice none 0 0, .int .i64 0, .int .i64 0, .int .i64 0] 45)) := blk_set_other RZ1.out (show w.heap.size ≠ w.heap.size + 1 by omega) _
    have P1s : Hid (PS B b a c t x1.2 o 0 (w1.setCell ⟨w.heap.size + 1, 4, none⟩ (.int .i64 x1.1))) := Px.other P1.out (by have := P1.out.hB; omega) (by omega)
    obtain ⟨V1, hV1⟩ : ∃ W, W = (w1.setCell ⟨w.heap.size + 1, 4, none⟩ (.int .i64 x1.1)) := ⟨_, rfl⟩
    have GV1 : Hid (w.grownBy V1 (some b)) := by rw [hV1]; exact (gb_new' G1.out (by omega))
    have sv1 : Hid (V1.heap.size = w1.heap.size) := by rw [hV1]; unfold Hid; simp only [size_set]
    rw [← hV1] at BX1s RZ1s P1s
    have hs1v : w.heap.size + 2 ≤ V1.heap.size := by rw [sv1.out]; exact hs1
    go_wp2_with fail
    rw [← hV1]
    clear hV1 cc4 f4
    refine (expI B b a c t x1.2 o 0 V1 P1s.out 3).mono ?_
    rintro e w2 ⟨p, g⟩
    cases hr2 : exp (tkT t) 3 x1.2 with
    | out => rw [hr2] at p; exact p.elim
    | bad cc aa =>
      have HR2 := Hid.mk hr2
      rw [hr2] at p; have p : e = .panicked (flV cc aa) := p; subst p
      exact ⟨rfl, (by simp only [HR1.out, HR2.out, bnd_ok, bnd_bad]; exact rfl), gb_then (GV1.out) g⟩
    | ok x2 =>
      have HR2 := Hid.mk hr2
      rw [hr2] at p
      obtain ⟨rfl, p2⟩ := p
      have P2 := Hid.mk p2
      have GG2 := Hid.mk g
      have G2 := Hid.mk (gb_then (GV1.out) g)
      clear p2 g hr2
      have BX2 := Hid.mk (blk_grown' BX1s.out GG2.out (by omega))
      have RZ2 := Hid.mk (blk_grown' RZ1s.out GG2.out (by omega))
      have hs2 : w.heap.size + 2 ≤ w2.heap.size := Nat.le_trans hs1v GG2.out.size
      have cc0 := (blk_cell BX2.out 0).trans rfl
      have cc1 := (blk_cell BX2.out 1).trans rfl
      have cc2 := (blk_cell BX2.out 2).trans rfl
      have cc3 := (blk_cell BX2.out 3).trans rfl
      have cc4 := (blk_cell BX2.out 4).trans rfl
      have cc5 := (blk_cell BX2.out 5).trans rfl
      have cc6 := (blk_cell BX2.out 6).trans rfl
      have z0 := (blk_cell RZ2.out 0).trans rfl
      have f0 := blk_unfrozen RZ2.out 0
      have z1 := (blk_cell RZ2.out 1).trans rfl
      have f1 := blk_unfrozen RZ2.out 1
      have z2 := (blk_cell RZ2.out 2).trans rfl
      have f2 := blk_unfrozen RZ2.out 2
      have z3 := (blk_cell RZ2.out 3).trans rfl
      have f3 := blk_unfrozen RZ2.out 3
      have z4 := (blk_cell RZ2.out 4).trans rfl
      have f4 := blk_unfrozen RZ2.out 4
      have z5 := (blk_cell RZ2.out 5).trans rfl
      have f5 := blk_unfrozen RZ2.out 5
      have z6 := (blk_cell RZ2.out 6).trans rfl
      have f6 := blk_unfrozen RZ2.out 6
      have PZ : Hid (PS B b a c t x2 o 0 (((((((w2.setCell ⟨w.heap.size, 0, none⟩ (.int .i64 7)).setCell ⟨w.heap.size, 1, none⟩ (.string ⟨#[]⟩)).setCell ⟨w.heap.size, 2, none⟩ (.slice none 0 0)).setCell ⟨w.heap.size, 3, none⟩ (.slice none 0 0)).setCell ⟨w.heap.size, 4, none⟩ (.int .i64 x1.1)).setCell ⟨w.heap.size, 5, none⟩ (.int .i64 0)).setCell ⟨w.heap.size, 6, none⟩ (.int .i64 0))) := Px.other (Px.other (Px.other (Px.other (Px.other (Px.other (Px.other (P2.out) (by have := P2.out.hB; omega) (by omega)) (by have := P2.out.hB; omega) (by omega)) (by have := P2.out.hB; omega) (by omega)) (by have := P2.out.hB; omega) (by omega)) (by have := P2.out.hB; omega) (by omega)) (by have := P2.out.hB; omega) (by omega)) (by have := P2.out.hB; omega) (by omega)
      have IT : Hid (ItO w.heap.size (((((((w2.setCell ⟨w.heap.size, 0, none⟩ (.int .i64 7)).setCell ⟨w.heap.size, 1, none⟩ (.string ⟨#[]⟩)).setCell ⟨w.heap.size, 2, none⟩ (.slice none 0 0)).setCell ⟨w.heap.size, 3, none⟩ (.slice none 0 0)).setCell ⟨w.heap.size, 4, none⟩ (.int .i64 x1.1)).setCell ⟨w.heap.size, 5, none⟩ (.int .i64 0)).setCell ⟨w.heap.size, 6, none⟩ (.int .i64 0)) (.agg #[.int .i64 7, .string ⟨#[]⟩, .slice none 0 0, .slice none 0 0, .int .i64 x1.1, .int .i64 0, .int .i64 0]) ⟨7, [], [], [], x1.1, 0, 0⟩ (.slice none 0 0) (.slice none 0 0) w.heap.size) := ⟨rfl, World.ownsRow_nil _ _ _ _, (fun g e => by cases e), Nat.le_refl _, World.ownsRow_nil _ _ _ _⟩
      go_wp2
      refine bodyPost_ret (by simp [results, Tryd.results33, go_sem, z0, z1, z2, z3, z4, z5, z6]; try rfl) rfl ?_
      exact ⟨(by simp only [HR1.out, HR2.out, bnd_ok]; exact ⟨_, _, _, _, rfl, IT.out, PZ.out, ho⟩), (gb_new' (gb_new' (gb_new' (gb_new' (gb_new' (gb_new' (gb_new' G2.out (Nat.le_refl _)) (Nat.le_refl _)) (Nat.le_refl _)) (Nat.le_refl _)) (Nat.le_refl _)) (Nat.le_refl _)) (Nat.le_refl _))⟩

set_option maxHeartbeats 3200000 in
set_option maxRecDepth 1000000 in
theorem item8 (B b : Nat) (a : Option Addr) (c : Nat) (t : List UInt8) (F i j o : Nat) (w W : World) (hk : (tkT t i).k = 23) (h : PS B b a c t i o 0 w) (ho : o ≤ 2000) (ha : adv (tkT t) i = .ok j) (hn : itemK (tkT t) F 8 j o ≠ .out) :
    Calls Tryd.prog 33 #[.pointer (some ⟨b, 0, none⟩)] w fun e w' => Res (itemK (tkT t) F 8 j o) (fun x e w' => ∃ v vE vF m, e = .returned v ∧ ItO w.heap.size w' v x.1 vE vF m ∧ PS B b a c t x.2.1 x.2.2 0 w' ∧ x.2.2 ≤ 2000) e w' ∧ w.grownBy w' (some b) := by
  have y2 := Px.c2 h
  dsimp only at y2
  rw [hk] at y2
  have hlt := Px.lt h
  have e9 : IntKind.i64.wrap ((((23 : Nat) : Int)) - 16) = 7 := by decide
  obtain ⟨W1, hW1⟩ : ∃ W, W = (w.alloc (.cells #[.int .i64 0, .string ⟨#[]⟩, .slice none 0 0, .slice none 0 0, .int .i64 0, .int .i64 0, .int .i64 0] 45)).alloc (.cells #[.int .i64 8, .string ⟨#[]⟩, .slice none 0 0, .slice none 0 0, .int .i64 0, .int .i64 0, .int .i64 0] 45) := ⟨_, rfl⟩
  have A1 : Hid (Below w.heap.size w W1) := by rw [hW1]; exact below_alloc' (below_alloc' (Below.refl _ _) _) _
  have RZ0 : Hid (W1.heap[w.heap.size]? = some (.cells #[.int .i64 0, .string ⟨#[]⟩, .slice none 0 0, .slice none 0 0, .int .i64 0, .int .i64 0, .int .i64 0] 45)) := by rw [hW1]; exact blk_alloc (blk_new _ _) _
  have BX0 : Hid (W1.heap[w.heap.size + 1]? = some (.cells #[.int .i64 8, .string ⟨#[]⟩, .slice none 0 0, .slice none 0 0, .int .i64 0, .int .i64 0, .int .i64 0] 45)) := by rw [hW1]; exact blk_new1 _ _ _
  have P0 : Hid (PS B b a c t i o 0 W1) := Px.below h A1.out
  have G0 : Hid (w.grownBy W1 (some b)) := gb_below A1.out
  have hs0 : w.heap.size + 2 ≤ W1.heap.size := by rw [hW1]; simp
  have HN := Hid.mk hn
  have HA := Hid.mk ha
  clear h hk hn ha
  unfold itemK at HN ⊢
  rw [if_neg (by omega), if_neg (by omega), if_neg (by omega), if_neg (by omega), if_neg (by omega), if_neg (by omega), if_pos (by omega)] at HN ⊢
  go_enter Tryd.func33, Tryd.ntmps33
  go_wp2_with fail
  rw [← hW1]
  clear hW1
  refine (advI B b a c t i o 0 W1 P0.out).mono ?_
  rintro e w0 ⟨p, g⟩
  rw [HA.out] at p
  obtain ⟨rfl, p0⟩ := p
  have PA := Hid.mk p0
  have GA := Hid.mk (gb_then G0.out g)
  have BXa := Hid.mk (blk_grown' BX0.out g (by omega))
  have RZa := Hid.mk (blk_grown' RZ0.out g (by omega))
  have hsa : w.heap.size + 2 ≤ w0.heap.size := Nat.le_trans hs0 g.size
  have k0 := (blk_cell BXa.out 0).trans rfl
  clear p0 g y2 e9
  go_wp2_with fail
  clear k0
  have hn1 : pxP (tkT t) F j o ≠ .out := fun e => HN.out (by simp only [bnd_ok, e]; rfl)
  refine (pxI B b a c t F j o w0 PA.out ho hn1).mono ?_
  rintro e w1 ⟨p, g⟩
  cases hr1 : pxP (tkT t) F j o with
  | out => rw [hr1] at p; exact p.elim
  | bad cc aa =>
    have HR1 := Hid.mk hr1
    rw [hr1] at p; have p : e = .panicked (flV cc aa) := p; subst p
    exact ⟨rfl, (by simp only [HR1.out, bnd_ok, bnd_bad]; exact rfl), gb_then (GA.out) g⟩
  | ok x1 =>
    have HR1 := Hid.mk hr1
    rw [hr1] at p
    obtain ⟨v1, rfl, ow1, p1, hx1⟩ := p
    have P1 := Hid.mk p1
    have GG1 := Hid.mk g
    have G1 := Hid.mk (gb_then (GA.out) g)
    obtain ⟨a1, c1, rfl⟩ := ow1.sl
    clear p1 g hr1
    obtain ⟨B1, hB1⟩ : ∃ n, n = w0.heap.size := ⟨_, rfl⟩
    have hsB1 : w.heap.size + 2 ≤ B1 := by rw [hB1]; exact hsa
    have BX1 := Hid.mk (blk_grown' BXa.out GG1.out (by omega))
    have RZ1 := Hid.mk (blk_grown' RZa.out GG1.out (by omega))
    have hs1 : w.heap.size + 2 ≤ w1.heap.size := Nat.le_trans hsa GG1.out.size
    have OW1 : Hid (OwnO B1 w1 (.slice a1 x1.1.length c1) x1.1) := by rw [hB1]; exact ow1
    clear ow1 hB1
    have hup1 := Hid.mk (OwnO.hi OW1.out)
    have cc2 := (blk_cell BX1.out 2).trans rfl
    have f2 := blk_unfrozen BX1.out 2
    have BX1s : Hid ((w1.setCell ⟨w.heap.size + 1, 2, none⟩ (.slice a1 x1.1.length c1)).heap[w.heap.size + 1]? = some (.cells #[.int .i64 8, .string ⟨#[]⟩, .slice a1 x1.1.length c1, .slice none 0 0, .int .i64 0, .int .i64 0, .int .i64 0] 45)) := by unfold Hid; have := blk_set BX1.out 2 (.slice a1 x1.1.length c1); simpa using this
    have RZ1s : Hid ((w1.setCell ⟨w.heap.size + 1, 2, none⟩ (.slice a1 x1.1.length c1)).heap[w.heap.size]? = some (.cells #[.int .i64 0, .string ⟨#[]⟩, .slice none 0 0, .slice none 0 0, .int .i64 0, .int .i64 0, .int .i64 0] 45)) := blk_set_other RZ1.out (show w.heap.size ≠ w.heap.size + 1 by omega) _
    have P1s : Hid (PS B b a c t x1.2.1 x1.2.2 0 (w1.setCell ⟨w.heap.size + 1, 2, none⟩ (.slice a1 x1.1.length c1))) := Px.other P1.out (by have := P1.out.hB; omega) (by omega)
    have OW1s : Hid (OwnO B1 (w1.setCell ⟨w.heap.size + 1, 2, none⟩ (.slice a1 x1.1.length c1)) (.slice a1 x1.1.length c1) x1.1) := OwnO.st OW1.out (by omega)
    obtain ⟨V1, hV1⟩ : ∃ W, W = (w1.setCell ⟨w.heap.size + 1, 2, none⟩ (.slice a1 x1.1.length c1)) := ⟨_, rfl⟩
    have GV1 : Hid (w.grownBy V1 (some b)) := by rw [hV1]; exact (gb_new' G1.out (by omega))
    have sv1 : Hid (V1.heap.size = w1.heap.size) := by rw [hV1]; unfold Hid; simp only [size_set]
    rw [← hV1] at BX1s RZ1s P1s OW1s
    have hs1v : w.heap.size + 2 ≤ V1.heap.size := by rw [sv1.out]; exact hs1
    go_wp2_with fail
    rw [← hV1]
    clear hV1 cc2 f2
    refine (spanI B b a c t x1.2.1 x1.2.2 0 V1 P1s.out).mono ?_
    rintro e w2 ⟨p, g⟩
    cases hr2 : spanP (tkT t) x1.2.1 with
    | out => rw [hr2] at p; exact p.elim
    | bad cc aa =>
      have HR2 := Hid.mk hr2
      rw [hr2] at p; have p : e = .panicked (flV cc aa) := p; subst p
      exact ⟨rfl, (by simp only [HR1.out, HR2.out, bnd_ok, bnd_bad]; exact rfl), gb_then (GV1.out) g⟩
    | ok x2 =>
      have HR2 := Hid.mk hr2
      rw [hr2] at p
      obtain ⟨rfl, p2⟩ := p
      have P2 := Hid.mk p2
      have GG2 := Hid.mk g
      have G2 := Hid.mk (gb_then (GV1.out) g)
      clear p2 g hr2
      have BX2 := Hid.mk (blk_grown' BX1s.out GG2.out (by omega))
      have RZ2 := Hid.mk (blk_grown' RZ1s.out GG2.out (by omega))
      have hs2 : w.heap.size + 2 ≤ w2.heap.size := Nat.le_trans hs1v GG2.out.size
      have OW1_2 := Hid.mk (OwnO.gb OW1s.out GG2.out (by omega))
      have cc5 := (blk_cell BX2.out 5).trans rfl
      have f5 := blk_unfrozen BX2.out 5
      have cc6 := (blk_cell BX2.out 6).trans rfl
      have f6 := blk_unfrozen BX2.out 6
      have BX2s : Hid ((w2.setCell ⟨w.heap.size + 1, 5, none⟩ (.int .i64 x2.1.1)).heap[w.heap.size + 1]? = some (.cells #[.int .i64 8, .string ⟨#[]⟩, .slice a1 x1.1.length c1, .slice none 0 0, .int .i64 0, .int .i64 x2.1.1, .int .i64 0] 45)) := by unfold Hid; have := blk_set BX2.out 5 (.int .i64 x2.1.1); simpa using this
      have RZ2s : Hid ((w2.setCell ⟨w.heap.size + 1, 5, none⟩ (.int .i64 x2.1.1)).heap[w.heap.size]? = some (.cells #[.int .i64 0, .string ⟨#[]⟩, .slice none 0 0, .slice none 0 0, .int .i64 0, .int .i64 0, .int .i64 0] 45)) := blk_set_other RZ2.out (show w.heap.size ≠ w.heap.size + 1 by omega) _
      have P2s : Hid (PS B b a c t x2.2 x1.2.2 0 (w2.setCell ⟨w.heap.size + 1, 5, none⟩ (.int .i64 x2.1.1))) := Px.other P2.out (by have := P2.out.hB; omega) (by omega)
      have OW1_2s : Hid (OwnO B1 (w2.setCell ⟨w.heap.size + 1, 5, none⟩ (.int .i64 x2.1.1)) (.slice a1 x1.1.length c1) x1.1) := OwnO.st OW1_2.out (by omega)
      have BX2ss : Hid (((w2.setCell ⟨w.heap.size + 1, 5, none⟩ (.int .i64 x2.1.1)).setCell ⟨w.heap.size + 1, 6, none⟩ (.int .i64 x2.1.2)).heap[w.heap.size + 1]? = some (.cells #[.int .i64 8, .string ⟨#[]⟩, .slice a1 x1.1.length c1, .slice none 0 0, .int .i64 0, .int .i64 x2.1.1, .int .i64 x2.1.2] 45)) := by unfold Hid; have := blk_set BX2s.out 6 (.int .i64 x2.1.2); simpa using this
      have RZ2ss : Hid (((w2.setCell ⟨w.heap.size + 1, 5, none⟩ (.int .i64 x2.1.1)).setCell ⟨w.heap.size + 1, 6, none⟩ (.int .i64 x2.1.2)).heap[w.heap.size]? = some (.cells #[.int .i64 0, .string ⟨#[]⟩, .slice none 0 0, .slice none 0 0, .int .i64 0, .int .i64 0, .int .i64 0] 45)) := blk_set_other RZ2s.out (show w.heap.size ≠ w.heap.size + 1 by omega) _
      have P2ss : Hid (PS B b a c t x2.2 x1.2.2 0 ((w2.setCell ⟨w.heap.size + 1, 5, none⟩ (.int .i64 x2.1.1)).setCell ⟨w.heap.size + 1, 6, none⟩ (.int .i64 x2.1.2))) := Px.other P2s.out (by have := P2s.out.hB; omega) (by omega)
      have OW1_2ss : Hid (OwnO B1 ((w2.setCell ⟨w.heap.size + 1, 5, none⟩ (.int .i64 x2.1.1)).setCell ⟨w.heap.size + 1, 6, none⟩ (.int .i64 x2.1.2)) (.slice a1 x1.1.length c1) x1.1) := OwnO.st OW1_2s.out (by omega)
      obtain ⟨V2, hV2⟩ : ∃ W, W = ((w2.setCell ⟨w.heap.size + 1, 5, none⟩ (.int .i64 x2.1.1)).setCell ⟨w.heap.size + 1, 6, none⟩ (.int .i64 x2.1.2)) := ⟨_, rfl⟩
      have GV2 : Hid (w.grownBy V2 (some b)) := by rw [hV2]; exact (gb_new' (gb_new' G2.out (by omega)) (by omega))
      have sv2 : Hid (V2.heap.size = w2.heap.size) := by rw [hV2]; unfold Hid; simp only [size_set]
      rw [← hV2] at BX2ss RZ2ss P2ss OW1_2ss
      have hs2v : w.heap.size + 2 ≤ V2.heap.size := by rw [sv2.out]; exact hs2
      go_wp2_with fail
      rw [← hV2]
      clear hV2 cc5 cc6 f5 f6
      refine (expI B b a c t x2.2 x1.2.2 0 V2 P2ss.out 3).mono ?_
      rintro e w3 ⟨p, g⟩
      cases hr3 : exp (tkT t) 3 x2.2 with
      | out => rw [hr3] at p; exact p.elim
      | bad cc aa =>
        have HR3 := Hid.mk hr3
        rw [hr3] at p; have p : e = .panicked (flV cc aa) := p; subst p
        exact ⟨rfl, (by simp only [HR1.out, HR2.out, HR3.out, bnd_ok, bnd_bad]; exact rfl), gb_then (GV2.out) g⟩
      | ok x3 =>
        have HR3 := Hid.mk hr3
        rw [hr3] at p
        obtain ⟨rfl, p3⟩ := p
        have P3 := Hid.mk p3
        have GG3 := Hid.mk g
        have G3 := Hid.mk (gb_then (GV2.out) g)
        clear p3 g hr3
        have BX3 := Hid.mk (blk_grown' BX2ss.out GG3.out (by omega))
        have RZ3 := Hid.mk (blk_grown' RZ2ss.out GG3.out (by omega))
        have hs3 : w.heap.size + 2 ≤ w3.heap.size := Nat.le_trans hs2v GG3.out.size
        have OW1_3 := Hid.mk (OwnO.gb OW1_2ss.out GG3.out (by omega))
        have cc0 := (blk_cell BX3.out 0).trans rfl
        have cc1 := (blk_cell BX3.out 1).trans rfl
        have cc2 := (blk_cell BX3.out 2).trans rfl
        have cc3 := (blk_cell BX3.out 3).trans rfl
        have cc4 := (blk_cell BX3.out 4).trans rfl
        have cc5 := (blk_cell BX3.out 5).trans rfl
        have cc6 := (blk_cell BX3.out 6).trans rfl
        have z0 := (blk_cell RZ3.out 0).trans rfl
        have f0 := blk_unfrozen RZ3.out 0
        have z1 := (blk_cell RZ3.out 1).trans rfl
        have f1 := blk_unfrozen RZ3.out 1
        have z2 := (blk_cell RZ3.out 2).trans rfl
        have f2 := blk_unfrozen RZ3.out 2
        have z3 := (blk_cell RZ3.out 3).trans rfl
        have f3 := blk_unfrozen RZ3.out 3
        have z4 := (blk_cell RZ3.out 4).trans rfl
        have f4 := blk_unfrozen RZ3.out 4
        have z5 := (blk_cell RZ3.out 5).trans rfl
        have f5 := blk_unfrozen RZ3.out 5
        have z6 := (blk_cell RZ3.out 6).trans rfl
        have f6 := blk_unfrozen RZ3.out 6
        have PZ : Hid (PS B b a c t x3 x1.2.2 0 (((((((w3.setCell ⟨w.heap.size, 0, none⟩ (.int .i64 8)).setCell ⟨w.heap.size, 1, none⟩ (.string ⟨#[]⟩)).setCell ⟨w.heap.size, 2, none⟩ (.slice a1 x1.1.length c1)).setCell ⟨w.heap.size, 3, none⟩ (.slice none 0 0)).setCell ⟨w.heap.size, 4, none⟩ (.int .i64 0)).setCell ⟨w.heap.size, 5, none⟩ (.int .i64 x2.1.1)).setCell ⟨w.heap.size, 6, none⟩ (.int .i64 x2.1.2))) := Px.other (Px.other (Px.other (Px.other (Px.other (Px.other (Px.other (P3.out) (by have := P3.out.hB; omega) (by omega)) (by have := P3.out.hB; omega) (by omega)) (by have := P3.out.hB; omega) (by omega)) (by have := P3.out.hB; omega) (by omega)) (by have := P3.out.hB; omega) (by omega)) (by have := P3.out.hB; omega) (by omega)) (by have := P3.out.hB; omega) (by omega)
        have IT : Hid (ItO w.heap.size (((((((w3.setCell ⟨w.heap.size, 0, none⟩ (.int .i64 8)).setCell ⟨w.heap.size, 1, none⟩ (.string ⟨#[]⟩)).setCell ⟨w.heap.size, 2, none⟩ (.slice a1 x1.1.length c1)).setCell ⟨w.heap.size, 3, none⟩ (.slice none 0 0)).setCell ⟨w.heap.size, 4, none⟩ (.int .i64 0)).setCell ⟨w.heap.size, 5, none⟩ (.int .i64 x2.1.1)).setCell ⟨w.heap.size, 6, none⟩ (.int .i64 x2.1.2)) (.agg #[.int .i64 8, .string ⟨#[]⟩, .slice a1 x1.1.length c1, .slice none 0 0, .int .i64 0, .int .i64 x2.1.1, .int .i64 x2.1.2]) ⟨8, [], x1.1, [], 0, x2.1.1, x2.1.2⟩ (.slice a1 x1.1.length c1) (.slice none 0 0) w3.heap.size) := ⟨rfl, own_base (OwnO.st (OwnO.st (OwnO.st (OwnO.st (OwnO.st (OwnO.st (OwnO.st (OW1_3.out) (by omega)) (by omega)) (by omega)) (by omega)) (by omega)) (by omega)) (by omega)) (by omega), OwnO.hi OW1_3.out, by omega, World.ownsRow_nil _ _ _ _⟩
        go_wp2
        refine bodyPost_ret (by simp [results, Tryd.results33, go_sem, z0, z1, z2, z3, z4, z5, z6]; try rfl) rfl ?_
        exact ⟨(by simp only [HR1.out, HR2.out, HR3.out, bnd_ok]; exact ⟨_, _, _, _, rfl, IT.out, PZ.out, hx1⟩), (gb_new' (gb_new' (gb_new' (gb_new' (gb_new' (gb_new' (gb_new' G3.out (Nat.le_refl _)) (Nat.le_refl _)) (Nat.le_refl _)) (Nat.le_refl _)) (Nat.le_refl _)) (Nat.le_refl _)) (Nat.le_refl _))⟩

set_option maxHeartbeats 3200000 in
set_option maxRecDepth 1000000 in
theorem item9 (B b : Nat) (a : Option Addr) (c : Nat) (t : List UInt8) (F i j o : Nat) (w W : World) (hk : (tkT t i).k = 24) (h : PS B b a c t i o 0 w) (ho : o ≤ 2000) (ha : adv (tkT t) i = .ok j) (hn : itemK (tkT t) F 9 j o ≠ .out) :
    Calls Tryd.prog 33 #[.pointer (some ⟨b, 0, none⟩)] w fun e w' => Res (itemK (tkT t) F 9 j o) (fun x e w' => ∃ v vE vF m, e = .returned v ∧ ItO w.heap.size w' v x.1 vE vF m ∧ PS B b a c t x.2.1 x.2.2 0 w' ∧ x.2.2 ≤ 2000) e w' ∧ w.grownBy w' (some b) := by
  have y2 := Px.c2 h
  dsimp only at y2
  rw [hk] at y2
  have hlt := Px.lt h
  have e9 : IntKind.i64.wrap ((((24 : Nat) : Int)) - 16) = 8 := by decide
  obtain ⟨W1, hW1⟩ : ∃ W, W = (w.alloc (.cells #[.int .i64 0, .string ⟨#[]⟩, .slice none 0 0, .slice none 0 0, .int .i64 0, .int .i64 0, .int .i64 0] 45)).alloc (.cells #[.int .i64 9, .string ⟨#[]⟩, .slice none 0 0, .slice none 0 0, .int .i64 0, .int .i64 0, .int .i64 0] 45) := ⟨_, rfl⟩
  have A1 : Hid (Below w.heap.size w W1) := by rw [hW1]; exact below_alloc' (below_alloc' (Below.refl _ _) _) _
  have RZ0 : Hid (W1.heap[w.heap.size]? = some (.cells #[.int .i64 0, .string ⟨#[]⟩, .slice none 0 0, .slice none 0 0, .int .i64 0, .int .i64 0, .int .i64 0] 45)) := by rw [hW1]; exact blk_alloc (blk_new _ _) _
  have BX0 : Hid (W1.heap[w.heap.size + 1]? = some (.cells #[.int .i64 9, .string ⟨#[]⟩, .slice none 0 0, .slice none 0 0, .int .i64 0, .int .i64 0, .int .i64 0] 45)) := by rw [hW1]; exact blk_new1 _ _ _
  have P0 : Hid (PS B b a c t i o 0 W1) := Px.below h A1.out
  have G0 : Hid (w.grownBy W1 (some b)) := gb_below A1.out
  have hs0 : w.heap.size + 2 ≤ W1.heap.size := by rw [hW1]; simp
  have HN := Hid.mk hn
  have HA := Hid.mk ha
  clear h hk hn ha
  unfold itemK at HN ⊢
  rw [if_neg (by omega), if_neg (by omega), if_neg (by omega), if_neg (by omega), if_neg (by omega), if_neg (by omega), if_neg (by omega)] at HN ⊢
  go_enter Tryd.func33, Tryd.ntmps33
  go_wp2_with fail
  rw [← hW1]
  clear hW1
  refine (advI B b a c t i o 0 W1 P0.out).mono ?_
  rintro e w0 ⟨p, g⟩
  rw [HA.out] at p
  obtain ⟨rfl, p0⟩ := p
  have PA := Hid.mk p0
  have GA := Hid.mk (gb_then G0.out g)
  have BXa := Hid.mk (blk_grown' BX0.out g (by omega))
  have RZa := Hid.mk (blk_grown' RZ0.out g (by omega))
  have hsa : w.heap.size + 2 ≤ w0.heap.size := Nat.le_trans hs0 g.size
  have k0 := (blk_cell BXa.out 0).trans rfl
  clear p0 g y2 e9
  go_wp2_with fail
  clear k0
  have hn1 : pxP (tkT t) F j o ≠ .out := fun e => HN.out (by simp only [bnd_ok, e]; rfl)
  refine (pxI B b a c t F j o w0 PA.out ho hn1).mono ?_
  rintro e w1 ⟨p, g⟩
  cases hr1 : pxP (tkT t) F j o with
  | out => rw [hr1] at p; exact p.elim
  | bad cc aa =>
    have HR1 := Hid.mk hr1
    rw [hr1] at p; have p : e = .panicked (flV cc aa) := p; subst p
    exact ⟨rfl, (by simp only [HR1.out, bnd_ok, bnd_bad]; exact rfl), gb_then (GA.out) g⟩
  | ok x1 =>
    have HR1 := Hid.mk hr1
    rw [hr1] at p
    obtain ⟨v1, rfl, ow1, p1, hx1⟩ := p
    have P1 := Hid.mk p1
    have GG1 := Hid.mk g
    have G1 := Hid.mk (gb_then (GA.out) g)
    obtain ⟨a1, c1, rfl⟩ := ow1.sl
    clear p1 g hr1
    obtain ⟨B1, hB1⟩ : ∃ n, n = w0.heap.size := ⟨_, rfl⟩
    have hsB1 : w.heap.size + 2 ≤ B1 := by rw [hB1]; exact hsa
    have BX1 := Hid.mk (blk_grown' BXa.out GG1.out (by omega))
    have RZ1 := Hid.mk (blk_grown' RZa.out GG1.out (by omega))
    have hs1 : w.heap.size + 2 ≤ w1.heap.size := Nat.le_trans hsa GG1.out.size
    have OW1 : Hid (OwnO B1 w1 (.slice a1 x1.1.length c1) x1.1) := by rw [hB1]; exact ow1
    clear ow1 hB1
    have hup1 := Hid.mk (OwnO.hi OW1.out)
    have cc2 := (blk_cell BX1.out 2).trans rfl
    have f2 := blk_unfrozen BX1.out 2
    have BX1s : Hid ((w1.setCell ⟨w.heap.size + 1, 2, none⟩ (.slice a1 x1.1.length c1)).heap[w.heap.size + 1]? = some (.cells #[.int .i64 9, .string ⟨#[]⟩, .slice a1 x1.1.length c1, .slice none 0 0, .int .i64 0, .int .i64 0, .int .i64 0] 45)) := by unfold Hid; have := blk_set BX1.out 2 (.slice a1 x1.1.length c1); simpa using this
    have RZ1s : Hid ((w1.setCell ⟨w.heap.size + 1, 2, none⟩ (.slice a1 x1.1.length c1)).heap[w.heap.size]? = some (.cells #[.int .i64 0, .string ⟨#[]⟩, .slice none 0 0, .slice none 0 0, .int .i64 0, .int .i64 0, .int .i64 0] 45)) := blk_set_other RZ1.out (show w.heap.size ≠ w.heap.size + 1 by omega) _
    have P1s : Hid (PS B b a c t x1.2.1 x1.2.2 0 (w1.setCell ⟨w.heap.size + 1, 2, none⟩ (.slice a1 x1.1.length c1))) := Px.other P1.out (by have := P1.out.hB; omega) (by omega)
    have OW1s : Hid (OwnO B1 (w1.setCell ⟨w.heap.size + 1, 2, none⟩ (.slice a1 x1.1.length c1)) (.slice a1 x1.1.length c1) x1.1) := OwnO.st OW1.out (by omega)
    obtain ⟨V1, hV1⟩ : ∃ W, W = (w1.setCell ⟨w.heap.size + 1, 2, none⟩ (.slice a1 x1.1.length c1)) := ⟨_, rfl⟩
    have GV1 : Hid (w.grownBy V1 (some b)) := by rw [hV1]; exact (gb_new' G1.out (by omega))
    have sv1 : Hid (V1.heap.size = w1.heap.size) := by rw [hV1]; unfold Hid; simp only [size_set]
    rw [← hV1] at BX1s RZ1s P1s OW1s
    have hs1v : w.heap.size + 2 ≤ V1.heap.size := by rw [sv1.out]; exact hs1
    go_wp2_with fail
    rw [← hV1]
    clear hV1 cc2 f2
    refine (expI B b a c t x1.2.1 x1.2.2 0 V1 P1s.out 46).mono ?_
    rintro e w2 ⟨p, g⟩
    cases hr2 : exp (tkT t) 46 x1.2.1 with
    | out => rw [hr2] at p; exact p.elim
    | bad cc aa =>
      have HR2 := Hid.mk hr2
      rw [hr2] at p; have p : e = .panicked (flV cc aa) := p; subst p
      exact ⟨rfl, (by simp only [HR1.out, HR2.out, bnd_ok, bnd_bad]; exact rfl), gb_then (GV1.out) g⟩
    | ok x2 =>
      have HR2 := Hid.mk hr2
      rw [hr2] at p
      obtain ⟨rfl, p2⟩ := p
      have P2 := Hid.mk p2
      have GG2 := Hid.mk g
      have G2 := Hid.mk (gb_then (GV1.out) g)
      clear p2 g hr2
      have BX2 := Hid.mk (blk_grown' BX1s.out GG2.out (by omega))
      have RZ2 := Hid.mk (blk_grown' RZ1s.out GG2.out (by omega))
      have hs2 : w.heap.size + 2 ≤ w2.heap.size := Nat.le_trans hs1v GG2.out.size
      have OW1_2 := Hid.mk (OwnO.gb OW1s.out GG2.out (by omega))
      go_wp2_with fail
      refine (numberP B b a c t x2 x1.2.2 0 w2 P2.out).mono ?_
      rintro e w3 ⟨p, g⟩
      cases hr3 : numP (tkT t) x2 with
      | out => rw [hr3] at p; exact p.elim
      | bad cc aa =>
        have HR3 := Hid.mk hr3
        rw [hr3] at p; have p : e = .panicked (flV cc aa) := p; subst p
        exact ⟨rfl, (by simp only [HR1.out, HR2.out, HR3.out, bnd_ok, bnd_bad]; exact rfl), gb_then (G2.out) g⟩
      | ok x3 =>
        have HR3 := Hid.mk hr3
        rw [hr3] at p
        obtain ⟨rfl, p3⟩ := p
        have P3 := Hid.mk p3
        have GG3 := Hid.mk g
        have G3 := Hid.mk (gb_then (G2.out) g)
        clear p3 g hr3
        have BX3 := Hid.mk (blk_grown' BX2.out GG3.out (by omega))
        have RZ3 := Hid.mk (blk_grown' RZ2.out GG3.out (by omega))
        have hs3 : w.heap.size + 2 ≤ w3.heap.size := Nat.le_trans hs2 GG3.out.size
        have OW1_3 := Hid.mk (OwnO.gb OW1_2.out GG3.out (by omega))
        have cc4 := (blk_cell BX3.out 4).trans rfl
        have f4 := blk_unfrozen BX3.out 4
        have BX3s : Hid ((w3.setCell ⟨w.heap.size + 1, 4, none⟩ (.int .i64 x3.1)).heap[w.heap.size + 1]? = some (.cells #[.int .i64 9, .string ⟨#[]⟩, .slice a1 x1.1.length c1, .slice none 0 0, .int .i64 x3.1, .int .i64 0, .int .i64 0] 45)) := by unfold Hid; have := blk_set BX3.out 4 (.int .i64 x3.1); simpa using this
        have RZ3s : Hid ((w3.setCell ⟨w.heap.size + 1, 4, none⟩ (.int .i64 x3.1)).heap[w.heap.size]? = some (.cells #[.int .i64 0, .string ⟨#[]⟩, .slice none 0 0, .slice none 0 0, .int .i64 0, .int .i64 0, .int .i64 0] 45)) := blk_set_other RZ3.out (show w.heap.size ≠ w.heap.size + 1 by omega) _
        have P3s : Hid (PS B b a c t x3.2 x1.2.2 0 (w3.setCell ⟨w.heap.size + 1, 4, none⟩ (.int .i64 x3.1))) := Px.other P3.out (by have := P3.out.hB; omega) (by omega)
        have OW1_3s : Hid (OwnO B1 (w3.setCell ⟨w.heap.size + 1, 4, none⟩ (.int .i64 x3.1)) (.slice a1 x1.1.length c1) x1.1) := OwnO.st OW1_3.out (by omega)
        obtain ⟨V3, hV3⟩ : ∃ W, W = (w3.setCell ⟨w.heap.size + 1, 4, none⟩ (.int .i64 x3.1)) := ⟨_, rfl⟩
        have GV3 : Hid (w.grownBy V3 (some b)) := by rw [hV3]; exact (gb_new' G3.out (by omega))
        have sv3 : Hid (V3.heap.size = w3.heap.size) := by rw [hV3]; unfold Hid; simp only [size_set]
        rw [← hV3] at BX3s RZ3s P3s OW1_3s
        have hs3v : w.heap.size + 2 ≤ V3.heap.size := by rw [sv3.out]; exact hs3
        go_wp2_with fail
        rw [← hV3]
        clear hV3 cc4 f4
        refine (expI B b a c t x3.2 x1.2.2 0 V3 P3s.out 3).mono ?_
        rintro e w4 ⟨p, g⟩
        cases hr4 : exp (tkT t) 3 x3.2 with
        | out => rw [hr4] at p; exact p.elim
        | bad cc aa =>
          have HR4 := Hid.mk hr4
          rw [hr4] at p; have p : e = .panicked (flV cc aa) := p; subst p
          exact ⟨rfl, (by simp only [HR1.out, HR2.out, HR3.out, HR4.out, bnd_ok, bnd_bad]; exact rfl), gb_then (GV3.out) g⟩
        | ok x4 =>
          have HR4 := Hid.mk hr4
          rw [hr4] at p
          obtain ⟨rfl, p4⟩ := p
          have P4 := Hid.mk p4
          have GG4 := Hid.mk g
          have G4 := Hid.mk (gb_then (GV3.out) g)
          clear p4 g hr4
          have BX4 := Hid.mk (blk_grown' BX3s.out GG4.out (by omega))
          have RZ4 := Hid.mk (blk_grown' RZ3s.out GG4.out (by omega))
          have hs4 : w.heap.size + 2 ≤ w4.heap.size := Nat.le_trans hs3v GG4.out.size
          have OW1_4 := Hid.mk (OwnO.gb OW1_3s.out GG4.out (by omega))
          have cc0 := (blk_cell BX4.out 0).trans rfl
          have cc1 := (blk_cell BX4.out 1).trans rfl
          have cc2 := (blk_cell BX4.out 2).trans rfl
          have cc3 := (blk_cell BX4.out 3).trans rfl
          have cc4 := (blk_cell BX4.out 4).trans rfl
          have cc5 := (blk_cell BX4.out 5).trans rfl
          have cc6 := (blk_cell BX4.out 6).trans rfl
          have z0 := (blk_cell RZ4.out 0).trans rfl
          have f0 := blk_unfrozen RZ4.out 0
          have z1 := (blk_cell RZ4.out 1).trans rfl
          have f1 := blk_unfrozen RZ4.out 1
          have z2 := (blk_cell RZ4.out 2).trans rfl
          have f2 := blk_unfrozen RZ4.out 2
          have z3 := (blk_cell RZ4.out 3).trans rfl
          have f3 := blk_unfrozen RZ4.out 3
          have z4 := (blk_cell RZ4.out 4).trans rfl
          have f4 := blk_unfrozen RZ4.out 4
          have z5 := (blk_cell RZ4.out 5).trans rfl
          have f5 := blk_unfrozen RZ4.out 5
          have z6 := (blk_cell RZ4.out 6).trans rfl
          have f6 := blk_unfrozen RZ4.out 6
          have PZ : Hid (PS B b a c t x4 x1.2.2 0 (((((((w4.setCell ⟨w.heap.size, 0, none⟩ (.int .i64 9)).setCell ⟨w.heap.size, 1, none⟩ (.string ⟨#[]⟩)).setCell ⟨w.heap.size, 2, none⟩ (.slice a1 x1.1.length c1)).setCell ⟨w.heap.size, 3, none⟩ (.slice none 0 0)).setCell ⟨w.heap.size, 4, none⟩ (.int .i64 x3.1)).setCell ⟨w.heap.size, 5, none⟩ (.int .i64 0)).setCell ⟨w.heap.size, 6, none⟩ (.int .i64 0))) := Px.other (Px.other (Px.other (Px.other (Px.other (Px.other (Px.other (P4.out) (by have := P4.out.hB; omega) (by omega)) (by have := P4.out.hB; omega) (by omega)) (by have := P4.out.hB; omega) (by omega)) (by have := P4.out.hB; omega) (by omega)) (by have := P4.out.hB; omega) (by omega)) (by have := P4.out.hB; omega) (by omega)) (by have := P4.out.hB; omega) (by omega)
          have IT : Hid (ItO w.heap.size (((((((w4.setCell ⟨w.heap.size, 0, none⟩ (.int .i64 9)).setCell ⟨w.heap.size, 1, none⟩ (.string ⟨#[]⟩)).setCell ⟨w.heap.size, 2, none⟩ (.slice a1 x1.1.length c1)).setCell ⟨w.heap.size, 3, none⟩ (.slice none 0 0)).setCell ⟨w.heap.size, 4, none⟩ (.int .i64 x3.1)).setCell ⟨w.heap.size, 5, none⟩ (.int .i64 0)).setCell ⟨w.heap.size, 6, none⟩ (.int .i64 0)) (.agg #[.int .i64 9, .string ⟨#[]⟩, .slice a1 x1.1.length c1, .slice none 0 0, .int .i64 x3.1, .int .i64 0, .int .i64 0]) ⟨9, [], x1.1, [], x3.1, 0, 0⟩ (.slice a1 x1.1.length c1) (.slice none 0 0) w4.heap.size) := ⟨rfl, own_base (OwnO.st (OwnO.st (OwnO.st (OwnO.st (OwnO.st (OwnO.st (OwnO.st (OW1_4.out) (by omega)) (by omega)) (by omega)) (by omega)) (by omega)) (by omega)) (by omega)) (by omega), OwnO.hi OW1_4.out, by omega, World.ownsRow_nil _ _ _ _⟩
          go_wp2
          refine bodyPost_ret (by simp [results, Tryd.results33, go_sem, z0, z1, z2, z3, z4, z5, z6]; try rfl) rfl ?_
          exact ⟨(by simp only [HR1.out, HR2.out, HR3.out, HR4.out, bnd_ok]; exact ⟨_, _, _, _, rfl, IT.out, PZ.out, hx1⟩), (gb_new' (gb_new' (gb_new' (gb_new' (gb_new' (gb_new' (gb_new' G4.out (Nat.le_refl _)) (Nat.le_refl _)) (Nat.le_refl _)) (Nat.le_refl _)) (Nat.le_refl _)) (Nat.le_refl _)) (Nat.le_refl _))⟩

end Go.Proofs.YtfoigigbggickaaDoor.Par
