import Derived.Test.YtfoigigbggickaaDoorPq09
import Derived.Test.YtfoigigbggickaaDoorPq06
namespace Go.Proofs.YtfoigigbggickaaDoor.Par
open Go Go.RowKit Go.Proofs.YtfoigigbggickaaDoor.Mem Go.Proofs.YtfoigigbggickaaDoor.Syn Go.Proofs.YtfoigigbggickaaDoor.Parse
set_option linter.unusedVariables false
set_option linter.unusedSimpArgs false
attribute [local go_sem ↓] Go.wp_at_zero Go.wp_at_succ

/-- A number, one with a sign, a span, in the model. -/
def numP (T : Nat → Tk) (i : Nat) : Rs (Int × Nat) := (exp T 1 i).bnd fun j => .ok ((T i).v, j)
def nameP (T : Nat → Tk) (i : Nat) : Rs (List UInt8 × Nat) := (exp T 2 i).bnd fun j => .ok ((T i).n, j)
def sgnP (T : Nat → Tk) (i : Nat) : Rs (Int × Nat) := if (T i).k = 10 then (adv T i).bnd fun j => (numP T j).bnd fun x => .ok (-x.1, x.2) else numP T i
def spanP (T : Nat → Tk) (i : Nat) : Rs ((Int × Int) × Nat) := (exp T 44 i).bnd fun j => (sgnP T j).bnd fun x => (exp T 7 x.2).bnd fun j' => (sgnP T j').bnd fun y => .ok ((x.1, y.1), y.2)
def takP (T : Nat → Tk) (i o : Nat) : Rs (Nat × Nat) := (cnt T i o).bnd fun o1 => (adv T i).bnd fun j => .ok (j, o1)
def wopP (T : Nat → Tk) (i : Nat) : Rs Po := match wop (T i) with
  | none => .bad 4 (T i).at'
  | some p => .ok p
def opV (p : Po) : Value := .agg #[.int .i64 p.k, .int .i64 p.v, .string ⟨p.n.toArray⟩]
theorem num_bd {t : List UInt8} {i : Nat} {x : Int × Nat} (h : numP (tkT t) i = .ok x) : 0 ≤ x.1 ∧ x.1 ≤ 1000000000 := by
  unfold numP at h
  cases hr : exp (tkT t) 1 i with
  | out => rw [hr] at h; cases h
  | bad c a => rw [hr] at h; cases h
  | ok j =>
    rw [hr, bnd_ok] at h
    injection h with h
    rw [← h]
    exact (tk_ok t i).vl
set_option maxHeartbeats 1600000 in
set_option maxRecDepth 1000000 in
theorem expI (B b : Nat) (a : Option Addr) (c : Nat) (t : List UInt8) (i o d : Nat) (w : World) (h : PS B b a c t i o d w) (k : Nat) :
    Calls Tryd.prog 51 #[.pointer (some ⟨b, 0, none⟩), .int .i64 (k : Int)] w fun e w' => Res (exp (tkT t) k i) (fun x e w' => e = .returned (.tuple #[]) ∧ PS B b a c t x o d w') e w' ∧ w.grownBy w' (some b) := by
  have y2 := Px.c2 h
  dsimp only at y2
  have H := Hid.mk h
  clear h
  unfold exp
  by_cases hk : (tkT t i).k = k
  · rw [if_pos hk]
    have k2 : (((tkT t i).k : Int) != (k : Int)) = false := by simp; omega
    have CA := Hid.mk (advI B b a c t i o d w H.out)
    clear hk
    go_enter Tryd.func51, Tryd.ntmps51
    go_wp2_with fail
    refine (CA.out).mono ?_
    rintro e w1 ⟨p, g⟩
    cases hr1 : adv (tkT t) i with
    | out => rw [hr1] at p; exact p.elim
    | bad cc aa => rw [hr1] at p; have p : e = .panicked (flV cc aa) := p; subst p; exact ⟨rfl, (by simp only [hr1, bnd_ok, bnd_bad]; exact rfl), gb_then (World.grownBy.refl _ _) g⟩
    | ok x1 =>
      rw [hr1] at p
      obtain ⟨rfl, p1⟩ := p
      have P1 := Hid.mk p1
      have G1 := Hid.mk (gb_then (World.grownBy.refl _ _) g)
      clear p1 g
      go_wp2
      go_end0
      exact ⟨(by simp only [hr1]; exact ⟨rfl, P1.out⟩), G1.out⟩
  · rw [if_neg hk]
    have k2 : ((tkT t i).k : Int) ≠ (k : Int) := by omega
    go_enter Tryd.func51, Tryd.ntmps51
    go_wp2_with (go_at_call 32; go_must (refine (pfailI B b a c t i o d _ H.out 4).mono ?_; rintro e w1 ⟨rfl, hb⟩))
    exact ⟨rfl, rfl, gb_below hb⟩

set_option maxHeartbeats 1600000 in
set_option maxRecDepth 1000000 in
theorem nameI (B b : Nat) (a : Option Addr) (c : Nat) (t : List UInt8) (i o d : Nat) (w : World) (h : PS B b a c t i o d w) :
    Calls Tryd.prog 50 #[.pointer (some ⟨b, 0, none⟩)] w fun e w' => Res (nameP (tkT t) i) (fun x e w' => e = .returned (.string ⟨x.1.toArray⟩) ∧ PS B b a c t x.2 o d w') e w' ∧ w.grownBy w' (some b) := by
  have y := Px.c4 h
  dsimp only at y
  have CA := Hid.mk (expI B b a c t i o d w h 2)
  clear h
  unfold nameP
  go_enter Tryd.func50, Tryd.ntmps50
  go_wp2_with fail
  refine (CA.out).mono ?_
  rintro e w1 ⟨p, g⟩
  cases hr1 : exp (tkT t) 2 i with
  | out => rw [hr1] at p; exact p.elim
  | bad cc aa => rw [hr1] at p; have p : e = .panicked (flV cc aa) := p; subst p; exact ⟨rfl, (by simp only [hr1, bnd_ok, bnd_bad]; exact rfl), gb_then (World.grownBy.refl _ _) g⟩
  | ok x1 =>
    rw [hr1] at p
    obtain ⟨rfl, p1⟩ := p
    have P1 := Hid.mk p1
    have G1 := Hid.mk (gb_then (World.grownBy.refl _ _) g)
    clear p1 g
    go_wp2
    go_ret
    exact ⟨(by simp only [hr1, bnd_ok]; exact ⟨rfl, P1.out⟩), G1.out⟩

set_option maxHeartbeats 1600000 in
set_option maxRecDepth 1000000 in
theorem numberP (B b : Nat) (a : Option Addr) (c : Nat) (t : List UInt8) (i o d : Nat) (w : World) (h : PS B b a c t i o d w) :
    Calls Tryd.prog 56 #[.pointer (some ⟨b, 0, none⟩)] w fun e w' => Res (numP (tkT t) i) (fun x e w' => e = .returned (.int .i64 x.1) ∧ PS B b a c t x.2 o d w') e w' ∧ w.grownBy w' (some b) := by
  have y := Px.c5 h
  dsimp only at y
  have CA := Hid.mk (expI B b a c t i o d w h 1)
  clear h
  unfold numP
  go_enter Tryd.func56, Tryd.ntmps56
  go_wp2_with fail
  refine (CA.out).mono ?_
  rintro e w1 ⟨p, g⟩
  cases hr1 : exp (tkT t) 1 i with
  | out => rw [hr1] at p; exact p.elim
  | bad cc aa => rw [hr1] at p; have p : e = .panicked (flV cc aa) := p; subst p; exact ⟨rfl, (by simp only [hr1, bnd_ok, bnd_bad]; exact rfl), gb_then (World.grownBy.refl _ _) g⟩
  | ok x1 =>
    rw [hr1] at p
    obtain ⟨rfl, p1⟩ := p
    have P1 := Hid.mk p1
    have G1 := Hid.mk (gb_then (World.grownBy.refl _ _) g)
    clear p1 g
    go_wp2
    go_ret
    exact ⟨(by simp only [hr1, bnd_ok]; exact ⟨rfl, P1.out⟩), G1.out⟩

set_option maxHeartbeats 1600000 in
set_option maxRecDepth 1000000 in
theorem signedI (B b : Nat) (a : Option Addr) (c : Nat) (t : List UInt8) (i o d : Nat) (w : World) (h : PS B b a c t i o d w) :
    Calls Tryd.prog 53 #[.pointer (some ⟨b, 0, none⟩)] w fun e w' => Res (sgnP (tkT t) i) (fun x e w' => e = .returned (.int .i64 x.1) ∧ PS B b a c t x.2 o d w') e w' ∧ w.grownBy w' (some b) := by
  have y2 := Px.c2 h
  dsimp only at y2
  have H := Hid.mk h
  clear h
  unfold sgnP
  by_cases hk : (tkT t i).k = 10
  · rw [if_pos hk]
    have k2 : (((tkT t i).k : Int) != 10) = false := by simp; omega
    have CA := Hid.mk (advI B b a c t i o d w H.out)
    clear hk
    go_enter Tryd.func53, Tryd.ntmps53
    go_wp2_with fail
    refine (CA.out).mono ?_
    rintro e w1 ⟨p, g⟩
    cases hr1 : adv (tkT t) i with
    | out => rw [hr1] at p; exact p.elim
    | bad cc aa => rw [hr1] at p; have p : e = .panicked (flV cc aa) := p; subst p; exact ⟨rfl, (by simp only [hr1, bnd_ok, bnd_bad]; exact rfl), gb_then (World.grownBy.refl _ _) g⟩
    | ok x1 =>
      rw [hr1] at p
      obtain ⟨rfl, p1⟩ := p
      have P1 := Hid.mk p1
      have G1 := Hid.mk (gb_then (World.grownBy.refl _ _) g)
      clear p1 g
      go_wp2_with fail
      refine (numberP B b a c t x1 o d _ P1.out).mono ?_
      rintro e w2 ⟨p, g⟩
      cases hr2 : numP (tkT t) x1 with
      | out => rw [hr2] at p; exact p.elim
      | bad cc aa => rw [hr2] at p; have p : e = .panicked (flV cc aa) := p; subst p; exact ⟨rfl, (by simp only [hr1, hr2, bnd_ok, bnd_bad]; exact rfl), gb_then (G1.out) g⟩
      | ok x2 =>
        rw [hr2] at p
        obtain ⟨rfl, p2⟩ := p
        have P2 := Hid.mk p2
        have G2 := Hid.mk (gb_then (G1.out) g)
        clear p2 g
        obtain ⟨b0, b1⟩ := num_bd hr2
        have e9 : IntKind.i64.wrap (-x2.1) = -x2.1 := by rw [IntKind.wrap_i64]; omega
        have HR1 := Hid.mk hr1
        have HR2 := Hid.mk hr2
        clear hr1 hr2
        go_wp2
        go_ret
        exact ⟨(by simp only [HR1.out, HR2.out, bnd_ok]; exact ⟨rfl, P2.out⟩), G2.out⟩
  · rw [if_neg hk]
    have k2 : ((tkT t i).k : Int) ≠ 10 := by omega
    have CA := Hid.mk (numberP B b a c t i o d w H.out)
    go_enter Tryd.func53, Tryd.ntmps53
    go_wp2_with fail
    refine (CA.out).mono ?_
    rintro e w1 ⟨p, g⟩
    cases hr1 : numP (tkT t) i with
    | out => rw [hr1] at p; exact p.elim
    | bad cc aa => rw [hr1] at p; have p : e = .panicked (flV cc aa) := p; subst p; exact ⟨rfl, (by simp only [hr1, bnd_ok, bnd_bad]; exact rfl), gb_then (World.grownBy.refl _ _) g⟩
    | ok x1 =>
      rw [hr1] at p
      obtain ⟨rfl, p1⟩ := p
      have P1 := Hid.mk p1
      have G1 := Hid.mk (gb_then (World.grownBy.refl _ _) g)
      clear p1 g
      have HR1 := Hid.mk hr1
      clear hr1
      go_wp2
      go_ret
      exact ⟨(by simp only [HR1.out]; exact ⟨rfl, P1.out⟩), G1.out⟩

set_option maxHeartbeats 1600000 in
set_option maxRecDepth 1000000 in
theorem spanI (B b : Nat) (a : Option Addr) (c : Nat) (t : List UInt8) (i o d : Nat) (w : World) (h : PS B b a c t i o d w) :
    Calls Tryd.prog 54 #[.pointer (some ⟨b, 0, none⟩)] w fun e w' => Res (spanP (tkT t) i) (fun x e w' => e = .returned (.tuple #[.int .i64 x.1.1, .int .i64 x.1.2]) ∧ PS B b a c t x.2 o d w') e w' ∧ w.grownBy w' (some b) := by
  have H := Hid.mk h
  clear h
  unfold spanP
  go_enter Tryd.func54, Tryd.ntmps54
  go_wp2_with fail
  refine (expI B b a c t i o d w H.out 44).mono ?_
  rintro e w1 ⟨p, g⟩
  cases hr1 : exp (tkT t) 44 i with
  | out => rw [hr1] at p; exact p.elim
  | bad cc aa => rw [hr1] at p; have p : e = .panicked (flV cc aa) := p; subst p; exact ⟨rfl, (by simp only [hr1, bnd_ok, bnd_bad]; exact rfl), gb_then (World.grownBy.refl _ _) g⟩
  | ok x1 =>
    rw [hr1] at p
    obtain ⟨rfl, p1⟩ := p
    have P1 := Hid.mk p1
    have G1 := Hid.mk (gb_then (World.grownBy.refl _ _) g)
    clear p1 g
    go_wp2_with fail
    refine (signedI B b a c t x1 o d _ P1.out).mono ?_
    rintro e w2 ⟨p, g⟩
    cases hr2 : sgnP (tkT t) x1 with
    | out => rw [hr2] at p; exact p.elim
    | bad cc aa => rw [hr2] at p; have p : e = .panicked (flV cc aa) := p; subst p; exact ⟨rfl, (by simp only [hr1, hr2, bnd_ok, bnd_bad]; exact rfl), gb_then (G1.out) g⟩
    | ok x2 =>
      rw [hr2] at p
      obtain ⟨rfl, p2⟩ := p
      have P2 := Hid.mk p2
      have G2 := Hid.mk (gb_then (G1.out) g)
      clear p2 g
      go_wp2_with fail
      refine (expI B b a c t x2.2 o d _ P2.out 7).mono ?_
      rintro e w3 ⟨p, g⟩
      cases hr3 : exp (tkT t) 7 x2.2 with
      | out => rw [hr3] at p; exact p.elim
      | bad cc aa => rw [hr3] at p; have p : e = .panicked (flV cc aa) := p; subst p; exact ⟨rfl, (by simp only [hr1, hr2, hr3, bnd_ok, bnd_bad]; exact rfl), gb_then (G2.out) g⟩
      | ok x3 =>
        rw [hr3] at p
        obtain ⟨rfl, p3⟩ := p
        have P3 := Hid.mk p3
        have G3 := Hid.mk (gb_then (G2.out) g)
        clear p3 g
        go_wp2_with fail
        refine (signedI B b a c t x3 o d _ P3.out).mono ?_
        rintro e w4 ⟨p, g⟩
        cases hr4 : sgnP (tkT t) x3 with
        | out => rw [hr4] at p; exact p.elim
        | bad cc aa => rw [hr4] at p; have p : e = .panicked (flV cc aa) := p; subst p; exact ⟨rfl, (by simp only [hr1, hr2, hr3, hr4, bnd_ok, bnd_bad]; exact rfl), gb_then (G3.out) g⟩
        | ok x4 =>
          rw [hr4] at p
          obtain ⟨rfl, p4⟩ := p
          have P4 := Hid.mk p4
          have G4 := Hid.mk (gb_then (G3.out) g)
          clear p4 g
          go_wp2
          go_ret2
          exact ⟨(by simp only [hr1, hr2, hr3, hr4, bnd_ok]; exact ⟨rfl, P4.out⟩), G4.out⟩

set_option maxHeartbeats 1600000 in
set_option maxRecDepth 1000000 in
theorem tagI (B b : Nat) (a : Option Addr) (c : Nat) (t : List UInt8) (i o d : Nat) (w : World) (h : PS B b a c t i o d w) :
    Calls Tryd.prog 55 #[.pointer (some ⟨b, 0, none⟩)] w fun e w' => Res (tagP (tkT t) i) (fun x e w' => e = .returned (.int .i64 x.1) ∧ PS B b a c t x.2 o d w') e w' ∧ w.grownBy w' (some b) := by
  have y4 := Px.c4 h
  dsimp only at y4
  have H := Hid.mk h
  clear h
  have HNM := Hid.mk (tk_ok t i).nm
  unfold tagP
  by_cases hk : tagT (tkT t i) = true
  · rw [if_pos hk]
    obtain ⟨u, hu, h97, h113⟩ : ∃ u : UInt8, (tkT t i).n = [u] ∧ 97 ≤ u.toNat ∧ u.toNat < 113 := by
      unfold tagT at hk
      simp at hk
      obtain ⟨u, hu⟩ := List.length_eq_one_iff.1 hk.1
      have h1 := HNM.out (show (tkT t i).n ≠ [] by rw [hu]; simp)
      have h2 : letB ((tkT t i).n.getD 0 0) = true := h1.2.2
      refine ⟨u, hu, ?_, ?_⟩
      · rw [hu] at h2; unfold letB at h2; simp at h2; omega
      · have := hk.2; rw [hu] at this; simpa using this
    have CA := Hid.mk (advI B b a c t i o d w H.out)
    rw [hu] at y4 ⊢
    have k1 : decide ((113 : Int) ≤ (u.toNat : Int)) = false := by simp; omega
    have e9 : IntKind.u8.wrap ((u.toNat : Int) - 97) = (u.toNat : Int) - 97 := by rw [IntKind.wrap_u8]; omega
    have e8 : IntKind.i64.wrap ((u.toNat : Int) - 97) = (u.toNat : Int) - 97 := by rw [IntKind.wrap_i64]; omega
    have hx : ∀ h, ((⟨#[u]⟩ : ByteArray)[0]'h) = u := fun _ => rfl
    clear hk hu HNM
    go_enter Tryd.func55, Tryd.ntmps55
    go_wp2_with fail
    refine (CA.out).mono ?_
    rintro e w1 ⟨p, g⟩
    cases hr1 : adv (tkT t) i with
    | out => rw [hr1] at p; exact p.elim
    | bad cc aa => rw [hr1] at p; have p : e = .panicked (flV cc aa) := p; subst p; exact ⟨rfl, (by simp only [hr1, bnd_ok, bnd_bad]; exact rfl), gb_then (World.grownBy.refl _ _) g⟩
    | ok x1 =>
      rw [hr1] at p
      obtain ⟨rfl, p1⟩ := p
      have P1 := Hid.mk p1
      have G1 := Hid.mk (gb_then (World.grownBy.refl _ _) g)
      clear p1 g
      go_wp2
      go_ret
      exact ⟨(by simp only [hr1, bnd_ok]; exact ⟨rfl, P1.out⟩), G1.out⟩
  · rw [if_neg hk]
    obtain ⟨n, hn⟩ : ∃ n, n = (tkT t i).n := ⟨_, rfl⟩
    rw [← hn] at y4
    have hk' : n.length = 1 → 113 ≤ (n.getD 0 0).toNat := fun h1 => by
      refine Nat.le_of_not_lt fun hlt => hk ?_
      unfold tagT
      rw [← hn, h1]
      simp only [beq_self_eq_true, Bool.true_and, decide_eq_true_eq]
      exact hlt
    clear hk hn HNM
    by_cases h1 : n.length = 1
    · obtain ⟨u, rfl⟩ := List.length_eq_one_iff.1 h1
      have h2 : 113 ≤ u.toNat := by simpa using hk' rfl
      have k1 : (113 : Int) ≤ (u.toNat : Int) := by omega
      have hx : ∀ h, ((⟨#[u]⟩ : ByteArray)[0]'h) = u := fun _ => rfl
      clear hk' h1
      go_enter Tryd.func55, Tryd.ntmps55
      go_wp2_with (go_at_call 32; go_must (refine (pfailI B b a c t i o d _ H.out 4).mono ?_; rintro e w1 ⟨rfl, hb⟩))
      exact ⟨rfl, rfl, gb_below hb⟩
    · have k1 : ((n.length : Nat) : Int) ≠ 1 := by omega
      clear hk'
      go_enter Tryd.func55, Tryd.ntmps55
      go_wp2_with (go_at_call 32; go_must (refine (pfailI B b a c t i o d _ H.out 4).mono ?_; rintro e w1 ⟨rfl, hb⟩))
      exact ⟨rfl, rfl, gb_below hb⟩

set_option maxHeartbeats 1600000 in
set_option maxRecDepth 1000000 in
theorem countOpI (B b : Nat) (a : Option Addr) (c : Nat) (t : List UInt8) (i o d : Nat) (w : World) (h : PS B b a c t i o d w) (ho : o ≤ 2000) :
    Calls Tryd.prog 84 #[.pointer (some ⟨b, 0, none⟩)] w fun e w' => Res (cnt (tkT t) i o) (fun x e w' => e = .returned (.tuple #[]) ∧ PS B b a c t i x d w') e w' ∧ w.grownBy w' (some b) := by
  have y6 := Px.c6 h
  have f6 := Px.fz h 6
  dsimp only at y6
  have H := Hid.mk h
  clear h
  unfold cnt
  by_cases hk : o = 2000
  · rw [if_pos hk]
    have k2 : ((o : Int) == 2000) = true := by simp; omega
    clear hk
    go_enter Tryd.func84, Tryd.ntmps84
    go_wp2_with (go_at_call 32; go_must (refine (pfailI B b a c t i o d _ H.out 6).mono ?_; rintro e w1 ⟨rfl, hb⟩))
    exact ⟨rfl, rfl, gb_below hb⟩
  · rw [if_neg hk]
    have k2 : ((o : Int) == 2000) = false := by simp; omega
    have e9 : IntKind.i64.wrap ((o : Int) + 1) = (o : Int) + 1 := by rw [IntKind.wrap_i64]; omega
    clear hk
    go_enter Tryd.func84, Tryd.ntmps84
    go_wp2
    go_end0
    exact ⟨⟨rfl, H.out.set6 (o := o + 1) (x := (o : Int) + 1) (by omega)⟩, gb_set _ _ _ _⟩

set_option maxHeartbeats 1600000 in
set_option maxRecDepth 1000000 in
theorem countOpenI (B b : Nat) (a : Option Addr) (c : Nat) (t : List UInt8) (i o d : Nat) (w : World) (h : PS B b a c t i o d w) (hd : d ≤ 64) :
    Calls Tryd.prog 85 #[.pointer (some ⟨b, 0, none⟩)] w fun e w' => Res (opn' (tkT t) i d) (fun x e w' => e = .returned (.tuple #[]) ∧ PS B b a c t i o (d + 1) w') e w' ∧ w.grownBy w' (some b) := by
  have y7 := Px.c7 h
  have f7 := Px.fz h 7
  dsimp only at y7
  have H := Hid.mk h
  clear h
  unfold opn'
  by_cases hk : d = 64
  · rw [if_pos hk]
    have k2 : ((d : Int) == 64) = true := by simp; omega
    clear hk
    go_enter Tryd.func85, Tryd.ntmps85
    go_wp2_with (go_at_call 32; go_must (refine (pfailI B b a c t i o d _ H.out 5).mono ?_; rintro e w1 ⟨rfl, hb⟩))
    exact ⟨rfl, rfl, gb_below hb⟩
  · rw [if_neg hk]
    have k2 : ((d : Int) == 64) = false := by simp; omega
    have e9 : IntKind.i64.wrap ((d : Int) + 1) = (d : Int) + 1 := by rw [IntKind.wrap_i64]; omega
    clear hk
    go_enter Tryd.func85, Tryd.ntmps85
    go_wp2
    go_end0
    exact ⟨⟨rfl, H.out.set7 (d := d + 1) (x := (d : Int) + 1) (by omega)⟩, gb_set _ _ _ _⟩

set_option maxHeartbeats 1600000 in
set_option maxRecDepth 1000000 in
theorem takeOpI (B b : Nat) (a : Option Addr) (c : Nat) (t : List UInt8) (i o d : Nat) (w : World) (h : PS B b a c t i o d w) (ho : o ≤ 2000) :
    Calls Tryd.prog 79 #[.pointer (some ⟨b, 0, none⟩)] w fun e w' => Res (takP (tkT t) i o) (fun x e w' => e = .returned (.tuple #[]) ∧ PS B b a c t x.1 x.2 d w') e w' ∧ w.grownBy w' (some b) := by
  have H := Hid.mk h
  clear h
  unfold takP
  go_enter Tryd.func79, Tryd.ntmps79
  go_wp2_with fail
  refine (countOpI B b a c t i o d w H.out ho).mono ?_
  rintro e w1 ⟨p, g⟩
  cases hr1 : cnt (tkT t) i o with
  | out => rw [hr1] at p; exact p.elim
  | bad cc aa => rw [hr1] at p; have p : e = .panicked (flV cc aa) := p; subst p; exact ⟨rfl, (by simp only [hr1, bnd_ok, bnd_bad]; exact rfl), gb_then (World.grownBy.refl _ _) g⟩
  | ok x1 =>
    rw [hr1] at p
    obtain ⟨rfl, p1⟩ := p
    have P1 := Hid.mk p1
    have G1 := Hid.mk (gb_then (World.grownBy.refl _ _) g)
    clear p1 g
    go_wp2_with fail
    refine (advI B b a c t i x1 d _ P1.out).mono ?_
    rintro e w2 ⟨p, g⟩
    cases hr2 : adv (tkT t) i with
    | out => rw [hr2] at p; exact p.elim
    | bad cc aa => rw [hr2] at p; have p : e = .panicked (flV cc aa) := p; subst p; exact ⟨rfl, (by simp only [hr1, hr2, bnd_ok, bnd_bad]; exact rfl), gb_then (G1.out) g⟩
    | ok x2 =>
      rw [hr2] at p
      obtain ⟨rfl, p2⟩ := p
      have P2 := Hid.mk p2
      have G2 := Hid.mk (gb_then (G1.out) g)
      clear p2 g
      go_wp2
      go_end0
      exact ⟨(by simp only [hr1, hr2, bnd_ok]; exact ⟨rfl, P2.out⟩), G2.out⟩

set_option maxHeartbeats 1600000 in
set_option maxRecDepth 1000000 in
theorem amongI (k : Tk) (f l : Nat) (w : World) : Calls Tryd.prog 31 #[tkV k, .int .i64 (f : Int), .int .i64 (l : Int)] w fun e w' => e = .returned (.bool (decide (f ≤ k.k) && decide (k.k ≤ l))) ∧ Below w.heap.size w w' := by
  unfold tkV
  by_cases h1 : f ≤ k.k
  · have k1 : (f : Int) ≤ (k.k : Int) := by omega
    rw [decide_eq_true h1, Bool.true_and]
    by_cases h2 : k.k ≤ l
    · have k2 : (k.k : Int) ≤ (l : Int) := by omega
      rw [decide_eq_true h2]
      clear h1 h2
      go_enter Tryd.func31, Tryd.ntmps31
      go_wp2
      go_ret
      exact ⟨rfl, by go_grown⟩
    · have k2 : decide ((k.k : Int) ≤ (l : Int)) = false := by simp; omega
      rw [decide_eq_false h2]
      have k3 : decide (k.k ≤ l) = false := decide_eq_false h2
      clear h1 h2
      go_enter Tryd.func31, Tryd.ntmps31
      go_wp2
      go_ret
      exact ⟨rfl, by go_grown⟩
  · have k1 : decide ((f : Int) ≤ (k.k : Int)) = false := by simp; omega
    rw [decide_eq_false h1, Bool.false_and]
    have k3 : decide (f ≤ k.k) = false := decide_eq_false h1
    clear h1
    go_enter Tryd.func31, Tryd.ntmps31
    go_wp2
    go_ret
    exact ⟨rfl, by go_grown⟩

set_option maxHeartbeats 1600000 in
set_option maxRecDepth 1000000 in
theorem atBinI (B b : Nat) (a : Option Addr) (c : Nat) (t : List UInt8) (i o d : Nat) (w : World) (h : PS B b a c t i o d w) (s : Nat) :
    Calls Tryd.prog 78 #[.pointer (some ⟨b, 0, none⟩), .int .i64 (s : Int)] w fun e w' => e = .returned (.bool (atB (tkT t) s i)) ∧ Below w.heap.size w w' := by
  have y2 := Px.c2 h
  have y3 := Px.c3 h
  have y4 := Px.c4 h
  have y5 := Px.c5 h
  dsimp only at y2 y3 y4 y5
  have H := Hid.mk h
  clear h
  obtain ⟨k, hk⟩ : ∃ k, k = tkT t i := ⟨_, rfl⟩
  unfold atB
  rw [← hk] at y2 y3 y4 y5 ⊢
  clear hk
  have CM := Hid.mk (amongI k 8 15 w)
  unfold tkV at CM
  unfold isB
  by_cases h8 : 8 ≤ k.k ∧ k.k ≤ 15
  · obtain ⟨h8, h15⟩ := h8
    obtain ⟨m, hm⟩ : ∃ m : Nat, k.k = 8 + m := ⟨k.k - 8, by omega⟩
    have hm8 : m < 8 := by omega
    have e9 : IntKind.i64.wrap ((k.k : Int) - 8) = (m : Int) := by rw [IntKind.wrap_i64]; omega
    have HT := Hid.mk H.out.tb
    rw [decide_eq_true h8, decide_eq_true h15, Bool.true_and, Bool.true_and] at *
    rw [show ((k.k : Int) - 8) = (m : Int) by omega]
    have z0 : (0 : Int) ≤ (m : Int) := by omega
    have z1 : (m : Int) < 8 := by omega
    clear h8 h15 hm
    go_enter Tryd.func78, Tryd.ntmps78
    go_wp2_with (go_at_call 31; go_must (refine CM.out.mono ?_; rintro e w1 ⟨rfl, hb⟩; have z2 := cell_keep hb y2; have z3 : w1.cell? ⟨1, m, none⟩ = some (.int .i64 (bstr (m : Int))) := cell_keep hb (HT.out m hm8); have HB := Hid.mk hb; clear hb))
    go_ret
    exact ⟨rfl, HB.out⟩
  · have hf : (decide (8 ≤ k.k) && decide (k.k ≤ 15)) = false := by simp; omega
    rw [hf] at CM ⊢
    rw [Bool.false_and]
    clear h8 hf
    go_enter Tryd.func78, Tryd.ntmps78
    go_wp2_with (go_at_call 31; go_must (refine CM.out.mono ?_; rintro e w1 ⟨rfl, hb⟩; have HB := Hid.mk hb; clear hb))
    go_ret
    exact ⟨rfl, HB.out⟩

set_option maxHeartbeats 1600000 in
set_option maxRecDepth 1000000 in
theorem wordOpI (B b : Nat) (a : Option Addr) (c : Nat) (t : List UInt8) (i o d : Nat) (w : World) (h : PS B b a c t i o d w) :
    Calls Tryd.prog 88 #[.pointer (some ⟨b, 0, none⟩)] w fun e w' => Res (wopP (tkT t) i) (fun x e w' => e = .returned (opV x)) e w' ∧ Below w.heap.size w w' := by
  have y2 := Px.c2 h
  have y3 := Px.c3 h
  have y4 := Px.c4 h
  have y5 := Px.c5 h
  dsimp only at y2 y3 y4 y5
  have H := Hid.mk h
  clear h
  have hlt := H.out.lt
  unfold wopP wop
  obtain ⟨k, hk⟩ : ∃ k, k = tkT t i := ⟨_, rfl⟩
  have hk51 : k.k ≤ 51 := by rw [hk]; exact tk_le t i
  rw [← hk] at y2 y3 y4 y5 ⊢
  have HK := Hid.mk hk
  clear hk
  obtain ⟨W2, hW2⟩ : ∃ W, W = (w.alloc (.cells #[.int .i64 0, .int .i64 0, .string ⟨#[]⟩] 82)).alloc (.cells #[.int .i64 (k.k : Int), .int .i64 (k.at' : Int), .string ⟨k.n.toArray⟩, .int .i64 k.v] 55) := ⟨_, rfl⟩
  have A2 : Hid (Below w.heap.size w W2) := by rw [hW2]; exact below_alloc' (below_alloc' (Below.refl _ _) _) _
  have T2 : Hid (W2.heap[w.heap.size + 1]? = some (.cells #[.int .i64 (k.k : Int), .int .i64 (k.at' : Int), .string ⟨k.n.toArray⟩, .int .i64 k.v] 55)) := by rw [hW2]; exact blk_new1 _ _ _
  have O2 : Hid (W2.heap[w.heap.size]? = some (.cells #[.int .i64 0, .int .i64 0, .string ⟨#[]⟩] 82)) := by rw [hW2]; exact blk_alloc (blk_new _ _) _
  by_cases h1 : k.k = 1
  · rw [if_pos h1]
    have k1 : ((k.k : Int) == 1) = true := by simp; omega
    clear h1
    go_enter Tryd.func88, Tryd.ntmps88
    go_wp2
    refine bodyPost_ret (by simp [results, Tryd.results88, go_sem]; try rfl) rfl ?_
    exact ⟨rfl, by go_grown⟩
  rw [if_neg h1]
  have k1 : ((k.k : Int) == 1) = false := by simp; omega
  by_cases h2 : k.k = 2
  · rw [if_pos h2]
    have k2 : ((k.k : Int) == 2) = true := by simp; omega
    clear h1 h2
    go_enter Tryd.func88, Tryd.ntmps88
    go_wp2
    refine bodyPost_ret (by simp [results, Tryd.results88, go_sem]; try rfl) rfl ?_
    exact ⟨rfl, by go_grown⟩
  rw [if_neg h2]
  have k2 : ((k.k : Int) == 2) = false := by simp; omega
  have CM1 := Hid.mk (amongI k 28 29 W2)
  unfold tkV at CM1
  by_cases h3 : k.k = 28 ∨ k.k = 29
  · rw [if_pos h3]
    rw [show (decide (28 ≤ k.k) && decide (k.k ≤ 29)) = true by simp; omega] at CM1
    have e9 : IntKind.i64.wrap ((k.k : Int) - 28) = (k.k : Int) - 28 := by rw [IntKind.wrap_i64]; omega
    clear h1 h2 h3
    go_enter Tryd.func88, Tryd.ntmps88
    go_wp2_with fail
    rw [← hW2]
    refine CM1.out.mono ?_
    rintro e w3 ⟨rfl, hb⟩
    have t0 := (blk_cell (blk_below T2.out hb) 0).trans rfl
    have o0 := (blk_cell (blk_below O2.out hb) 0).trans rfl
    have o1 := (blk_cell (blk_below O2.out hb) 1).trans rfl
    have o2 := (blk_cell (blk_below O2.out hb) 2).trans rfl
    have q0 := blk_unfrozen (blk_below O2.out hb) 0
    have q1 := blk_unfrozen (blk_below O2.out hb) 1
    have q2 := blk_unfrozen (blk_below O2.out hb) 2
    have HB := Hid.mk (below_then A2.out hb)
    clear hb hW2
    go_wp2
    refine bodyPost_ret (by simp [results, Tryd.results88, go_sem, o0, o1, o2]; try rfl) rfl ?_
    exact ⟨rfl, ((HB.out.setCell (p := ⟨w.heap.size, 0, none⟩) (Nat.le_refl _) _).setCell (p := ⟨w.heap.size, 1, none⟩) (Nat.le_refl _) _).setCell (p := ⟨w.heap.size, 2, none⟩) (Nat.le_refl _) _⟩
  rw [if_neg h3]
  rw [show (decide (28 ≤ k.k) && decide (k.k ≤ 29)) = false by simp; omega] at CM1
  by_cases h4 : 30 ≤ k.k ∧ k.k ≤ 42
  · rw [if_pos h4]
    have e9 : IntKind.i64.wrap ((k.k : Int) - 30) = (k.k : Int) - 30 := by rw [IntKind.wrap_i64]; omega
    have hv : (decide (30 ≤ k.k) && decide (k.k ≤ 42)) = true := by simp; omega
    have HV := Hid.mk hv
    clear h1 h2 h3 h4 hv
    go_enter Tryd.func88, Tryd.ntmps88
    go_wp2_with fail
    rw [← hW2]
    refine CM1.out.mono ?_
    rintro e w3 ⟨rfl, hb⟩
    have TB := blk_below T2.out hb
    have OB := blk_below O2.out hb
    have t0 := (blk_cell TB 0).trans rfl
    have t1 := (blk_cell TB 1).trans rfl
    have t2 := (blk_cell TB 2).trans rfl
    have t3 := (blk_cell TB 3).trans rfl
    have TB := Hid.mk TB
    have OB := Hid.mk OB
    have HB := Hid.mk (below_then A2.out hb)
    clear hb hW2
    go_wp2_with fail
    refine (amongI k 30 42 w3).mono ?_
    rw [HV.out]
    rintro e w4 ⟨rfl, hb⟩
    clear t0 t1 t2 t3
    have t0 := (blk_cell (blk_below TB.out hb) 0).trans rfl
    have o0 := (blk_cell (blk_below OB.out hb) 0).trans rfl
    have o1 := (blk_cell (blk_below OB.out hb) 1).trans rfl
    have o2 := (blk_cell (blk_below OB.out hb) 2).trans rfl
    have q0 := blk_unfrozen (blk_below OB.out hb) 0
    have q1 := blk_unfrozen (blk_below OB.out hb) 1
    have q2 := blk_unfrozen (blk_below OB.out hb) 2
    have HB4 := Hid.mk (below_then HB.out hb)
    clear hb
    go_wp2
    refine bodyPost_ret (by simp [results, Tryd.results88, go_sem, o0, o1, o2]; try rfl) rfl ?_
    exact ⟨rfl, ((HB4.out.setCell (p := ⟨w.heap.size, 0, none⟩) (Nat.le_refl _) _).setCell (p := ⟨w.heap.size, 1, none⟩) (Nat.le_refl _) _).setCell (p := ⟨w.heap.size, 2, none⟩) (Nat.le_refl _) _⟩
  rw [if_neg h4]
  have hv : (decide (30 ≤ k.k) && decide (k.k ≤ 42)) = false := by simp; omega
  have HV := Hid.mk hv
  clear h1 h2 h3 h4 hv
  go_enter Tryd.func88, Tryd.ntmps88
  go_wp2_with fail
  rw [← hW2]
  refine CM1.out.mono ?_
  rintro e w3 ⟨rfl, hb⟩
  have TB := blk_below T2.out hb
  have t0 := (blk_cell TB 0).trans rfl
  have t1 := (blk_cell TB 1).trans rfl
  have t2 := (blk_cell TB 2).trans rfl
  have t3 := (blk_cell TB 3).trans rfl
  have HB := Hid.mk (below_then A2.out hb)
  clear hb hW2 TB
  go_wp2_with fail
  refine (amongI k 30 42 w3).mono ?_
  rw [HV.out]
  rintro e w4 ⟨rfl, hb⟩
  have HB4 := Hid.mk (below_then HB.out hb)
  clear hb t0 t1 t2 t3
  go_wp2_with (go_at_call 32; go_must (refine (pfailI B b a c t i o d _ (H.out.below HB4.out) 4).mono ?_; rintro e w5 ⟨rfl, hb5⟩))
  rw [HK.out]
  exact ⟨rfl, rfl, below_then HB4.out hb5⟩

end Go.Proofs.YtfoigigbggickaaDoor.Par
