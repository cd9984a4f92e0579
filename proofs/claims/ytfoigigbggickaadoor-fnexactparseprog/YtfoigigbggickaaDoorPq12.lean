import Derived.Test.YtfoigigbggickaaDoorPq11
import Derived.Lib.Hide
import Derived.OwnWalk
import Derived.ArgAppend
import Derived.Maps.AppendAt
import Derived.Maps.Range
import Derived.Deep.LoopGhost
namespace Go.Proofs.YtfoigigbggickaaDoor.Par
open Go Go.RowKit Go.Proofs.YtfoigigbggickaaDoor.Mem Go.Proofs.YtfoigigbggickaaDoor.Syn Go.Proofs.YtfoigigbggickaaDoor.Parse
set_option linter.unusedVariables false
set_option linter.unusedSimpArgs false
attribute [local go_sem ↓] Go.wp_at_zero Go.wp_at_succ

theorem news_one (w : World) (v : Value) (T : TypeId) : ∀ j u, [v][j]? = some u → (w.alloc (.cells #[v] T)).cell? ((⟨w.heap.size, 0, none⟩ : Addr).add j) = some u := fun j u hu => by
  cases j with
  | zero => rw [Addr.add_lit, blk_cell (blk_new w _) 0]; simpa using hu
  | succ j => simp at hu
theorem infoN : (Tryd.prog.info? 106).map (fun i => (i.zero, i.size, i.bytes)) = some (some .nilIface, 1, 16) := by kernel_rfl
theorem info_parts {P : Program} {t : TypeId} {z : Value} {s b : Nat} (h : (P.info? t).map (fun i => (i.zero, i.size, i.bytes)) = some (some z, s, b)) : ∃ i, P.info? t = some i ∧ i.zero = some z ∧ i.size = s ∧ i.bytes = b := by
  cases hi : P.info? t with
  | none => rw [hi] at h; cases h
  | some i =>
    rw [hi] at h
    simp at h
    exact ⟨i, rfl, h.1, h.2.1, h.2.2⟩
theorem own_one (w : World) (T : TypeId) (v : Value) (B : Nat) (hB : B ≤ w.heap.size) : (w.alloc (.cells #[v] T)).ownsRow B T 1 (.slice (some ⟨w.heap.size, 0, none⟩) 1 1) 1 [v] :=
  ⟨rfl, Or.inr ⟨w.heap.size, 1, #[v], rfl, hB, blk_new _ _, Nat.le_refl _, by unfold maxLen; omega, rfl, rfl⟩⟩
theorem row_cells {w : World} {B n : Nat} {e : TypeId} {v : Value} {xs : List Value} (h : w.ownsRow B e 1 v n xs) (h0 : 0 < n) : ∃ g c, v = .slice (some ⟨g, 0, none⟩) n c ∧ n ≤ c ∧ B ≤ g ∧ g < w.heap.size ∧ (∀ i u, xs[i]? = some u → w.cell? ⟨g, i, none⟩ = some u) ∧ ∃ C fr, w.heap[g]? = some (.cells C e fr) := by
  rcases h.2 with ⟨rfl, h1⟩ | ⟨g, cap, cur, rfl, hb, hg, hn, hm, hs, ht⟩
  · omega
  · refine ⟨g, cap, rfl, hn, hb, blk_lt hg, fun i u hu => ?_, _, _, hg⟩
    rw [blk_cell hg i]
    rw [← ht, List.getElem?_take] at hu
    split at hu
    · rw [← Array.getElem?_toList]; exact hu
    · cases hu
/-- What the loop over operands keeps. -/
structure Ol (B b : Nat) (a : Option Addr) (c : Nat) (t : List UInt8) (w : World) (D : Nat) (lv : Value) (L : List Tr) (vs : List Value) (j o : Nat) (wr : World) : Prop where
  row : wr.ownsRow w.heap.size 106 1 lv L.length vs
  nq : Nqs wr (fun g => Nw w.heap.size g ∧ some g ≠ lv.ownBlock) vs L
  ps : PS B b a c t j o D wr
  gb : w.grownBy wr (some b)
theorem own_b {B n : Nat} {e : TypeId} {s : Nat} {w : World} {v : Value} {xs : List Value} (h : w.ownsRow B e s v n xs) {b : Nat} (hb : b < B) : some b ≠ v.ownBlock := fun e => by
  have := (h.lt b e.symm).1
  omega
theorem Ol.grow {B b : Nat} {a : Option Addr} {c : Nat} {t : List UInt8} {w : World} {D : Nat} {lv : Value} {L : List Tr} {vs : List Value} {j o : Nat} {wr : World} (h : Ol B b a c t w D lv L vs j o wr) (hlt : b < w.heap.size) {w' : World} {j' o' : Nat} (g : wr.grownBy w' (some b)) (p : PS B b a c t j' o' D w') : Ol B b a c t w D lv L vs j' o' w' :=
  ⟨h.row.kept g (Or.inr fun e => own_b h.row hlt e.symm), h.nq.keep (fun x C fr hx hc => by
    rw [g.block x (blk_lt hc) (fun e => by have h1 : w.heap.size ≤ x := hx.1; have := Option.some.inj e; omega)]; exact hc), p, gb_then h.gb g⟩
theorem Ol.below {B b : Nat} {a : Option Addr} {c : Nat} {t : List UInt8} {w : World} {D : Nat} {lv : Value} {L : List Tr} {vs : List Value} {j o : Nat} {wr : World} (h : Ol B b a c t w D lv L vs j o wr) {w' : World} (hb : Below wr.heap.size wr w') : Ol B b a c t w D lv L vs j o w' :=
  ⟨row_below h.row hb, h.nq.keep (kn_below hb), Px.below h.ps hb, gb_then h.gb (gb_below hb)⟩
theorem Px.far {B b : Nat} {a : Option Addr} {c : Nat} {t : List UInt8} {z : Pz} {w w' : World} {r : Option Nat} (h : Px B b a c t z w) (hg : w.grownBy w' r) (hr : ∀ k, r = some k → B ≤ k ∧ k ≠ b) : Px B b a c t z w' := by
  have hlt := h.lt
  have hB := h.hB
  have bel : Below B w w' := ⟨hg.os, hg.tape, hg.output, hg.size, fun k hk => hg.block k (by omega) (fun e => by have := (hr k e.symm).1; omega)⟩
  exact ⟨by rw [hg.block b hlt (fun e => (hr b e.symm).2 rfl)]; exact h.blk, h.txt.below bel, h.hB, fun m hm => hg.cell (h.tw m hm) (fun e => by have := (hr _ e.symm).1; have := h.gw; dsimp only at *; omega), fun m hm => hg.cell (h.tb m hm) (fun e => by have := (hr _ e.symm).1; have := h.gb; dsimp only at *; omega), h.gw, h.gb, h.sm, h.sz⟩
theorem Ol.push {B b : Nat} {a : Option Addr} {c : Nat} {t : List UInt8} {w : World} {D : Nat} {lv : Value} {L : List Tr} {vs : List Value} {j o : Nat} {W : World} (h : Ol B b a c t w D lv L vs j o W) (hlt : b < w.heap.size) {w' : World} {v' u : Value} {x : Tr} {S : Nat} (hS : w.heap.size ≤ S) (hl : ∀ k, lv.ownBlock = some k → k < S) (hu : Nq W (Nw S) u x)
    (row : w'.ownsRow w.heap.size 106 1 v' (L.length + 1) (vs ++ [u])) (g : W.grownBy w' lv.ownBlock) (hat : v'.ownBlock = lv.ownBlock ∨ v'.ownBlock = some W.heap.size) : Ol B b a c t w D v' (L ++ [x]) (vs ++ [u]) j o w' := by
  have hB : B ≤ b := h.ps.hB
  refine ⟨by rw [List.length_append]; exact row, ?_, Px.far h.ps g (fun k e => ?_), ?_⟩
  · have h1 : Nqs W (fun g => (Nw w.heap.size g ∧ some g ≠ lv.ownBlock) ∧ some g ≠ v'.ownBlock) (vs ++ [u]) (L ++ [x]) := by
      refine Nqs.snoc (h.nq.mono (fun g hg hh => ⟨hh, ?_⟩)) (hu.mono (fun g hg hh => ⟨⟨Nat.le_trans hS hh, ?_⟩, ?_⟩))
      · rcases hat with e | e
        · rw [e]; exact hh.2
        · rw [e]; intro e; have := Option.some.inj e; omega
      · intro e; have := hl g e.symm; unfold Nw at hh; omega
      · rcases hat with e | e
        · rw [e]; intro e; have := hl g e.symm; unfold Nw at hh; omega
        · rw [e]; intro e; have := Option.some.inj e; omega
    exact (h1.keep (fun g' C fr hh hc => by rw [g.block g' (blk_lt hc) hh.1.2]; exact hc)).mono (fun g _ hh => ⟨hh.1.1, hh.2⟩)
  · have := (h.row.lt k e).1
    exact ⟨by omega, by omega⟩
  · exact World.grownBy.andThen h.gb g (fun k e => Or.inl (h.row.lt k e).1)

set_option maxHeartbeats 3200000 in
set_option maxRecDepth 1000000 in
theorem ogC (B b : Nat) (a : Option Addr) (c : Nat) (t : List UInt8) (f : Nat) (H : ∀ f', f' ≤ f → Cs B b a c t f') (m i o d : Nat) (w : World) (hm1 : 1 ≤ m) (hm3 : m ≤ 3) (h : PS B b a c t i o d w) (ho : o ≤ 2000) (hd : d ≤ 64) (hn : og (tkT t) (f + 1) m i o d ≠ .out) :
    Calls Tryd.prog 86 #[.pointer (some ⟨b, 0, none⟩), .int .i64 (m : Int)] w fun e w' => Res (og (tkT t) (f + 1) m i o d) (OP B b a c t w d) e w' ∧ w.grownBy w' (some b) := by
  have HC := Hid.mk H
  have hlt := Px.lt h
  have y2 := Px.c2 h
  dsimp only at y2
  rw [og] at hn ⊢
  have P0 := Hid.mk h
  obtain ⟨i0, hi, hz0, hz1, hz2⟩ := info_parts infoN
  clear H h
  obtain ⟨k, hk⟩ : ∃ k, k = (tkT t i).k := ⟨_, rfl⟩
  rw [← hk] at y2 hn ⊢
  clear hk
  by_cases hop : k = 5
  · rw [if_pos hop] at hn ⊢
    have k1 : ((k : Int) != 5) = false := by simp; omega
    have HN := Hid.mk hn
    clear hn hop
    go_enter Tryd.func86, Tryd.ntmps86
    go_wp2_with fail
    refine (countOpenI B b a c t i o d w P0.out hd).mono ?_
    rintro e w1 ⟨p, g⟩
    cases hr1 : opn' (tkT t) i d with
    | out => rw [hr1] at p; exact p.elim
    | bad cc aa =>
      have HR1 := Hid.mk hr1
      rw [hr1] at p; have p : e = .panicked (flV cc aa) := p; subst p
      exact ⟨rfl, (by simp only [HR1.out, bnd_ok, bnd_bad]; exact rfl), gb_then (World.grownBy.refl _ _) g⟩
    | ok x1 =>
      have HR1 := Hid.mk hr1
      rw [hr1] at p
      obtain ⟨rfl, p1⟩ := p
      have P1 := Hid.mk p1
      have GG1 := Hid.mk g
      have G1 := Hid.mk (gb_then (World.grownBy.refl _ _) g)
      clear p1 g hr1
      have hd1 := opn_le HR1.out hd
      go_wp2_with fail
      refine (advI B b a c t i o (d + 1) _ P1.out).mono ?_
      rintro e w2 ⟨p, g⟩
      cases hr2 : adv (tkT t) i with
      | out => rw [hr2] at p; exact p.elim
      | bad cc aa =>
        have HR2 := Hid.mk hr2
        rw [hr2] at p; have p : e = .panicked (flV cc aa) := p; subst p
        exact ⟨rfl, (by simp only [HR1.out, HR2.out, bnd_ok, bnd_bad]; exact rfl), gb_then (G1.out) g⟩
      | ok x2 =>
        have HR2 := Hid.mk hr2
        rw [hr2] at p
        obtain ⟨rfl, p2⟩ := p
        have P2 := Hid.mk p2
        have GG2 := Hid.mk g
        have G2 := Hid.mk (gb_then (G1.out) g)
        clear p2 g hr2
        have hn3 : ex (tkT t) f 1 x2 o (d + 1) ≠ .out := fun e => HN.out (by simp only [HR1.out, HR2.out, bnd_ok, e]; rfl)
        go_wp2_with fail
        refine ((HC.out f (Nat.le_refl _)).ex 1 x2 o (d + 1) _ (Nat.le_refl _) (by omega) P2.out ho hd1 hn3).mono ?_
        rintro e w3 ⟨p, g⟩
        cases hr3 : ex (tkT t) f 1 x2 o (d + 1) with
        | out => rw [hr3] at p; exact p.elim
        | bad cc aa =>
          have HR3 := Hid.mk hr3
          rw [hr3] at p; have p : e = .panicked (flV cc aa) := p; subst p
          exact ⟨rfl, (by simp only [HR1.out, HR2.out, HR3.out, bnd_ok, bnd_bad]; exact rfl), gb_then (G2.out) g⟩
        | ok x3 =>
          have HR3 := Hid.mk hr3
          rw [hr3] at p
          obtain ⟨v, rfl, q, p3, hx⟩ := p
          have P3 := Hid.mk p3
          have GG3 := Hid.mk g
          have G3 := Hid.mk (gb_then (G2.out) g)
          obtain ⟨TT, uu, rfl⟩ := q.form
          have Q3 := Hid.mk q
          clear q
          clear p3 g hr3
          obtain ⟨W3, hW3⟩ : ∃ W, W = w3.alloc (.cells #[.iface TT uu] 106) := ⟨_, rfl⟩
          have A3 : Hid (Below w3.heap.size w3 W3) := by rw [hW3]; exact below_alloc' (Below.refl _ _) _
          have hs3 : w.heap.size ≤ w3.heap.size := G3.out.size
          have OL3 : Hid (Ol B b a c t w (d + 1) (.slice (some ⟨w3.heap.size, 0, none⟩) 1 1) [x3.1] [.iface TT uu] x3.2.1 x3.2.2 W3) := ⟨by rw [hW3]; exact own_one w3 _ _ _ hs3, .cons _ _ _ _ ((Q3.out.mono (fun g hg hh => ⟨Nat.le_trans (Nat.le_trans (Nat.le_refl _) G2.out.size) hh, by simp [Value.ownBlock]; omega⟩)).keep (kn_below A3.out)) .nil, Px.below P3.out A3.out, gb_then G3.out (gb_below A3.out)⟩
          obtain ⟨RL, hRL⟩ : ∃ R, R = ol (tkT t) f (m - 1) [x3.1] x3.2.1 x3.2.2 (d + 1) := ⟨_, rfl⟩
          have HRL := Hid.mk hRL.symm
          have hRn : Hid (RL ≠ .out) := fun e => HN.out (by simp only [HR1.out, HR2.out, HR3.out, HRL.out, bnd_ok, e]; rfl)
          clear hRL y2
          go_wp2_with fail
          rw [← hW3]
          clear hW3
          go_loopg [5] f (fun gk lv wr => ∃ (L : List Tr) (vs : List Value) (j o : Nat), gk ≤ f ∧ 1 ≤ L.length ∧ L.length ≤ m ∧ o ≤ 2000 ∧ Hid (Ol B b a c t w (d + 1) lv L vs j o wr) ∧ Hid (ol (tkT t) gk (m - L.length) L j o (d + 1) = RL))
          case atStart => exact ⟨[x3.1], [.iface TT uu], x3.2.1, x3.2.2, Nat.le_refl _, Nat.le_refl _, hm1, hx, OL3, HRL⟩
          case round =>
            obtain ⟨L, vs, j, o', hgk, hL1, hLm, ho', hol, hlo⟩ := hrel
            obtain ⟨g, cap, rfl, hcap, hgB, hglt, hcl, hnk⟩ := row_cells hol.out.row hL1
            obtain ⟨NL, hNL⟩ : ∃ n, n = L.length := ⟨_, rfl⟩
            rw [← hNL] at hol hcap hL1 hLm ⊢
            have HNL := Hid.mk hNL
            clear hNL
            have HCL := Hid.mk hcl
            have HNK := Hid.mk hnk
            clear hcl hnk
            cases gk with
            | zero => exact absurd (hlo.out.symm.trans (by rw [ol])) hRn.out
            | succ gk =>
              by_cases hlt2 : NL < m
              · have k1 : (NL : Int) < (m : Int) := by omega
                have e1 : Hid (ol (tkT t) (gk + 1) (m - L.length) L j o' (d + 1) = (exp (tkT t) 4 j).bnd fun j1 => (ex (tkT t) gk 1 j1 o' (d + 1)).bnd fun x => ol (tkT t) gk (m - (L.length + 1)) (L ++ [x.1]) x.2.1 x.2.2 (d + 1)) := by
                  unfold Hid
                  rw [show m - L.length = (m - (L.length + 1)) + 1 by have := HNL.out; omega, ol]
                go_wp2_with fail
                refine (expI B b a c t j o' (d + 1) _ hol.out.ps 4).mono ?_
                rintro e w4 ⟨p, g⟩
                cases hr4 : exp (tkT t) 4 j with
                | out => rw [hr4] at p; exact p.elim
                | bad cc aa =>
                  have HR4 := Hid.mk hr4
                  rw [hr4] at p; have p : e = .panicked (flV cc aa) := p; subst p
                  exact ⟨rfl, (by simp only [HR1.out, HR2.out, HR3.out, HRL.out, hlo.out.symm, e1.out, HR4.out, bnd_ok, bnd_bad]; exact rfl), gb_then (hol.out.gb) g⟩
                | ok x4 =>
                  have HR4 := Hid.mk hr4
                  rw [hr4] at p
                  obtain ⟨rfl, p4⟩ := p
                  have P4 := Hid.mk p4
                  have GG4 := Hid.mk g
                  have G4 := Hid.mk (gb_then (hol.out.gb) g)
                  clear p4 g hr4
                  have OL4 := Hid.mk (hol.out.grow hlt GG4.out P4.out)
                  have hn5 : ex (tkT t) gk 1 x4 o' (d + 1) ≠ .out := fun e => hRn.out (by rw [← hlo.out, e1.out, HR4.out, bnd_ok, e]; rfl)
                  go_wp2_with fail
                  refine ((HC.out gk (by omega)).ex 1 x4 o' (d + 1) _ (Nat.le_refl _) (by omega) P4.out ho' hd1 hn5).mono ?_
                  rintro e w5 ⟨p, g⟩
                  cases hr5 : ex (tkT t) gk 1 x4 o' (d + 1) with
                  | out => rw [hr5] at p; exact p.elim
                  | bad cc aa =>
                    have HR5 := Hid.mk hr5
                    rw [hr5] at p; have p : e = .panicked (flV cc aa) := p; subst p
                    exact ⟨rfl, (by simp only [HR1.out, HR2.out, HR3.out, HRL.out, hlo.out.symm, e1.out, HR4.out, HR5.out, bnd_ok, bnd_bad]; exact rfl), gb_then (OL4.out.gb) g⟩
                  | ok x5 =>
                    have HR5 := Hid.mk hr5
                    rw [hr5] at p
                    obtain ⟨v2, rfl, q, p5, hx5⟩ := p
                    have P5 := Hid.mk p5
                    have GG5 := Hid.mk g
                    have G5 := Hid.mk (gb_then (OL4.out.gb) g)
                    obtain ⟨T2, u2, rfl⟩ := q.form
                    have Q5 := Hid.mk q
                    clear q
                    clear p5 g hr5
                    have OL5 := Hid.mk (OL4.out.grow hlt GG5.out P5.out)
                    have A6 : Hid (Below w5.heap.size w5 (w5.alloc (.cells #[.iface T2 u2] 106))) := below_alloc' (Below.refl _ _) _
                    have OL6 := Hid.mk (OL5.out.below A6.out)
                    have hL3 : L.length ≤ 3 := by have := HNL.out; omega
                    have hsz : w.heap.size ≤ w5.heap.size := G5.out.size
                    have hgw4 : g < w4.heap.size := Nat.lt_of_lt_of_le hglt GG4.out.size
                    go_wp2_with (at_builtin; go_must (refine wpList_append_own_at _ rfl _ _ 119 rfl w.heap.size 106 i0 .nilIface 1 16 Tryd.underlying119 hi hz0 hz1 hz2 rfl (by decide) _ _ _ rfl OL6.out.row ⟨w5.heap.size, 0, none⟩ 1 1 [.iface T2 u2] rfl rfl (news_one w5 (.iface T2 u2) 106) (by intro u hu; simp only [List.mem_singleton] at hu; rw [hu]; rfl) (by unfold maxLen; omega) (by omega) (by simp; omega) ?_))
                    intro v' w6 hown hgrow _ hat
                    have hol' := Hid.mk (OL6.out.push hlt (S := w4.heap.size) (Nat.le_trans (Nat.le_of_lt (Nat.lt_of_le_of_lt hgB hglt)) GG4.out.size) (fun k e => by simp [Value.ownBlock] at e; omega) (Q5.out.keep (kn_below A6.out)) hown hgrow (by simpa using hat))
                    have hlo' : Hid (ol (tkT t) gk (m - (L ++ [x5.1]).length) (L ++ [x5.1]) x5.2.1 x5.2.2 (d + 1) = RL) := by unfold Hid; rw [← hlo.out, e1.out, HR4.out, bnd_ok, HR5.out, bnd_ok, List.length_append]; rfl
                    clear hown hat hgrow OL6 OL5 OL4
                    refine Hid.out ?_
                    refine Lib.hid ?_
                    go_wp2_with fail
                    go_roundg gk
                    case measure => omega
                    case rel => exact ⟨L ++ [x5.1], _, x5.2.1, x5.2.2, by omega, by simp, by rw [List.length_append, ← HNL.out]; simp; omega, hx5, hol', hlo'⟩
              · have k1 : decide ((NL : Int) < (m : Int)) = false := by simp; omega
                have hR : Hid (RL = .ok (L, j, o')) := by
                  have h1 := hlo.out
                  rw [show m - L.length = 0 by have := HNL.out; omega, ol] at h1
                  exact h1.symm
                go_wp2_with fail
                refine (expI B b a c t j o' (d + 1) _ hol.out.ps 6).mono ?_
                rintro e w4 ⟨p, g⟩
                cases hr4 : exp (tkT t) 6 j with
                | out => rw [hr4] at p; exact p.elim
                | bad cc aa =>
                  have HR4 := Hid.mk hr4
                  rw [hr4] at p; have p : e = .panicked (flV cc aa) := p; subst p
                  exact ⟨rfl, (by simp only [HR1.out, HR2.out, HR3.out, HRL.out, hR.out, HR4.out, bnd_ok, bnd_bad]; exact rfl), gb_then (hol.out.gb) g⟩
                | ok x4 =>
                  have HR4 := Hid.mk hr4
                  rw [hr4] at p
                  obtain ⟨rfl, p4⟩ := p
                  have P4 := Hid.mk p4
                  have GG4 := Hid.mk g
                  have G4 := Hid.mk (gb_then (hol.out.gb) g)
                  clear p4 g hr4
                  have OL4 := Hid.mk (hol.out.grow hlt GG4.out P4.out)
                  have y7 := Px.c7 P4.out
                  have f7 := Px.fz P4.out 7
                  dsimp only at y7
                  have e9 : IntKind.i64.wrap (((d + 1 : Nat) : Int) - 1) = (d : Int) := by rw [IntKind.wrap_i64]; omega
                  obtain ⟨D, hD⟩ : ∃ D, D = d + 1 := ⟨_, rfl⟩
                  rw [← hD] at y7 e9
                  clear hD
                  have hc4 := Hid.mk (row_cells OL4.out.row (by rw [← HNL.out]; omega))
                  have HQ : Hid (OP B b a c t w d (L, x4, o') (.returned (.slice (some ⟨g, 0, none⟩) NL cap)) (w4.setCell ⟨b, 7, none⟩ (.int .i64 (d : Int)))) := by
                    obtain ⟨g2, cap2, e2, -, -, hg2, hcl2, hnk2⟩ := hc4.out
                    injection e2 with e3 e4 e5
                    have e6 : g = g2 := by injection e3 with e3; injection e3
                    subst e6
                    have hne : g ≠ b := by omega
                    obtain ⟨C2, fr2, hC2⟩ := hnk2
                    refine ⟨g, cap, vs, by rw [HNL.out], (OL4.out.nq.mono (fun x _ hh => hh.1)).keep (kn_grown (gb_set _ _ _ _) hlt), hgB, ⟨C2, fr2, blk_set_other hC2 hne _⟩, fun x v hv => ?_, by rw [← HNL.out]; exact hcap, Px.set7 P4.out (d := d) rfl, ho'⟩
                    rw [World.cell?_setCell_far _ _ _ _ (by simp; omega)]
                    exact hcl2 x v hv
                  clear hc4
                  go_wp2
                  go_ret
                  exact ⟨(by simp only [HR1.out, HR2.out, HR3.out, HRL.out, hR.out, HR4.out, bnd_ok]; exact HQ.out), gb_then G4.out (gb_set _ _ _ _)⟩
  · rw [if_neg hop] at hn ⊢
    have k1 : (k : Int) ≠ 5 := by omega
    clear hn hop
    go_enter Tryd.func86, Tryd.ntmps86
    go_wp2_with (go_at_call 32; go_must (refine (pfailI B b a c t i o d _ P0.out 4).mono ?_; rintro e w1 ⟨rfl, hb⟩))
    exact ⟨rfl, rfl, gb_below hb⟩

end Go.Proofs.YtfoigigbggickaaDoor.Par
