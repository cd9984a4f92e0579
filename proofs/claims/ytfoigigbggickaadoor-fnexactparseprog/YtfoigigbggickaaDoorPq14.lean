import Derived.Test.YtfoigigbggickaaDoorPq13
import Derived.Deep.DeepCutAuto
namespace Go.Proofs.YtfoigigbggickaaDoor.Par
open Go Go.RowKit Go.Proofs.YtfoigigbggickaaDoor.Mem Go.Proofs.YtfoigigbggickaaDoor.Syn Go.Proofs.YtfoigigbggickaaDoor.Parse
set_option linter.unusedVariables false
set_option linter.unusedSimpArgs false
attribute [local go_sem ↓] Go.wp_at_zero Go.wp_at_succ

/-- What the loop over an expression's operands keeps. -/
structure Lp (B b : Nat) (a : Option Addr) (c : Nat) (t : List UInt8) (w : World) (d : Nat) (lv : Value) (l : Tr) (i o : Nat) (wr : World) : Prop where
  nq : Nq wr (Nw w.heap.size) lv l
  ps : PS B b a c t i o d wr
  gb : w.grownBy wr (some b)
  ho : o ≤ 2000
theorem Lp.grow {B b : Nat} {a : Option Addr} {c : Nat} {t : List UInt8} {w : World} {d : Nat} {lv : Value} {l : Tr} {i o : Nat} {wr : World} (h : Lp B b a c t w d lv l i o wr) (hlt : b < w.heap.size) {w' : World} {i' o' : Nat} (g : wr.grownBy w' (some b)) (p : PS B b a c t i' o' d w') (ho : o' ≤ 2000) : Lp B b a c t w d lv l i' o' w' :=
  ⟨h.nq.keep (kn_grown g hlt), p, gb_then h.gb g, ho⟩
theorem Lp.below {B b : Nat} {a : Option Addr} {c : Nat} {t : List UInt8} {w : World} {d : Nat} {lv : Value} {l : Tr} {i o : Nat} {wr : World} (h : Lp B b a c t w d lv l i o wr) {w' : World} (hb : Below wr.heap.size wr w') : Lp B b a c t w d lv l i o w' :=
  ⟨h.nq.keep (kn_below hb), Px.below h.ps hb, gb_then h.gb (gb_below hb), h.ho⟩

set_option maxHeartbeats 3200000 in
set_option maxRecDepth 1000000 in
theorem exC (B b : Nat) (a : Option Addr) (c : Nat) (t : List UInt8) (f : Nat) (H : ∀ f', f' ≤ f → Cs B b a c t f') (s i o d : Nat) (w : World) (h1 : 1 ≤ s) (h6 : s ≤ 6) (h : PS B b a c t i o d w) (ho : o ≤ 2000) (hd : d ≤ 64) (hn : ex (tkT t) (f + 1) s i o d ≠ .out) :
    Calls Tryd.prog 69 #[.pointer (some ⟨b, 0, none⟩), .int .i64 (s : Int)] w fun e w' => Res (ex (tkT t) (f + 1) s i o d) (EP B b a c t w d) e w' ∧ w.grownBy w' (some b) := by
  have HC := Hid.mk H
  have hlt := Px.lt h
  rw [ex] at hn ⊢
  have P0 := Hid.mk h
  clear H h
  by_cases hs : s = 6
  · rw [if_pos hs] at hn ⊢
    have k1 : ((s : Int) == 6) = true := by simp; omega
    clear hs
    go_enter Tryd.func69, Tryd.ntmps69
    go_wp2_with fail
    refine ((HC.out f (Nat.le_refl _)).un i o d w P0.out ho hd hn).mono ?_
    rintro e w1 ⟨p, g⟩
    cases hr : un (tkT t) f i o d with
    | out => exact absurd hr hn
    | bad cc aa => rw [hr] at p; have p : e = .panicked (flV cc aa) := p; subst p; exact ⟨rfl, (by rw [hr]; exact rfl), g⟩
    | ok x =>
      rw [hr] at p
      obtain ⟨v, rfl, q, p, hx⟩ := p
      have HQ : Hid (EP B b a c t w d x (.returned v) w1) := ⟨v, rfl, q, p, hx⟩
      have HR := Hid.mk hr
      have HG := Hid.mk g
      clear q p hx hr g
      go_wp2
      go_ret
      exact ⟨(by rw [HR.out]; exact HQ.out), HG.out⟩
  · rw [if_neg hs] at hn ⊢
    have k1 : ((s : Int) == 6) = false := by simp; omega
    have HN := Hid.mk hn
    have hs5 : s ≤ 5 := by omega
    clear hs hn
    go_enter Tryd.func69, Tryd.ntmps69
    have hn1 : ex (tkT t) f (s + 1) i o d ≠ .out := fun e => HN.out (by simp only [e]; rfl)
    have es : IntKind.i64.wrap ((s : Int) + 1) = ((s + 1 : Nat) : Int) := by rw [IntKind.wrap_i64]; omega
    go_wp2_with fail
    refine ((HC.out f (Nat.le_refl _)).ex (s + 1) i o d w (by omega) (by omega) P0.out ho hd hn1).mono ?_
    rintro e w1 ⟨p, g⟩
    cases hr1 : ex (tkT t) f (s + 1) i o d with
    | out => rw [hr1] at p; exact p.elim
    | bad cc aa =>
      have HR1 := Hid.mk hr1
      rw [hr1] at p; have p : e = .panicked (flV cc aa) := p; subst p
      exact ⟨rfl, (by simp only [HR1.out, bnd_ok, bnd_bad]; exact rfl), gb_then (World.grownBy.refl _ _) g⟩
    | ok x1 =>
      have HR1 := Hid.mk hr1
      rw [hr1] at p
      obtain ⟨v, rfl, q, p1, hx⟩ := p
      have P1 := Hid.mk p1
      have GG1 := Hid.mk g
      have G1 := Hid.mk (gb_then (World.grownBy.refl _ _) g)
      obtain ⟨TT, uu, rfl⟩ := q.form
      have L1 : Hid (Lp B b a c t w d (.iface TT uu) x1.1 x1.2.1 x1.2.2 w1) := ⟨q, p1, g, hx⟩
      clear q
      clear p1 g hr1
      obtain ⟨RL, hRL⟩ : ∃ R, R = lp (tkT t) f s x1.1 x1.2.1 x1.2.2 d := ⟨_, rfl⟩
      have HRL := Hid.mk hRL.symm
      have hRn : Hid (RL ≠ .out) := fun e => HN.out (by simp only [HR1.out, HRL.out, bnd_ok, e])
      clear hRL
      go_wp2_with fail
      go_loopg [5] f (fun gk lv wr => ∃ (L : Tr) (j o : Nat), gk ≤ f ∧ (∃ T0 u0, lv = .iface T0 u0) ∧ Hid (Lp B b a c t w d lv L j o wr) ∧ Hid (lp (tkT t) gk s L j o d = RL))
      case atStart => exact ⟨x1.1, x1.2.1, x1.2.2, Nat.le_refl _, ⟨_, _, rfl⟩, L1, HRL⟩
      case round =>
        obtain ⟨L, j, o', hgk, ⟨T0, u0, rfl⟩, hlp, hlo⟩ := hrel
        cases gk with
        | zero => exact absurd (hlo.out.symm.trans (by rw [lp])) hRn.out
        | succ gk =>
          cases hat : atB (tkT t) s j with
          | true =>
            by_cases hs3 : s = 3
            · have e1 : Hid (lp (tkT t) (gk + 1) s L j o' d = (cnt (tkT t) j o').bnd fun o1 => (adv (tkT t) j).bnd fun j1 => (ex (tkT t) gk (s + 1) j1 o1 d).bnd fun x => .ok (.bin (bo (tkT t j).k) L x.1, x.2.1, x.2.2)) := by
                unfold Hid
                rw [lp, if_pos hat]
                simp only [hs3, if_true, if_false]
              have EQ : Hid (∀ F : Nat → Nat → Rs (Tr × Nat × Nat), ((cnt (tkT t) j o').bnd fun o1 => (adv (tkT t) j).bnd fun j1 => F j1 o1) = ((takP (tkT t) j o').bnd fun y => F y.1 y.2)) := fun F => (tak_bnd (tkT t) j o' F).symm
              have CA := Hid.mk (atBinI B b a c t j o' d wr hlp.out.ps s)
              rw [hat] at CA
              have y2 := Px.c2 hlp.out.ps
              dsimp only at y2
              obtain ⟨kk, hkk⟩ : ∃ k, k = (tkT t j).k := ⟨_, rfl⟩
              rw [← hkk] at y2 e1
              have hk51 : kk ≤ 51 := by rw [hkk]; exact tk_le t j
              obtain ⟨KV, hKV⟩ : ∃ z, z = (kk : Int) - 8 := ⟨_, rfl⟩
              have e9 : IntKind.i64.wrap ((kk : Int) - 8) = KV := by rw [IntKind.wrap_i64]; omega
              have HKV := Hid.mk hKV
              have k3 : ((s : Int) == 3) = true := by simp; omega
              have HS3 := Hid.mk hs3
              clear hkk hKV hat hs3
              go_wp2_with fail
              refine CA.out.mono ?_
              rintro e wq ⟨rfl, hbq⟩
              have LQ := Hid.mk (hlp.out.below hbq)
              have z2 := cell_keep hbq y2
              have hqs : w.heap.size ≤ wq.heap.size := LQ.out.gb.size
              obtain ⟨W2, hW2⟩ : ∃ W, W = wq.alloc (.cells #[.int .i64 9, .int .i64 KV, .string ⟨#[]⟩] 82) := ⟨_, rfl⟩
              have A2 : Hid (Below wq.heap.size wq W2) := by rw [hW2]; exact below_alloc' (Below.refl _ _) _
              have O2 : Hid (W2.heap[wq.heap.size]? = some (.cells #[.int .i64 9, .int .i64 KV, .string ⟨#[]⟩] 82)) := by rw [hW2]; exact blk_new _ _
              have L2 := Hid.mk (LQ.out.below A2.out)
              have G2 := Hid.mk L2.out.gb
              clear hbq y2 LQ
              go_wp2_with fail
              rw [← hW2]
              clear hW2 z2
              refine (takeOpI B b a c t j o' d W2 L2.out.ps L2.out.ho).mono ?_
              rintro e w3 ⟨p, g⟩
              cases hr3 : takP (tkT t) j o' with
              | out => rw [hr3] at p; exact p.elim
              | bad cc aa =>
                have HR3 := Hid.mk hr3
                rw [hr3] at p; have p : e = .panicked (flV cc aa) := p; subst p
                exact ⟨rfl, (by simp only [HR1.out, HRL.out, hlo.out.symm, e1.out, EQ.out, HR3.out, bnd_ok, bnd_bad]; exact rfl), gb_then (G2.out) g⟩
              | ok x3 =>
                have HR3 := Hid.mk hr3
                rw [hr3] at p
                obtain ⟨rfl, p3⟩ := p
                have P3 := Hid.mk p3
                have GG3 := Hid.mk g
                have G3 := Hid.mk (gb_then (G2.out) g)
                clear p3 g hr3
                have hx3 := tak_le HR3.out L2.out.ho
                have L3 := Hid.mk (L2.out.grow hlt GG3.out P3.out hx3)
                have O3 := Hid.mk (blk_grown' O2.out GG3.out (by omega))
                have HSS : Hid ((fun w' => w'.cell? ⟨wq.heap.size, 0, none⟩ = some (.int .i64 9) ∧ w'.cell? ⟨wq.heap.size, 1, none⟩ = some (.int .i64 KV) ∧ w'.cell? ⟨wq.heap.size, 2, none⟩ = some (.string ⟨#[]⟩)) w3) := ⟨(blk_cell O3.out 0).trans rfl, (blk_cell O3.out 1).trans rfl, (blk_cell O3.out 2).trans rfl⟩
                have D3 : Hid (Below w3.heap.size w3 w3.drew) := (Below.refl _ _).drew
                have L4 := Hid.mk (L3.out.below D3.out)
                have hn5 : ex (tkT t) gk (s + 1) x3.1 x3.2 d ≠ .out := fun e => hRn.out (by rw [← hlo.out, e1.out, EQ.out, HR3.out, bnd_ok, e]; rfl)
                have CE := Hid.mk ((HC.out gk (by omega)).ex (s + 1) x3.1 x3.2 d w3.drew (by omega) (by omega) L4.out.ps hx3 hd hn5)
                have es : IntKind.i64.wrap ((s : Int) + 1) = ((s + 1 : Nat) : Int) := by rw [IntKind.wrap_i64]; omega
                have HSC : Hid (w.heap.size ≤ w3.drew.heap.size) := L4.out.gb.size
                go_upto_region 7 with fail
                refine wp_region_held_drew (S := (fun w' => w'.cell? ⟨wq.heap.size, 0, none⟩ = some (.int .i64 9) ∧ w'.cell? ⟨wq.heap.size, 1, none⟩ = some (.int .i64 KV) ∧ w'.cell? ⟨wq.heap.size, 2, none⟩ = some (.string ⟨#[]⟩))) (by kernel_rfl) ?_ (fun hHeld => ?_)
                · exact HSS.out
                refine wpAnyH_take (i := 0) (v := ?_) rfl (by kernel_rfl) (by kernel_rfl) (by kernel_rfl) (fun _ _ _ h => h) (Or.inl ⟨by rfl, ?_⟩) (by assumption) ?_
                rotate_left
                · intro w hSw; (try dsimp only at hSw); go_simp; (try with_reducible rfl)
                rotate_left
                simp only [Act.put, List.setIfInBounds_toArray, List.set_cons_zero, List.set_cons_succ, List.getElem_toArray, List.getElem_cons_zero, List.getElem_cons_succ]
                refine wpAnyH_take (i := 1) (v := ?_) rfl (by kernel_rfl) (by kernel_rfl) (by kernel_rfl) (fun _ _ _ h => h) (Or.inl ⟨by rfl, ?_⟩) (by assumption) ?_
                rotate_left
                · intro w hSw; (try dsimp only at hSw); go_simp; (try with_reducible rfl)
                rotate_left
                simp only [Act.put, List.setIfInBounds_toArray, List.set_cons_zero, List.set_cons_succ, List.getElem_toArray, List.getElem_cons_zero, List.getElem_cons_succ]
                refine wpAnyH_take (i := 2) (v := ?_) rfl (by kernel_rfl) (by kernel_rfl) (by kernel_rfl) (fun _ _ _ h => h) (Or.inl ⟨by rfl, ?_⟩) (by assumption) ?_
                rotate_left
                · intro w hSw; (try dsimp only at hSw); go_simp; (try with_reducible rfl)
                rotate_left
                simp only [Act.put, List.setIfInBounds_toArray, List.set_cons_zero, List.set_cons_succ, List.getElem_toArray, List.getElem_cons_zero, List.getElem_cons_succ]
                refine wpAnyH_take (i := 3) (v := ?_) rfl (by kernel_rfl) (by kernel_rfl) (by kernel_rfl) (fun _ _ _ h => h) (Or.inl ⟨by rfl, ?_⟩) (by assumption) ?_
                rotate_left
                · intro w hSw; (try dsimp only at hSw); go_simp; (try with_reducible rfl)
                rotate_left
                simp only [Act.put, List.setIfInBounds_toArray, List.set_cons_zero, List.set_cons_succ, List.getElem_toArray, List.getElem_cons_zero, List.getElem_cons_succ]
                refine wpAnyH_take (i := 4) (v := ?_) rfl (by kernel_rfl) (by kernel_rfl) (by kernel_rfl) (fun _ _ _ h => h) (Or.inl ⟨by rfl, ?_⟩) (by assumption) ?_
                rotate_left
                · intro w hSw; (try dsimp only at hSw); go_simp; (try with_reducible rfl)
                rotate_left
                simp only [Act.put, List.setIfInBounds_toArray, List.set_cons_zero, List.set_cons_succ, List.getElem_toArray, List.getElem_cons_zero, List.getElem_cons_succ]
                refine wpAnyH_ready (rs := [5]) (by kernel_rfl) (by simp) ?_
                refine AllReadyH.cons rfl (fun K hK => ?_) ?_
                · go_simp
                  refine CE.out.mono ?_
                  rintro e w5 ⟨p, g⟩
                  cases hr5 : ex (tkT t) gk (s + 1) x3.1 x3.2 d with
                  | out => exact absurd hr5 hn5
                  | bad cc aa =>
                    have HR5 := Hid.mk hr5
                    rw [hr5] at p; have p : e = .panicked (flV cc aa) := p; subst p
                    exact ⟨rfl, (by simp only [HR1.out, HRL.out, hlo.out.symm, e1.out, EQ.out, HR3.out, HR5.out, bnd_ok, bnd_bad]; exact rfl), gb_then L4.out.gb g⟩
                  | ok x5 =>
                    have HR5 := Hid.mk hr5
                    rw [hr5] at p
                    obtain ⟨v5, rfl, q5, p5, hx5⟩ := p
                    obtain ⟨T5, u5, rfl⟩ := q5.form
                    have L5 : Hid (Lp B b a c t w d (.iface 118 (.agg #[.int .i64 9, .int .i64 KV, .string ⟨#[]⟩, .iface T0 u0, .iface T5 u5])) (.bin (bo kk) L x5.1) x5.2.1 x5.2.2 w5) := ⟨by rw [HKV.out]; exact .bin (bo kk) _ _ _ _ (L4.out.nq.keep (kn_grown g hlt)) (q5.mono (fun x _ hh => Nat.le_trans HSC.out hh)), p5, gb_then L4.out.gb g, hx5⟩
                    have HS5 : Hid ((fun w' => w'.cell? ⟨wq.heap.size, 0, none⟩ = some (.int .i64 9) ∧ w'.cell? ⟨wq.heap.size, 1, none⟩ = some (.int .i64 KV) ∧ w'.cell? ⟨wq.heap.size, 2, none⟩ = some (.string ⟨#[]⟩)) w5) := ⟨(blk_cell (blk_grown' (blk_below O3.out D3.out) g (by omega)) 0).trans rfl, (blk_cell (blk_grown' (blk_below O3.out D3.out) g (by omega)) 1).trans rfl, (blk_cell (blk_grown' (blk_below O3.out D3.out) g (by omega)) 2).trans rfl⟩
                    clear q5 p5 g hr5
                    refine hK.out _ _ ?_ (fun hHeld => ?_)
                    · exact HS5.out
                    clear hK K
                    (try simp only [Act.put, List.setIfInBounds_toArray, List.set_cons_zero, List.set_cons_succ, List.getElem_toArray, List.getElem_cons_zero, List.getElem_cons_succ])
                    refine wpAnyH_take (i := 6) (v := ?_) rfl (by kernel_rfl) (by kernel_rfl) (by kernel_rfl) (fun _ _ _ h => h) (Or.inl ⟨by rfl, ?_⟩) (by assumption) ?_
                    rotate_left
                    · intro w hSw; (try dsimp only at hSw); go_simp; (try with_reducible rfl)
                    rotate_left
                    simp only [Act.put, List.setIfInBounds_toArray, List.set_cons_zero, List.set_cons_succ, List.getElem_toArray, List.getElem_cons_zero, List.getElem_cons_succ]
                    refine wpAnyH_take (i := 7) (v := ?_) rfl (by kernel_rfl) (by kernel_rfl) (by kernel_rfl) (fun _ _ _ h => h) (Or.inl ⟨by rfl, ?_⟩) (by assumption) ?_
                    rotate_left
                    · intro w hSw; (try dsimp only at hSw); go_simp; (try with_reducible rfl)
                    rotate_left
                    simp only [Act.put, List.setIfInBounds_toArray, List.set_cons_zero, List.set_cons_succ, List.getElem_toArray, List.getElem_cons_zero, List.getElem_cons_succ]
                    refine wpAnyH_take (i := 8) (v := ?_) rfl (by kernel_rfl) (by kernel_rfl) (by kernel_rfl) (fun _ _ _ h => h) (Or.inl ⟨by rfl, ?_⟩) (by assumption) ?_
                    rotate_left
                    · intro w hSw; (try dsimp only at hSw); go_simp; (try with_reducible rfl)
                    rotate_left
                    simp only [Act.put, List.setIfInBounds_toArray, List.set_cons_zero, List.set_cons_succ, List.getElem_toArray, List.getElem_cons_zero, List.getElem_cons_succ]
                    refine wpAnyH_done (by kernel_rfl) ?_ _
                    have hR : Hid (RL = .ok (.bin (bo kk) L x5.1, x5.2.1, x5.2.2)) := by unfold Hid; rw [← hlo.out, e1.out, EQ.out, HR3.out, bnd_ok, HR5.out, bnd_ok]
                    have HQ : Hid (EP B b a c t w d (.bin (bo kk) L x5.1, x5.2.1, x5.2.2) (.returned (.iface 118 (.agg #[.int .i64 9, .int .i64 KV, .string ⟨#[]⟩, .iface T0 u0, .iface T5 u5]))) w5) := ⟨_, rfl, L5.out.nq, L5.out.ps, L5.out.ho⟩
                    go_wp2
                    go_ret
                    exact ⟨(by simp only [HR1.out, HRL.out, hR.out, bnd_ok]; exact HQ.out), L5.out.gb⟩
                exact AllReadyH.nil
            · have e1 : Hid (lp (tkT t) (gk + 1) s L j o' d = (cnt (tkT t) j o').bnd fun o1 => (adv (tkT t) j).bnd fun j1 => (ex (tkT t) gk (s + 1) j1 o1 d).bnd fun x => lp (tkT t) gk s (.bin (bo (tkT t j).k) L x.1) x.2.1 x.2.2 d) := by
                unfold Hid
                rw [lp, if_pos hat]
                simp only [if_neg hs3]
              have EQ : Hid (∀ F : Nat → Nat → Rs (Tr × Nat × Nat), ((cnt (tkT t) j o').bnd fun o1 => (adv (tkT t) j).bnd fun j1 => F j1 o1) = ((takP (tkT t) j o').bnd fun y => F y.1 y.2)) := fun F => (tak_bnd (tkT t) j o' F).symm
              have CA := Hid.mk (atBinI B b a c t j o' d wr hlp.out.ps s)
              rw [hat] at CA
              have y2 := Px.c2 hlp.out.ps
              dsimp only at y2
              obtain ⟨kk, hkk⟩ : ∃ k, k = (tkT t j).k := ⟨_, rfl⟩
              rw [← hkk] at y2 e1
              have hk51 : kk ≤ 51 := by rw [hkk]; exact tk_le t j
              obtain ⟨KV, hKV⟩ : ∃ z, z = (kk : Int) - 8 := ⟨_, rfl⟩
              have e9 : IntKind.i64.wrap ((kk : Int) - 8) = KV := by rw [IntKind.wrap_i64]; omega
              have HKV := Hid.mk hKV
              have k3 : ((s : Int) == 3) = false := by simp; omega
              have HS3 := Hid.mk hs3
              clear hkk hKV hat hs3
              go_wp2_with fail
              refine CA.out.mono ?_
              rintro e wq ⟨rfl, hbq⟩
              have LQ := Hid.mk (hlp.out.below hbq)
              have z2 := cell_keep hbq y2
              have hqs : w.heap.size ≤ wq.heap.size := LQ.out.gb.size
              obtain ⟨W2, hW2⟩ : ∃ W, W = wq.alloc (.cells #[.int .i64 9, .int .i64 KV, .string ⟨#[]⟩] 82) := ⟨_, rfl⟩
              have A2 : Hid (Below wq.heap.size wq W2) := by rw [hW2]; exact below_alloc' (Below.refl _ _) _
              have O2 : Hid (W2.heap[wq.heap.size]? = some (.cells #[.int .i64 9, .int .i64 KV, .string ⟨#[]⟩] 82)) := by rw [hW2]; exact blk_new _ _
              have L2 := Hid.mk (LQ.out.below A2.out)
              have G2 := Hid.mk L2.out.gb
              clear hbq y2 LQ
              go_wp2_with fail
              rw [← hW2]
              clear hW2 z2
              refine (takeOpI B b a c t j o' d W2 L2.out.ps L2.out.ho).mono ?_
              rintro e w3 ⟨p, g⟩
              cases hr3 : takP (tkT t) j o' with
              | out => rw [hr3] at p; exact p.elim
              | bad cc aa =>
                have HR3 := Hid.mk hr3
                rw [hr3] at p; have p : e = .panicked (flV cc aa) := p; subst p
                exact ⟨rfl, (by simp only [HR1.out, HRL.out, hlo.out.symm, e1.out, EQ.out, HR3.out, bnd_ok, bnd_bad]; exact rfl), gb_then (G2.out) g⟩
              | ok x3 =>
                have HR3 := Hid.mk hr3
                rw [hr3] at p
                obtain ⟨rfl, p3⟩ := p
                have P3 := Hid.mk p3
                have GG3 := Hid.mk g
                have G3 := Hid.mk (gb_then (G2.out) g)
                clear p3 g hr3
                have hx3 := tak_le HR3.out L2.out.ho
                have L3 := Hid.mk (L2.out.grow hlt GG3.out P3.out hx3)
                have O3 := Hid.mk (blk_grown' O2.out GG3.out (by omega))
                have HSS : Hid ((fun w' => w'.cell? ⟨wq.heap.size, 0, none⟩ = some (.int .i64 9) ∧ w'.cell? ⟨wq.heap.size, 1, none⟩ = some (.int .i64 KV) ∧ w'.cell? ⟨wq.heap.size, 2, none⟩ = some (.string ⟨#[]⟩)) w3) := ⟨(blk_cell O3.out 0).trans rfl, (blk_cell O3.out 1).trans rfl, (blk_cell O3.out 2).trans rfl⟩
                have D3 : Hid (Below w3.heap.size w3 w3.drew) := (Below.refl _ _).drew
                have L4 := Hid.mk (L3.out.below D3.out)
                have hn5 : ex (tkT t) gk (s + 1) x3.1 x3.2 d ≠ .out := fun e => hRn.out (by rw [← hlo.out, e1.out, EQ.out, HR3.out, bnd_ok, e]; rfl)
                have CE := Hid.mk ((HC.out gk (by omega)).ex (s + 1) x3.1 x3.2 d w3.drew (by omega) (by omega) L4.out.ps hx3 hd hn5)
                have es : IntKind.i64.wrap ((s : Int) + 1) = ((s + 1 : Nat) : Int) := by rw [IntKind.wrap_i64]; omega
                have HSC : Hid (w.heap.size ≤ w3.drew.heap.size) := L4.out.gb.size
                go_upto_region 7 with fail
                refine wp_region_held_drew (S := (fun w' => w'.cell? ⟨wq.heap.size, 0, none⟩ = some (.int .i64 9) ∧ w'.cell? ⟨wq.heap.size, 1, none⟩ = some (.int .i64 KV) ∧ w'.cell? ⟨wq.heap.size, 2, none⟩ = some (.string ⟨#[]⟩))) (by kernel_rfl) ?_ (fun hHeld => ?_)
                · exact HSS.out
                refine wpAnyH_take (i := 0) (v := ?_) rfl (by kernel_rfl) (by kernel_rfl) (by kernel_rfl) (fun _ _ _ h => h) (Or.inl ⟨by rfl, ?_⟩) (by assumption) ?_
                rotate_left
                · intro w hSw; (try dsimp only at hSw); go_simp; (try with_reducible rfl)
                rotate_left
                simp only [Act.put, List.setIfInBounds_toArray, List.set_cons_zero, List.set_cons_succ, List.getElem_toArray, List.getElem_cons_zero, List.getElem_cons_succ]
                refine wpAnyH_take (i := 1) (v := ?_) rfl (by kernel_rfl) (by kernel_rfl) (by kernel_rfl) (fun _ _ _ h => h) (Or.inl ⟨by rfl, ?_⟩) (by assumption) ?_
                rotate_left
                · intro w hSw; (try dsimp only at hSw); go_simp; (try with_reducible rfl)
                rotate_left
                simp only [Act.put, List.setIfInBounds_toArray, List.set_cons_zero, List.set_cons_succ, List.getElem_toArray, List.getElem_cons_zero, List.getElem_cons_succ]
                refine wpAnyH_take (i := 2) (v := ?_) rfl (by kernel_rfl) (by kernel_rfl) (by kernel_rfl) (fun _ _ _ h => h) (Or.inl ⟨by rfl, ?_⟩) (by assumption) ?_
                rotate_left
                · intro w hSw; (try dsimp only at hSw); go_simp; (try with_reducible rfl)
                rotate_left
                simp only [Act.put, List.setIfInBounds_toArray, List.set_cons_zero, List.set_cons_succ, List.getElem_toArray, List.getElem_cons_zero, List.getElem_cons_succ]
                refine wpAnyH_take (i := 3) (v := ?_) rfl (by kernel_rfl) (by kernel_rfl) (by kernel_rfl) (fun _ _ _ h => h) (Or.inl ⟨by rfl, ?_⟩) (by assumption) ?_
                rotate_left
                · intro w hSw; (try dsimp only at hSw); go_simp; (try with_reducible rfl)
                rotate_left
                simp only [Act.put, List.setIfInBounds_toArray, List.set_cons_zero, List.set_cons_succ, List.getElem_toArray, List.getElem_cons_zero, List.getElem_cons_succ]
                refine wpAnyH_take (i := 4) (v := ?_) rfl (by kernel_rfl) (by kernel_rfl) (by kernel_rfl) (fun _ _ _ h => h) (Or.inl ⟨by rfl, ?_⟩) (by assumption) ?_
                rotate_left
                · intro w hSw; (try dsimp only at hSw); go_simp; (try with_reducible rfl)
                rotate_left
                simp only [Act.put, List.setIfInBounds_toArray, List.set_cons_zero, List.set_cons_succ, List.getElem_toArray, List.getElem_cons_zero, List.getElem_cons_succ]
                refine wpAnyH_ready (rs := [5]) (by kernel_rfl) (by simp) ?_
                refine AllReadyH.cons rfl (fun K hK => ?_) ?_
                · go_simp
                  refine CE.out.mono ?_
                  rintro e w5 ⟨p, g⟩
                  cases hr5 : ex (tkT t) gk (s + 1) x3.1 x3.2 d with
                  | out => exact absurd hr5 hn5
                  | bad cc aa =>
                    have HR5 := Hid.mk hr5
                    rw [hr5] at p; have p : e = .panicked (flV cc aa) := p; subst p
                    exact ⟨rfl, (by simp only [HR1.out, HRL.out, hlo.out.symm, e1.out, EQ.out, HR3.out, HR5.out, bnd_ok, bnd_bad]; exact rfl), gb_then L4.out.gb g⟩
                  | ok x5 =>
                    have HR5 := Hid.mk hr5
                    rw [hr5] at p
                    obtain ⟨v5, rfl, q5, p5, hx5⟩ := p
                    obtain ⟨T5, u5, rfl⟩ := q5.form
                    have L5 : Hid (Lp B b a c t w d (.iface 118 (.agg #[.int .i64 9, .int .i64 KV, .string ⟨#[]⟩, .iface T0 u0, .iface T5 u5])) (.bin (bo kk) L x5.1) x5.2.1 x5.2.2 w5) := ⟨by rw [HKV.out]; exact .bin (bo kk) _ _ _ _ (L4.out.nq.keep (kn_grown g hlt)) (q5.mono (fun x _ hh => Nat.le_trans HSC.out hh)), p5, gb_then L4.out.gb g, hx5⟩
                    have HS5 : Hid ((fun w' => w'.cell? ⟨wq.heap.size, 0, none⟩ = some (.int .i64 9) ∧ w'.cell? ⟨wq.heap.size, 1, none⟩ = some (.int .i64 KV) ∧ w'.cell? ⟨wq.heap.size, 2, none⟩ = some (.string ⟨#[]⟩)) w5) := ⟨(blk_cell (blk_grown' (blk_below O3.out D3.out) g (by omega)) 0).trans rfl, (blk_cell (blk_grown' (blk_below O3.out D3.out) g (by omega)) 1).trans rfl, (blk_cell (blk_grown' (blk_below O3.out D3.out) g (by omega)) 2).trans rfl⟩
                    clear q5 p5 g hr5
                    refine hK.out _ _ ?_ (fun hHeld => ?_)
                    · exact HS5.out
                    clear hK K
                    (try simp only [Act.put, List.setIfInBounds_toArray, List.set_cons_zero, List.set_cons_succ, List.getElem_toArray, List.getElem_cons_zero, List.getElem_cons_succ])
                    refine wpAnyH_take (i := 6) (v := ?_) rfl (by kernel_rfl) (by kernel_rfl) (by kernel_rfl) (fun _ _ _ h => h) (Or.inl ⟨by rfl, ?_⟩) (by assumption) ?_
                    rotate_left
                    · intro w hSw; (try dsimp only at hSw); go_simp; (try with_reducible rfl)
                    rotate_left
                    simp only [Act.put, List.setIfInBounds_toArray, List.set_cons_zero, List.set_cons_succ, List.getElem_toArray, List.getElem_cons_zero, List.getElem_cons_succ]
                    refine wpAnyH_take (i := 7) (v := ?_) rfl (by kernel_rfl) (by kernel_rfl) (by kernel_rfl) (fun _ _ _ h => h) (Or.inl ⟨by rfl, ?_⟩) (by assumption) ?_
                    rotate_left
                    · intro w hSw; (try dsimp only at hSw); go_simp; (try with_reducible rfl)
                    rotate_left
                    simp only [Act.put, List.setIfInBounds_toArray, List.set_cons_zero, List.set_cons_succ, List.getElem_toArray, List.getElem_cons_zero, List.getElem_cons_succ]
                    refine wpAnyH_take (i := 8) (v := ?_) rfl (by kernel_rfl) (by kernel_rfl) (by kernel_rfl) (fun _ _ _ h => h) (Or.inl ⟨by rfl, ?_⟩) (by assumption) ?_
                    rotate_left
                    · intro w hSw; (try dsimp only at hSw); go_simp; (try with_reducible rfl)
                    rotate_left
                    simp only [Act.put, List.setIfInBounds_toArray, List.set_cons_zero, List.set_cons_succ, List.getElem_toArray, List.getElem_cons_zero, List.getElem_cons_succ]
                    refine wpAnyH_done (by kernel_rfl) ?_ _
                    have hlo' : Hid (lp (tkT t) gk s (.bin (bo kk) L x5.1) x5.2.1 x5.2.2 d = RL) := by unfold Hid; rw [← hlo.out, e1.out, EQ.out, HR3.out, bnd_ok, HR5.out, bnd_ok]
                    go_wp2_with fail
                    go_roundg gk
                    case measure => omega
                    case rel => exact ⟨.bin (bo kk) L x5.1, x5.2.1, x5.2.2, by omega, ⟨_, _, rfl⟩, L5, hlo'⟩
                exact AllReadyH.nil
          | false =>
            have CA := Hid.mk (atBinI B b a c t j o' d wr hlp.out.ps s)
            rw [hat] at CA
            have hR : Hid (RL = .ok (L, j, o')) := by
              have h1 := hlo.out
              rw [lp, if_neg (by rw [hat]; simp)] at h1
              exact h1.symm
            clear hat
            go_wp2_with fail
            refine CA.out.mono ?_
            rintro e wq ⟨rfl, hbq⟩
            have LQ := Hid.mk (hlp.out.below hbq)
            clear hbq
            have HQ : Hid (EP B b a c t w d (L, j, o') (.returned (.iface T0 u0)) wq) := ⟨_, rfl, LQ.out.nq, LQ.out.ps, LQ.out.ho⟩
            go_wp2
            go_ret
            exact ⟨(by simp only [HR1.out, HRL.out, hR.out, bnd_ok]; exact HQ.out), LQ.out.gb⟩

theorem allC (B b : Nat) (a : Option Addr) (c : Nat) (t : List UInt8) : ∀ f, ∀ f', f' ≤ f → Cs B b a c t f'
  | 0, f', hf => by
    obtain rfl : f' = 0 := by omega
    exact ⟨fun s i o d w _ _ _ _ _ hn => absurd (by rw [ex]) hn, fun i o d w _ _ _ hn => absurd (by rw [un]) hn, fun i o d w _ _ _ hn => absurd (by rw [pr]) hn, fun m i o d w _ _ _ _ _ hn => absurd (by rw [og]) hn⟩
  | f + 1, f', hf => by
    have ih := allC B b a c t f
    by_cases h : f' ≤ f
    · exact ih f' h
    · obtain rfl : f' = f + 1 := by omega
      exact ⟨fun s i o d w h1 h6 h ho hd hn => exC B b a c t f ih s i o d w h1 h6 h ho hd hn, fun i o d w h ho hd hn => unC B b a c t f (ih f (Nat.le_refl _)) i o d w h ho hd hn, fun i o d w h ho hd hn => prC B b a c t f (ih f (Nat.le_refl _)) i o d w h ho hd hn, fun m i o d w h1 h3 h ho hd hn => ogC B b a c t f ih m i o d w h1 h3 h ho hd hn⟩
end Go.Proofs.YtfoigigbggickaaDoor.Par
