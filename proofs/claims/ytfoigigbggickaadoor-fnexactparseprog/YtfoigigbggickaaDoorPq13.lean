import Derived.Test.YtfoigigbggickaaDoorPq12
namespace Go.Proofs.YtfoigigbggickaaDoor.Par
open Go Go.RowKit Go.Proofs.YtfoigigbggickaaDoor.Mem Go.Proofs.YtfoigigbggickaaDoor.Syn Go.Proofs.YtfoigigbggickaaDoor.Parse
set_option linter.unusedVariables false
set_option linter.unusedSimpArgs false
attribute [local go_sem ↓] Go.wp_at_zero Go.wp_at_succ

theorem ol_len (T : Nat → Tk) : ∀ (f m : Nat) (L : List Tr) (i o d : Nat) (x : List Tr × Nat × Nat), ol T f m L i o d = .ok x → x.1.length = L.length + m
  | 0, m, L, i, o, d, x, h => by rw [ol] at h; cases h
  | f + 1, 0, L, i, o, d, x, h => by rw [ol] at h; injection h with h; rw [← h]; rfl
  | f + 1, m + 1, L, i, o, d, x, h => by
    rw [ol] at h
    cases h1 : exp T 4 i with
    | out => rw [h1] at h; cases h
    | bad c a => rw [h1] at h; cases h
    | ok j =>
      rw [h1, bnd_ok] at h
      cases h2 : ex T f 1 j o d with
      | out => rw [h2] at h; cases h
      | bad c a => rw [h2] at h; cases h
      | ok y =>
        rw [h2, bnd_ok] at h
        have := ol_len T f m _ _ _ _ _ h
        rw [this, List.length_append]
        simp
        omega
theorem og_len {T : Nat → Tk} {f m i o d : Nat} {x : List Tr × Nat × Nat} (h : og T f m i o d = .ok x) (hm : 1 ≤ m) : x.1.length = m := by
  cases f with
  | zero => rw [og] at h; cases h
  | succ f =>
    rw [og] at h
    split at h
    · cases h1 : opn' T i d with
      | out => rw [h1] at h; cases h
      | bad c a => rw [h1] at h; cases h
      | ok u =>
        rw [h1, bnd_ok] at h
        cases h2 : adv T i with
        | out => rw [h2] at h; cases h
        | bad c a => rw [h2] at h; cases h
        | ok j =>
          rw [h2, bnd_ok] at h
          cases h3 : ex T f 1 j o (d + 1) with
          | out => rw [h3] at h; cases h
          | bad c a => rw [h3] at h; cases h
          | ok y =>
            rw [h3, bnd_ok] at h
            cases h4 : ol T f (m - 1) [y.1] y.2.1 y.2.2 (d + 1) with
            | out => rw [h4] at h; cases h
            | bad c a => rw [h4] at h; cases h
            | ok z =>
              rw [h4, bnd_ok] at h
              cases h5 : exp T 6 z.2.1 with
              | out => rw [h5] at h; cases h
              | bad c a => rw [h5] at h; cases h
              | ok k =>
                rw [h5, bnd_ok] at h
                injection h with h
                rw [← h]
                have := ol_len T f _ _ _ _ _ _ h4
                simp at this ⊢
                omega
    · cases h
/-- A call's node. -/
theorem nq_call {w : World} {ok : Nat → Prop} {g cap v : Nat} {vs : List Value} {L : List Tr} (h : Nqs w ok vs L) (hg : ok g) (hk : Nk w g) (hc : ∀ j u, vs[j]? = some u → w.cell? ⟨g, j, none⟩ = some u) (hl : L.length = 2 ∨ L.length = 3) :
    Nq w ok (.iface 121 (.agg #[.int .i64 10, .int .i64 (v : Int), .string ⟨#[]⟩, .slice (some ⟨g, 0, none⟩) L.length cap])) (callT v L) := by
  cases h with
  | nil => simp at hl
  | cons v1 t1 vs ts h1 hs =>
    cases hs with
    | nil => simp at hl
    | cons v2 t2 vs ts h2 hs =>
      cases hs with
      | nil => exact .two ⟨10, v, []⟩ g cap v1 v2 t1 t2 hg hk (hc 0 v1 rfl) (hc 1 v2 rfl) h1 h2
      | cons v3 t3 vs ts h3 hs =>
        cases hs with
        | nil => exact .three ⟨10, v, []⟩ g cap v1 v2 v3 t1 t2 t3 hg hk (hc 0 v1 rfl) (hc 1 v2 rfl) (hc 2 v3 rfl) h1 h2 h3
        | cons v4 t4 vs ts h4 hs => simp at hl

set_option maxHeartbeats 3200000 in
set_option maxRecDepth 1000000 in
theorem callC (B b : Nat) (a : Option Addr) (c : Nat) (t : List UInt8) (f : Nat) (H : Cs B b a c t f) (v M i o d : Nat) (w : World) (hv : v ≤ 2) (hM1 : cop (v : Int) = (M : Int)) (hM2 : M = 2 ∨ M = 3) (h : PS B b a c t i o d w) (ho : o ≤ 2000) (hd : d ≤ 64) (hn : ((takP (tkT t) i o).bnd fun y => (og (tkT t) f M y.1 y.2 d).bnd fun x => .ok (callT v x.1, x.2.1, x.2.2)) ≠ .out) :
    Calls Tryd.prog 87 #[.pointer (some ⟨b, 0, none⟩), .int .i64 (v : Int)] w fun e w' => Res ((takP (tkT t) i o).bnd fun y => (og (tkT t) f M y.1 y.2 d).bnd fun x => .ok (callT v x.1, x.2.1, x.2.2)) (EP B b a c t w d) e w' ∧ w.grownBy w' (some b) := by
  have HC := Hid.mk H
  have hlt := Px.lt h
  have P0 := Hid.mk h
  have HN := Hid.mk hn
  clear H h hn
  go_enter Tryd.func87, Tryd.ntmps87
  go_wp2_with fail
  refine (takeOpI B b a c t i o d w P0.out ho).mono ?_
  rintro e w1 ⟨p, g⟩
  cases hr1 : takP (tkT t) i o with
  | out => rw [hr1] at p; exact p.elim
  | bad cc aa =>
    have HR1 := Hid.mk hr1
    rw [hr1] at p; have p : e = .panicked (flV cc aa) := p; subst p
    exact ⟨rfl, (by simp only [HR1.out, bnd_ok, bnd_bad]; exact rfl), gb_then (World.grownBy.refl _ _) g⟩
  | ok x1 =>
    have HR1 := Hid.mk hr1
    rw [hr1] at p
    obtain ⟨rfl, p1⟩ := p
    have P1 := Hid.mk p1
    have GG1 := Hid.mk g
    have G1 := Hid.mk (gb_then (World.grownBy.refl _ _) g)
    clear p1 g hr1
    have hx1 := tak_le HR1.out ho
    have hn2 : og (tkT t) f M x1.1 x1.2 d ≠ .out := fun e => HN.out (by simp only [HR1.out, bnd_ok, e]; rfl)
    go_wp2_with fail
    refine (callOpsI (v : Int) _).mono ?_
    rintro e w' ⟨rfl, rfl⟩
    rw [hM1]
    go_wp2_with fail
    refine (HC.out.og M x1.1 x1.2 d _ (by omega) (by omega) P1.out hx1 hd hn2).mono ?_
    rintro e w2 ⟨p, g⟩
    cases hr2 : og (tkT t) f M x1.1 x1.2 d with
    | out => rw [hr2] at p; exact p.elim
    | bad cc aa =>
      have HR2 := Hid.mk hr2
      rw [hr2] at p; have p : e = .panicked (flV cc aa) := p; subst p
      exact ⟨rfl, (by simp only [HR1.out, HR2.out, bnd_ok, bnd_bad]; exact rfl), gb_then (G1.out) g⟩
    | ok x2 =>
      have HR2 := Hid.mk hr2
      rw [hr2] at p
      obtain ⟨g3, cap, vs, rfl, q, hg3, hk3, hc3, hcap, p2, hx⟩ := p
      have P2 := Hid.mk p2
      have GG2 := Hid.mk g
      have G2 := Hid.mk (gb_then (G1.out) g)
      have hlen := og_len hr2 (by omega)
      have Q2 : Hid (Nq w2 (Nw w.heap.size) (.iface 121 (.agg #[.int .i64 10, .int .i64 (v : Int), .string ⟨#[]⟩, .slice (some ⟨g3, 0, none⟩) x2.1.length cap])) (callT v x2.1)) := nq_call (q.mono (fun g _ hh => Nat.le_trans G1.out.size hh)) (Nat.le_trans G1.out.size hg3) hk3 hc3 (by omega)
      clear q hg3 hk3 hc3
      clear p2 g hr2
      have HQ : Hid (EP B b a c t w d (callT v x2.1, x2.2.1, x2.2.2) _ w2) := ⟨_, rfl, Q2.out, P2.out, hx⟩
      obtain ⟨LL, hLL⟩ : ∃ n, n = x2.1.length := ⟨_, rfl⟩
      rw [← hLL] at HQ hcap ⊢
      clear hLL hlen Q2
      go_wp2
      go_ret
      exact ⟨(by simp only [HR1.out, HR2.out, bnd_ok]; exact HQ.out), G2.out⟩

set_option maxHeartbeats 3200000 in
set_option maxRecDepth 1000000 in
theorem prC (B b : Nat) (a : Option Addr) (c : Nat) (t : List UInt8) (f : Nat) (H : Cs B b a c t f) (i o d : Nat) (w : World) (h : PS B b a c t i o d w) (ho : o ≤ 2000) (hd : d ≤ 64) (hn : pr (tkT t) (f + 1) i o d ≠ .out) :
    Calls Tryd.prog 83 #[.pointer (some ⟨b, 0, none⟩)] w fun e w' => Res (pr (tkT t) (f + 1) i o d) (EP B b a c t w d) e w' ∧ w.grownBy w' (some b) := by
  have HC := Hid.mk H
  have hlt := Px.lt h
  have y2 := Px.c2 h
  have y3 := Px.c3 h
  have y4 := Px.c4 h
  have y5 := Px.c5 h
  dsimp only at y2 y3 y4 y5
  have hk51 := tk_le t i
  rw [pr] at hn ⊢
  have P00 := Hid.mk h
  have HWI := Hid.mk (fun w' (hw : PS B b a c t i o d w') => wordOpI B b a c t i o d w' hw)
  have HWP : Hid (wopP (tkT t) i = match wop (tkT t i) with | none => .bad 4 (tkT t i).at' | some p => .ok p) := rfl
  obtain ⟨k, hk⟩ : ∃ k, k = tkT t i := ⟨_, rfl⟩
  rw [← hk] at y2 y3 y4 y5 hn hk51 HWP ⊢
  have HK := Hid.mk hk
  clear H h hk
  obtain ⟨W1, hW1⟩ : ∃ W, W = w.alloc (.cells #[.int .i64 (k.k : Int), .int .i64 (k.at' : Int), .string ⟨k.n.toArray⟩, .int .i64 k.v] 55) := ⟨_, rfl⟩
  have A1 : Hid (Below w.heap.size w W1) := by rw [hW1]; exact below_alloc' (Below.refl _ _) _
  have T1 : Hid (W1.heap[w.heap.size]? = some (.cells #[.int .i64 (k.k : Int), .int .i64 (k.at' : Int), .string ⟨k.n.toArray⟩, .int .i64 k.v] 55)) := by rw [hW1]; exact blk_new _ _
  have P0 : Hid (PS B b a c t i o d W1) := Px.below P00.out A1.out
  have G0 : Hid (w.grownBy W1 (some b)) := gb_below A1.out
  have hs1 : w.heap.size ≤ W1.heap.size := A1.out.size
  by_cases h5 : k.k = 5
  · rw [if_pos h5] at hn ⊢
    have k1 : ((k.k : Int) == 5) = true := by simp; omega
    have HN := Hid.mk hn
    clear hn h5
    go_enter Tryd.func83, Tryd.ntmps83
    go_wp2_with fail
    rw [← hW1]
    clear hW1
    have hn1 : og (tkT t) f 1 i o d ≠ .out := fun e => HN.out (by simp only [e]; rfl)
    refine (HC.out.og 1 i o d W1 (by omega) (by omega) P0.out ho hd hn1).mono ?_
    rintro e w1 ⟨p, g⟩
    cases hr1 : og (tkT t) f 1 i o d with
    | out => rw [hr1] at p; exact p.elim
    | bad cc aa =>
      have HR1 := Hid.mk hr1
      rw [hr1] at p; have p : e = .panicked (flV cc aa) := p; subst p
      exact ⟨rfl, (by simp only [HR1.out, bnd_ok, bnd_bad]; exact rfl), gb_then (G0.out) g⟩
    | ok x1 =>
      have HR1 := Hid.mk hr1
      rw [hr1] at p
      obtain ⟨g3, cap, vs, rfl, q, hg3, hk3, hc3, hcap, p1, hx⟩ := p
      have P1 := Hid.mk p1
      have GG1 := Hid.mk g
      have G1 := Hid.mk (gb_then (G0.out) g)
      have hlen := og_len hr1 (by omega)
      clear p1 g hr1
      obtain ⟨u, v, hu, hv, hq, hcu⟩ : ∃ u v, x1.1 = [u] ∧ vs = [v] ∧ Nq w1 (Nw W1.heap.size) v u ∧ w1.cell? ⟨g3, 0, none⟩ = some v := by
        obtain ⟨L, jj, oo⟩ := x1
        dsimp only at hlen q ⊢
        cases q with
        | nil => simp at hlen
        | cons v t vs ts hq hs =>
          cases hs with
          | nil => exact ⟨t, v, rfl, rfl, hq, hc3 0 v rfl⟩
          | cons _ _ _ _ _ _ => simp at hlen
      have HQ : Hid (EP B b a c t w d (x1.1.headD (.leaf ⟨0, 0, []⟩), x1.2.1, x1.2.2) (.returned v) w1) := ⟨v, rfl, by rw [hu]; exact hq.mono (fun g _ hh => Nat.le_trans hs1 hh), P1.out, hx⟩
      rw [hlen]
      clear q hg3 hk3 hc3 hu hv hq y2 y3 y4 y5 hlen hcap
      go_wp2
      go_ret
      exact ⟨(by simp only [HR1.out, bnd_ok]; exact HQ.out), G1.out⟩
  rw [if_neg h5] at hn ⊢
  have k1 : ((k.k : Int) == 5) = false := by simp; omega
  have CM := Hid.mk (amongI k 25 27 W1)
  unfold tkV at CM
  by_cases hc : 25 ≤ k.k ∧ k.k ≤ 27
  · rw [if_pos hc] at hn ⊢
    rw [show (decide (25 ≤ k.k) && decide (k.k ≤ 27)) = true by simp; omega] at CM
    obtain ⟨v, hv⟩ : ∃ v : Nat, v = k.k - 25 := ⟨_, rfl⟩
    have e9 : IntKind.i64.wrap ((k.k : Int) - 25) = (v : Int) := by rw [IntKind.wrap_i64]; omega
    have hv2 : v ≤ 2 := by omega
    obtain ⟨M, hM⟩ : ∃ M, M = if k.k = 27 then 3 else 2 := ⟨_, rfl⟩
    have hM1 : cop (v : Int) = (M : Int) := by
      unfold cop
      rw [hM]
      by_cases e : k.k = 27
      · rw [if_pos e, if_pos (by omega)]; rfl
      · rw [if_neg e, if_neg (by omega)]; rfl
    have hM2 : M = 2 ∨ M = 3 := by rw [hM]; by_cases e : k.k = 27 <;> simp [e]
    rw [← hM] at hn ⊢
    clear hM
    have hR : ((cnt (tkT t) i o).bnd fun o1 => (adv (tkT t) i).bnd fun j => (og (tkT t) f M j o1 d).bnd fun x => (.ok (callT (k.k - 25) x.1, x.2.1, x.2.2) : Rs (Tr × Nat × Nat))) = (takP (tkT t) i o).bnd fun y => (og (tkT t) f M y.1 y.2 d).bnd fun x => .ok (callT v x.1, x.2.1, x.2.2) := by
      rw [tak_bnd (tkT t) i o (fun j o1 => (og (tkT t) f M j o1 d).bnd fun x => .ok (callT v x.1, x.2.1, x.2.2)), ← hv]
    rw [hR] at hn ⊢
    have HN := Hid.mk hn
    clear hn h5 hc hv hR
    go_enter Tryd.func83, Tryd.ntmps83
    go_wp2_with fail
    rw [← hW1]
    clear hW1
    refine CM.out.mono ?_
    rintro e w0 ⟨rfl, hb0⟩
    have t0 := (blk_cell (blk_below T1.out hb0) 0).trans rfl
    have PP0 := Hid.mk (Px.below P0.out hb0)
    have GG0 := Hid.mk (gb_then G0.out (gb_below hb0))
    have hs0 : w.heap.size ≤ w0.heap.size := Nat.le_trans hs1 hb0.size
    clear hb0 y2 y3 y4 y5
    go_wp2_with fail
    refine (callC B b a c t f HC.out v M i o d w0 hv2 hM1 hM2 PP0.out ho hd HN.out).mono ?_
    rintro e w1 ⟨p, g⟩
    cases hr1 : (takP (tkT t) i o).bnd fun y => (og (tkT t) f M y.1 y.2 d).bnd fun x => (.ok (callT v x.1, x.2.1, x.2.2) : Rs (Tr × Nat × Nat)) with
    | out => rw [hr1] at p; exact p.elim
    | bad cc aa =>
      have HR1 := Hid.mk hr1
      rw [hr1] at p; have p : e = .panicked (flV cc aa) := p; subst p
      exact ⟨rfl, (by simp only [HR1.out, bnd_ok, bnd_bad]; exact rfl), gb_then (GG0.out) g⟩
    | ok x1 =>
      have HR1 := Hid.mk hr1
      rw [hr1] at p
      obtain ⟨v1, rfl, q, p1, hx⟩ := p
      have P1 := Hid.mk p1
      have GG1 := Hid.mk g
      have G1 := Hid.mk (gb_then (GG0.out) g)
      have HQ : Hid (EP B b a c t w d x1 (.returned v1) w1) := ⟨v1, rfl, q.mono (fun g _ hh => Nat.le_trans hs0 hh), p1, hx⟩
      clear q hx
      clear p1 g hr1
      go_wp2
      go_ret
      exact ⟨(by rw [HR1.out]; exact HQ.out), G1.out⟩
  rw [if_neg hc] at hn ⊢
  rw [show (decide (25 ≤ k.k) && decide (k.k ≤ 27)) = false by simp; omega] at CM
  by_cases hh : k.k = 48 ∨ k.k = 49
  · rw [if_pos hh] at hn ⊢
    rcases hh with hh | hh
    · have HN := Hid.mk hn
      have k4 : ((k.k : Int) == 48) = true := by simp; omega
      have hkk : Hid ((k.k : Int) - 44 = 4) := by unfold Hid; omega
      clear hn h5 hc hh
      go_enter Tryd.func83, Tryd.ntmps83
      go_wp2_with fail
      rw [← hW1]
      clear hW1
      refine CM.out.mono ?_
      rintro e w0 ⟨rfl, hb0⟩
      have t0 := (blk_cell (blk_below T1.out hb0) 0).trans rfl
      have PP0 := Hid.mk (Px.below P0.out hb0)
      have GG0 := Hid.mk (gb_then G0.out (gb_below hb0))
      clear hb0 y2 y3 y4 y5
      have EQ : Hid (∀ F : Nat → Nat → Rs (Tr × Nat × Nat), ((cnt (tkT t) i o).bnd fun o1 => (adv (tkT t) i).bnd fun j => F j o1) = ((takP (tkT t) i o).bnd fun y => F y.1 y.2)) := fun F => (tak_bnd (tkT t) i o F).symm
      go_wp2_with fail
      refine (takeOpI B b a c t i o d w0 PP0.out ho).mono ?_
      rintro e w1 ⟨p, g⟩
      cases hr1 : takP (tkT t) i o with
      | out => rw [hr1] at p; exact p.elim
      | bad cc aa =>
        have HR1 := Hid.mk hr1
        rw [hr1] at p; have p : e = .panicked (flV cc aa) := p; subst p
        exact ⟨rfl, (by simp only [EQ.out, HR1.out, bnd_ok, bnd_bad]; exact rfl), gb_then (GG0.out) g⟩
      | ok x1 =>
        have HR1 := Hid.mk hr1
        rw [hr1] at p
        obtain ⟨rfl, p1⟩ := p
        have P1 := Hid.mk p1
        have GG1 := Hid.mk g
        have G1 := Hid.mk (gb_then (GG0.out) g)
        clear p1 g hr1
        have hx1 := tak_le HR1.out ho
        go_wp2_with fail
        refine (tagI B b a c t x1.1 x1.2 d _ P1.out).mono ?_
        rintro e w2 ⟨p, g⟩
        cases hr2 : tagP (tkT t) x1.1 with
        | out => rw [hr2] at p; exact p.elim
        | bad cc aa =>
          have HR2 := Hid.mk hr2
          rw [hr2] at p; have p : e = .panicked (flV cc aa) := p; subst p
          exact ⟨rfl, (by simp only [EQ.out, HR1.out, HR2.out, bnd_ok, bnd_bad]; exact rfl), gb_then (G1.out) g⟩
        | ok x2 =>
          have HR2 := Hid.mk hr2
          rw [hr2] at p
          obtain ⟨rfl, p2⟩ := p
          have P2 := Hid.mk p2
          have GG2 := Hid.mk g
          have G2 := Hid.mk (gb_then (G1.out) g)
          clear p2 g hr2
          have HQ : Hid (EP B b a c t w d (.leaf ⟨4, x2.1, []⟩, x2.2, x1.2) (.returned (.iface 123 (.agg #[.int .i64 4, .int .i64 x2.1, .string ⟨#[]⟩]))) w2) := ⟨_, rfl, .leaf ⟨4, x2.1, []⟩, P2.out, hx1⟩
          go_wp2
          go_ret
          exact ⟨(by simp only [EQ.out, HR1.out, HR2.out, bnd_ok, hkk.out]; exact HQ.out), G2.out⟩
    · have HN := Hid.mk hn
      have k3 : ((k.k : Int) == 48) = false := by simp; omega
      have k4 : ((k.k : Int) == 49) = true := by simp; omega
      have hkk : Hid ((k.k : Int) - 44 = 5) := by unfold Hid; omega
      clear hn h5 hc hh
      go_enter Tryd.func83, Tryd.ntmps83
      go_wp2_with fail
      rw [← hW1]
      clear hW1
      refine CM.out.mono ?_
      rintro e w0 ⟨rfl, hb0⟩
      have t0 := (blk_cell (blk_below T1.out hb0) 0).trans rfl
      have PP0 := Hid.mk (Px.below P0.out hb0)
      have GG0 := Hid.mk (gb_then G0.out (gb_below hb0))
      clear hb0 y2 y3 y4 y5
      have EQ : Hid (∀ F : Nat → Nat → Rs (Tr × Nat × Nat), ((cnt (tkT t) i o).bnd fun o1 => (adv (tkT t) i).bnd fun j => F j o1) = ((takP (tkT t) i o).bnd fun y => F y.1 y.2)) := fun F => (tak_bnd (tkT t) i o F).symm
      go_wp2_with fail
      refine (takeOpI B b a c t i o d w0 PP0.out ho).mono ?_
      rintro e w1 ⟨p, g⟩
      cases hr1 : takP (tkT t) i o with
      | out => rw [hr1] at p; exact p.elim
      | bad cc aa =>
        have HR1 := Hid.mk hr1
        rw [hr1] at p; have p : e = .panicked (flV cc aa) := p; subst p
        exact ⟨rfl, (by simp only [EQ.out, HR1.out, bnd_ok, bnd_bad]; exact rfl), gb_then (GG0.out) g⟩
      | ok x1 =>
        have HR1 := Hid.mk hr1
        rw [hr1] at p
        obtain ⟨rfl, p1⟩ := p
        have P1 := Hid.mk p1
        have GG1 := Hid.mk g
        have G1 := Hid.mk (gb_then (GG0.out) g)
        clear p1 g hr1
        have hx1 := tak_le HR1.out ho
        go_wp2_with fail
        refine (tagI B b a c t x1.1 x1.2 d _ P1.out).mono ?_
        rintro e w2 ⟨p, g⟩
        cases hr2 : tagP (tkT t) x1.1 with
        | out => rw [hr2] at p; exact p.elim
        | bad cc aa =>
          have HR2 := Hid.mk hr2
          rw [hr2] at p; have p : e = .panicked (flV cc aa) := p; subst p
          exact ⟨rfl, (by simp only [EQ.out, HR1.out, HR2.out, bnd_ok, bnd_bad]; exact rfl), gb_then (G1.out) g⟩
        | ok x2 =>
          have HR2 := Hid.mk hr2
          rw [hr2] at p
          obtain ⟨rfl, p2⟩ := p
          have P2 := Hid.mk p2
          have GG2 := Hid.mk g
          have G2 := Hid.mk (gb_then (G1.out) g)
          clear p2 g hr2
          have HQ : Hid (EP B b a c t w d (.leaf ⟨5, x2.1, []⟩, x2.2, x1.2) (.returned (.iface 123 (.agg #[.int .i64 5, .int .i64 x2.1, .string ⟨#[]⟩]))) w2) := ⟨_, rfl, .leaf ⟨5, x2.1, []⟩, P2.out, hx1⟩
          go_wp2
          go_ret
          exact ⟨(by simp only [EQ.out, HR1.out, HR2.out, bnd_ok, hkk.out]; exact HQ.out), G2.out⟩
  rw [if_neg hh] at hn ⊢
  have k3 : ((k.k : Int) == 48) = false := by simp; omega
  have k4 : ((k.k : Int) == 49) = false := by simp; omega
  obtain ⟨rw0, hrw0⟩ : ∃ r, r = wop k := ⟨_, rfl⟩
  rw [← hrw0] at hn HWP ⊢
  clear hn h5 hc hh hrw0
  go_enter Tryd.func83, Tryd.ntmps83
  go_wp2_with fail
  rw [← hW1]
  clear hW1
  refine CM.out.mono ?_
  rintro e w0 ⟨rfl, hb0⟩
  have t0 := (blk_cell (blk_below T1.out hb0) 0).trans rfl
  have PP0 := Hid.mk (Px.below P0.out hb0)
  have GG0 := Hid.mk (gb_then G0.out (gb_below hb0))
  have hs0 : w.heap.size ≤ w0.heap.size := Nat.le_trans hs1 hb0.size
  clear hb0 y2 y3 y4 y5
  go_wp2_with fail
  refine (HWI.out w0 PP0.out).mono ?_
  rintro e w1 ⟨p, hb1⟩
  cases rw0 with
  | none =>
    have hp : e = .panicked (flV 4 k.at') := by rw [HWP.out] at p; exact p
    subst hp
    exact ⟨rfl, rfl, gb_then GG0.out (gb_below hb1)⟩
  | some pp =>
    have hp : e = .returned (opV pp) := by rw [HWP.out] at p; exact p
    subst hp
    clear p
    obtain ⟨W2, hW2⟩ : ∃ W, W = w1.alloc (.cells #[.int .i64 pp.k, .int .i64 pp.v, .string ⟨pp.n.toArray⟩] 82) := ⟨_, rfl⟩
    have A2 : Hid (Below w1.heap.size w1 W2) := by rw [hW2]; exact below_alloc' (Below.refl _ _) _
    have O2 : Hid (W2.heap[w1.heap.size]? = some (.cells #[.int .i64 pp.k, .int .i64 pp.v, .string ⟨pp.n.toArray⟩] 82)) := by rw [hW2]; exact blk_new _ _
    have PP2 : Hid (PS B b a c t i o d W2) := Px.below (Px.below PP0.out hb1) A2.out
    have GG2 := Hid.mk (gb_then (gb_then GG0.out (gb_below hb1)) (gb_below A2.out))
    have hlt1 : b < w1.heap.size := Nat.lt_of_lt_of_le hlt (Nat.le_trans hs0 hb1.size)
    have EQ : Hid (∀ F : Nat → Nat → Rs (Tr × Nat × Nat), ((cnt (tkT t) i o).bnd fun o1 => (adv (tkT t) i).bnd fun j => F j o1) = ((takP (tkT t) i o).bnd fun y => F y.1 y.2)) := fun F => (tak_bnd (tkT t) i o F).symm
    clear hb1
    unfold opV
    go_wp2_with fail
    rw [← hW2]
    clear hW2
    refine (takeOpI B b a c t i o d W2 PP2.out ho).mono ?_
    rintro e w3 ⟨p, g⟩
    cases hr1 : takP (tkT t) i o with
    | out => rw [hr1] at p; exact p.elim
    | bad cc aa =>
      have HR1 := Hid.mk hr1
      rw [hr1] at p; have p : e = .panicked (flV cc aa) := p; subst p
      exact ⟨rfl, (by simp only [EQ.out, HR1.out, bnd_ok, bnd_bad]; exact rfl), gb_then (GG2.out) g⟩
    | ok x1 =>
      have HR1 := Hid.mk hr1
      rw [hr1] at p
      obtain ⟨rfl, p1⟩ := p
      have P1 := Hid.mk p1
      have GG1 := Hid.mk g
      have G1 := Hid.mk (gb_then (GG2.out) g)
      clear p1 g hr1
      have hx1 := tak_le HR1.out ho
      have OB := Hid.mk (blk_grown' O2.out GG1.out (by omega))
      have o0 := (blk_cell OB.out 0).trans rfl
      have o1 := (blk_cell OB.out 1).trans rfl
      have o2 := (blk_cell OB.out 2).trans rfl
      have HQ : Hid (EP B b a c t w d (.leaf pp, x1.1, x1.2) (.returned (.iface 123 (.agg #[.int .i64 pp.k, .int .i64 pp.v, .string ⟨pp.n.toArray⟩]))) w3) := ⟨_, rfl, .leaf pp, P1.out, hx1⟩
      go_wp2
      go_ret
      exact ⟨(by simp only [EQ.out, HR1.out, bnd_ok]; exact HQ.out), G1.out⟩

end Go.Proofs.YtfoigigbggickaaDoor.Par
