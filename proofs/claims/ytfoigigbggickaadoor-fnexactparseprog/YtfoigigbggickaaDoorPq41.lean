import Derived.Test.YtfoigigbggickaaDoorPq40
namespace Go.Proofs.YtfoigigbggickaaDoor.Par
open Go Go.RowKit Go.Proofs.YtfoigigbggickaaDoor.Mem Go.Proofs.YtfoigigbggickaaDoor.Syn Go.Proofs.YtfoigigbggickaaDoor.Parse
set_option linter.unusedVariables false
set_option linter.unusedSimpArgs false
attribute [local go_sem ↓] Go.wp_at_zero Go.wp_at_succ

theorem infoI : (Tryd.prog.info? 45).map (fun i => (i.zero, i.size, i.bytes)) = some (some (.agg #[.int .i64 0, .string ⟨#[]⟩, .slice none 0 0, .slice none 0 0, .int .i64 0, .int .i64 0, .int .i64 0]), 7, 96) := by kernel_rfl
theorem fillI (k : Int) (n : ByteArray) (a : Option Addr) (x y : Nat) (a' : Option Addr) (x' y' : Nat) (K lo hi : Int) : Instr.fill (fun i => some (i * 7, 7)) ((Array.range (1 * 7)).map ((Value.agg #[.int .i64 0, .string ⟨#[]⟩, .slice none 0 0, .slice none 0 0, .int .i64 0, .int .i64 0, .int .i64 0]).cells[· % (Value.agg #[.int .i64 0, .string ⟨#[]⟩, .slice none 0 0, .slice none 0 0, .int .i64 0, .int .i64 0, .int .i64 0]).cells.size]!)) [(0, .agg [Value.int .i64 k, .string n, .slice a x y, .slice a' x' y', .int .i64 K, .int .i64 lo, .int .i64 hi].toArray)] = some [Value.int .i64 k, .string n, .slice a x y, .slice a' x' y', .int .i64 K, .int .i64 lo, .int .i64 hi].toArray := by kernel_rfl
/-- What the loop over the items keeps. -/
structure Pg (B b : Nat) (a : Option Addr) (c : Nat) (t : List UInt8) (w : World) (iv : Value) (L : List Im) (i o : Nat) (wr : World) : Prop where
  row : ∃ cs e, wr.ownsRow w.heap.size 45 7 iv L.length cs ∧ Its wr w.heap.size e cs L ∧ e ≤ wr.heap.size
  ps : PS B b a c t i o 0 wr
  gb : w.grownBy wr (some b)
  rz : wr.heap[w.heap.size]? = some (.cells #[.slice none 0 0] 25)
  ho : o ≤ 2000
  sh : ∃ a n c, iv = .slice a n c ∧ n = L.length
theorem ItO.low {s s' : Nat} {w : World} {v : Value} {im : Im} {vE vF : Value} {m : Nat} (h : ItO s w v im vE vF m) (hs : s' ≤ s) : ItO s' w v im vE vF m := ⟨h.v, own_base h.e hs, h.eb, Nat.le_trans hs h.sm, h.f⟩
theorem ItO.cap {s : Nat} {w : World} {v : Value} {im : Im} {vE vF : Value} {m : Nat} (h : ItO s w v im vE vF m) (hs : s ≤ w.heap.size) : ∃ m', m' ≤ w.heap.size ∧ ItO s w v im vE vF m' := by
  by_cases hm : m ≤ w.heap.size
  · exact ⟨m, hm, h⟩
  · refine ⟨w.heap.size, Nat.le_refl _, h.v, h.e, h.e.hi, hs, h.f.1, ?_⟩
    rcases h.f.2 with h0 | ⟨g, cap, cur, h1, h2, h3, h4⟩
    · exact Or.inl h0
    · have := blk_lt h3; omega
theorem ko_below {s : Nat} {w w' : World} (h : Below w.heap.size w w') : KO s w w' := fun g C fr _ hc => by rw [h.block g (blk_lt hc)]; exact hc
theorem ko_gb {s b : Nat} {w w' : World} (h : w.grownBy w' (some b)) (hb : b < s) : KO s w w' := fun g C fr hg hc => by rw [h.block g (blk_lt hc) (by simp; omega)]; exact hc
theorem ko_row {s B n : Nat} {w w' : World} {v : Value} {xs : List Value} (h : w.grownBy w' v.ownBlock) (ho : w.ownsRow B 45 7 v n xs) : KO s w w' := fun g C fr hg hc => by
  rw [h.block g (blk_lt hc) (fun e => ?_)]
  · exact hc
  · obtain ⟨c, fz, h2⟩ := row_kind ho g e.symm
    rw [hc] at h2
    injection h2 with h2
    injection h2 with _ h3 _
    exact absurd h3 (by decide)
theorem KO.trans {s : Nat} {a b c : World} (h : KO s a b) (k : KO s b c) : KO s a c := fun g C fr hg hc => k g C fr hg (h g C fr hg hc)
theorem newsI {w : World} (im : Im) (vE vF : Value) (g : Nat) (hg : g = w.heap.size) : ∀ j u, (itC im vE vF)[j]? = some u → (w.alloc (.cells (itC im vE vF).toArray 45)).cell? ((⟨g, 0, none⟩ : Addr).add j) = some u := fun j u hu => by
  subst hg; rw [Addr.add_lit, Nat.zero_add, blk_cell (blk_new w _) j]; simpa using hu
theorem oneI (im : Im) (a : Option Addr) (x y : Nat) (a' : Option Addr) (x' y' : Nat) : ∀ u ∈ itC im (.slice a x y) (.slice a' x' y'), u.oneCell' = true := fun u hu => by
  simp [itC] at hu
  rcases hu with rfl | rfl | rfl | rfl | rfl | rfl | rfl <;> rfl
theorem Pg.below {B b : Nat} {a : Option Addr} {c : Nat} {t : List UInt8} {w : World} {iv : Value} {L : List Im} {i o : Nat} {wr w' : World} (h : Pg B b a c t w iv L i o wr) (hb : Below wr.heap.size wr w') : Pg B b a c t w iv L i o w' := by
  obtain ⟨cs, e, h1, h2, h3⟩ := h.row
  exact ⟨⟨cs, e, row_below h1 hb, h2.keep (ko_below hb), Nat.le_trans h3 hb.size⟩, Px.below h.ps hb, gb_then h.gb (gb_below hb), blk_below h.rz hb, h.ho, h.sh⟩
/-- An item more. -/
theorem Pg.push {B b : Nat} {a : Option Addr} {c : Nat} {t : List UInt8} {w : World} {iv : Value} {L : List Im} {i o i' o' : Nat} {wa w1 : World} (h : Pg B b a c t w iv L i o wa) (hlt : b < w.heap.size) {im : Im} {vE vF : Value} {m : Nat} (g : wa.grownBy w1 (some b)) (hi : ItO wa.heap.size w1 (.agg (itC im vE vF).toArray) im vE vF m) (p : PS B b a c t i' o' 0 w1) (ho' : o' ≤ 2000) :
    ∃ cs, w1.ownsRow w.heap.size 45 7 iv L.length cs ∧ (w1.alloc (.cells (itC im vE vF).toArray 45)).ownsRow w.heap.size 45 7 iv L.length cs ∧ ∀ (v' : Value) (w2 : World), w2.ownsRow w.heap.size 45 7 v' (L.length + 1) (cs ++ itC im vE vF) → (w1.alloc (.cells (itC im vE vF).toArray 45)).grownBy w2 iv.ownBlock → Pg B b a c t w v' (L ++ [im]) i' o' w2 := by
  obtain ⟨cs, e, h1, h2, h3⟩ := h.row
  have hbB : B ≤ b := h.ps.hB
  have r1 : w1.ownsRow w.heap.size 45 7 iv L.length cs := h1.kept g (Or.inr fun e => own_b h1 hlt e.symm)
  have A : Below w1.heap.size w1 (w1.alloc (.cells (itC im vE vF).toArray 45)) := below_alloc' (Below.refl _ _) _
  refine ⟨cs, r1, row_below r1 A, fun v' w2 hown hg => ?_⟩
  have r2 := row_below r1 A
  have k1 : KO w.heap.size wa w1 := ko_gb g hlt
  have k2 : KO w.heap.size w1 w2 := (ko_below A).trans (ko_row hg r2)
  have hsz : w.heap.size ≤ wa.heap.size := h.gb.size
  obtain ⟨m', hm', hi'⟩ := (hi.low h3).cap (Nat.le_trans h3 g.size)
  have hle := h2.le
  have hfar : ∀ k, iv.ownBlock = some k → B ≤ k ∧ k ≠ b := fun k e => by have := (r2.lt k e).1; omega
  refine ⟨⟨cs ++ itC im vE vF, w1.heap.size, by rw [List.length_append]; exact hown, .snoc e w1.heap.size cs L im vE vF m' (h2.keep (k1.trans k2)) (hi'.keep (fun g C fr hg hc => k2 g C fr (Nat.le_trans hle hg) hc)) (fun g e => (hi'.f.lt g e).2) hm', ?_⟩, Px.far (Px.below p A) hg hfar, ?_, ?_, ho', ?_⟩
  · exact Nat.le_trans A.size hg.size
  · exact World.grownBy.andThen (gb_then (gb_then h.gb g) (gb_below A)) hg (fun k e => Or.inl (r2.lt k e).1)
  · have hz := blk_below (blk_grown' h.rz g (by omega)) A
    rw [hg.block w.heap.size (blk_lt hz) (fun e => ?_)]
    · exact hz
    · obtain ⟨c, fz, h5⟩ := row_kind r2 w.heap.size e.symm
      rw [hz] at h5
      injection h5 with h5
      injection h5 with _ h6 _
      exact absurd h6 (by decide)
  · obtain ⟨a, c, e, -⟩ := row_shape hown
    exact ⟨a, _, c, e, by simp⟩

set_option maxHeartbeats 3200000 in
set_option maxRecDepth 1000000 in
theorem programI (B b : Nat) (a : Option Addr) (c : Nat) (t : List UInt8) (w : World) (h : Px B b a c t ⟨0, ⟨0, 0, [], 0⟩, 0, 0⟩ w) :
    Calls Tryd.prog 17 #[.pointer (some ⟨b, 0, none⟩)] w fun e w' => Res (progP (tkT t) (fuelT t)) (fun L e w' => ∃ iv cs s, e = .returned (.agg #[iv]) ∧ w'.ownsRow w.heap.size 45 7 iv L.length cs ∧ Its w' w.heap.size s cs L) e w' ∧ w.grownBy w' (some b) := by
  have hlt := h.lt
  obtain ⟨i0, hi, hz0, hz1, hz2⟩ := info_parts infoI
  have HNP := Hid.mk (progP_no t)
  obtain ⟨W1, hW1⟩ : ∃ W, W = w.alloc (.cells #[.slice none 0 0] 25) := ⟨_, rfl⟩
  have A1 : Hid (Below w.heap.size w W1) := by rw [hW1]; exact below_alloc' (Below.refl _ _) _
  have RZ : Hid (W1.heap[w.heap.size]? = some (.cells #[.slice none 0 0] 25)) := by rw [hW1]; exact blk_new _ _
  have CA := Hid.mk (advX B b a c t ⟨0, ⟨0, 0, [], 0⟩, 0, 0⟩ W1 (h.below A1.out) (lx t 0) rfl (tk_ok t 0).le)
  have hs1 : w.heap.size ≤ W1.heap.size := A1.out.size
  clear h
  obtain ⟨RP, hRP⟩ : ∃ R, R = progP (tkT t) (fuelT t) := ⟨_, rfl⟩
  rw [← hRP] at HNP ⊢
  have HRP := Hid.mk hRP
  clear hRP
  go_enter Tryd.func17, Tryd.ntmps17
  go_wp2_with fail
  rw [← hW1]
  clear hW1
  refine CA.out.mono ?_
  rintro e w1 ⟨p1, p2, p3, g1⟩
  have hk0 : (lx t 0).1.k ≤ 51 := (tk_ok t 0).le
  have e0 : tkT t 0 = (lx t 0).1 := rfl
  by_cases h50 : (lx t 0).1.k = 50
  · obtain rfl := p2 h50
    refine ⟨rfl, ?_, gb_then (gb_below A1.out) g1⟩
    rw [HRP.out, progP, e0, if_pos h50]
    exact rfl
  by_cases h51 : (lx t 0).1.k = 51
  · obtain rfl := p3 h51
    refine ⟨rfl, ?_, gb_then (gb_below A1.out) g1⟩
    rw [HRP.out, progP, e0, if_neg h50, if_pos h51]
    exact rfl
  obtain ⟨rfl, pp⟩ := p1 (by omega)
  have HP1 : Hid (Pg B b a c t w (.slice none 0 0) [] 0 0 w1) := ⟨⟨[], w.heap.size, World.ownsRow_nil _ _ _ _, .nil, Nat.le_trans hs1 g1.size⟩, pp, gb_then (gb_below A1.out) g1, blk_grown' RZ.out g1 (by omega), by omega, ⟨none, 0, 0, rfl, rfl⟩⟩
  have HL : Hid (progL (tkT t) (fuelT t) 101 [] 0 0 = RP) := by unfold Hid; rw [HRP.out, progP, e0, if_neg h50, if_neg h51]
  clear p1 p2 p3 g1 pp h50 h51 e0 hk0 CA A1 RZ
  go_wp2_with fail
  go_loopg [3] 101 (fun gk iv wr => ∃ (L : List Im) (i o : Nat), gk + L.length = 101 ∧ Hid (Pg B b a c t w iv L i o wr) ∧ Hid (progL (tkT t) (fuelT t) gk L i o = RP))
  case atStart => exact ⟨[], 0, 0, rfl, HP1, HL⟩
  case round =>
    obtain ⟨L, i, o, hgk, hpg, hpl⟩ := hrel
    obtain ⟨ia, inn, ic, rfl, hin⟩ := hpg.out.sh
    have HIN := Hid.mk hin
    clear hin
    cases gk with
    | zero => exact absurd (hpl.out.symm.trans (by rw [progL])) HNP.out
    | succ gk =>
      have y2 := Px.c2 hpg.out.ps
      have y3 := Px.c3 hpg.out.ps
      have y4 := Px.c4 hpg.out.ps
      have y5 := Px.c5 hpg.out.ps
      dsimp only at y2 y3 y4 y5
      have e1 := hpl.out
      rw [progL] at e1
      obtain ⟨k, hk⟩ : ∃ k, k = tkT t i := ⟨_, rfl⟩
      rw [← hk] at y2 y3 y4 y5 e1
      have HK := Hid.mk hk
      clear hk
      by_cases hk0 : k.k = 0
      · rw [if_pos hk0] at e1
        have k1 : ((k.k : Int) != 0) = false := by simp; omega
        have E1 := Hid.mk e1.symm
        have z0 := (blk_cell hpg.out.rz 0).trans rfl
        have q0 := blk_unfrozen hpg.out.rz 0
        have HG := Hid.mk (gb_new' (i := 0) (v := .slice ia inn ic) hpg.out.gb (Nat.le_refl w.heap.size))
        have HRow : Hid (∃ cs e, (wr.setCell ⟨w.heap.size, 0, none⟩ (.slice ia inn ic)).ownsRow w.heap.size 45 7 (.slice ia inn ic) L.length cs ∧ Its (wr.setCell ⟨w.heap.size, 0, none⟩ (.slice ia inn ic)) w.heap.size e cs L) := by
          obtain ⟨cs, e, h1, h2, h3⟩ := hpg.out.row
          refine ⟨cs, e, ?_, h2.keep (fun g C fr hg hc => ?_)⟩
          · refine ⟨h1.1, ?_⟩
            rcases h1.2 with h0 | ⟨g, cap, cur, h5, h6, h7, h8⟩
            · exact Or.inl h0
            · refine Or.inr ⟨g, cap, cur, h5, h6, blk_set_other h7 (fun e => ?_) _, h8⟩
              rw [e] at h7
              rw [hpg.out.rz] at h7
              injection h7 with h7
              injection h7 with _ h9 _
              exact absurd h9 (by decide)
          · refine blk_set_other hc (fun e => ?_) _
            rw [e] at hc
            rw [hpg.out.rz] at hc
            injection hc with hc
            injection hc with _ h9 _
            exact absurd h9 (by decide)
        clear e1 hk0
        go_wp2
        refine bodyPost_ret (by simp [results, Tryd.results17, go_sem, z0]; try rfl) rfl ?_
        refine ⟨?_, HG.out⟩
        rw [E1.out]
        obtain ⟨cs, e, h1, h2⟩ := HRow.out
        exact ⟨_, cs, e, rfl, h1, h2⟩
      rw [if_neg hk0] at e1
      have k1 : (k.k : Int) ≠ 0 := by omega
      have CM := Hid.mk (amongI k 16 24 wr)
      unfold tkV at CM
      by_cases hkr : 16 ≤ k.k ∧ k.k ≤ 24
      · rw [if_pos hkr] at e1
        rw [show (decide (16 ≤ k.k) && decide (k.k ≤ 24)) = true by simp; omega] at CM
        have hkr' : 16 ≤ (tkT t i).k ∧ (tkT t i).k ≤ 24 := by rw [← HK.out]; exact hkr
        by_cases h100 : L.length = 100
        · rw [if_pos h100] at e1
          have k2 : ((inn : Int) == 100) = true := by have := HIN.out; simp; omega
          have E1 := Hid.mk e1.symm
          clear e1 hkr hk0 h100 hkr'
          go_wp2_with fail
          refine CM.out.mono ?_
          rintro e wa ⟨rfl, hba⟩
          have PA := Hid.mk (hpg.out.below hba)
          clear hba
          go_wp2_with (go_at_call 32; go_must (refine (pfailI B b a c t i o 0 _ PA.out.ps 7).mono ?_; rintro e w2 ⟨rfl, hb2⟩))
          refine ⟨rfl, ?_, gb_then PA.out.gb (gb_below hb2)⟩
          rw [E1.out, HK.out]
          exact rfl
        · rw [if_neg h100] at e1
          have k2 : ((inn : Int) == 100) = false := by have := HIN.out; simp; omega
          have E1 := Hid.mk e1
          have hLs : L.length < 100 := by omega
          clear e1 hkr hk0 h100
          go_wp2_with fail
          refine CM.out.mono ?_
          rintro e wa ⟨rfl, hba⟩
          have PA := Hid.mk (hpg.out.below hba)
          clear hba
          go_wp2_with fail
          refine (itemI B b a c t i o wa PA.out.ps PA.out.ho hkr').mono ?_
          rintro e w2 ⟨p, g2⟩
          cases hr : itemP (tkT t) (fuelT t) i o with
          | out => exact absurd hr (item_no t i o)
          | bad cc aa =>
            rw [hr] at p; have p : e = .panicked (flV cc aa) := p; subst p
            refine ⟨rfl, ?_, gb_then PA.out.gb g2⟩
            rw [← E1.out, hr]
            exact rfl
          | ok x =>
            rw [hr] at p
            obtain ⟨v, vE, vF, m, rfl, hit, hps, hox⟩ := p
            obtain ⟨⟨eA, eN, eC, rfl⟩, ⟨fA, fN, fC, rfl⟩⟩ := hit.sl
            obtain rfl := hit.cells
            obtain ⟨cs, r1, r2, hpush⟩ := PA.out.push hlt g2 hit hps hox
            have R2 := Hid.mk r2
            have HPU := Hid.mk hpush
            have E2 : Hid (progL (tkT t) (fuelT t) gk (L ++ [x.1]) x.2.1 x.2.2 = RP) := by unfold Hid; rw [← E1.out, hr, bnd_ok]
            have hs2 : w.heap.size ≤ w2.heap.size := Nat.le_trans PA.out.gb.size g2.size
            clear r1 r2 hpush hit hps hox g2 hr
            go_wp2_with (first | (at_builtin; go_must (refine wpList_append_own_at _ rfl _ _ 23 rfl w.heap.size 45 i0 (.agg #[.int .i64 0, .string ⟨#[]⟩, .slice none 0 0, .slice none 0 0, .int .i64 0, .int .i64 0, .int .i64 0]) 7 96 Tryd.underlying23 hi hz0 hz1 hz2 rfl (by decide) _ _ _ rfl R2.out ⟨w2.heap.size, 0, none⟩ 1 1 (itC x.1 (.slice eA eN eC) (.slice fA fN fC)) rfl rfl (newsI x.1 _ _ _ rfl) (oneI x.1 _ _ _ _ _ _) (by unfold maxLen; omega) (by omega) (by simp; omega) ?_)) | (refine wpList_build1 rfl 23 45 _ rfl i0 _ Tryd.underlying23 hi hz0 7 hz1 (itC x.1 (.slice eA eN eC) (.slice fA fN fC)) rfl (fillI _ _ _ _ _ _ _ _ _ _ _) (by decide) (by decide) ?_))
            intro v' w3 hown hgrow _ _
            have HP3 := Hid.mk (HPU.out v' w3 hown hgrow)
            clear hown hgrow HPU R2
            refine Hid.out ?_
            refine Lib.hid ?_
            go_wp2_with fail
            go_roundg gk
            case measure => omega
            case rel => exact ⟨L ++ [x.1], x.2.1, x.2.2, by simp; omega, HP3, E2⟩
      · rw [if_neg hkr] at e1
        rw [show (decide (16 ≤ k.k) && decide (k.k ≤ 24)) = false by simp; omega] at CM
        have E1 := Hid.mk e1.symm
        clear e1 hkr hk0
        go_wp2_with fail
        refine CM.out.mono ?_
        rintro e wa ⟨rfl, hba⟩
        have PA := Hid.mk (hpg.out.below hba)
        clear hba
        go_wp2_with (go_at_call 32; go_must (refine (pfailI B b a c t i o 0 _ PA.out.ps 4).mono ?_; rintro e w2 ⟨rfl, hb2⟩))
        refine ⟨rfl, ?_, gb_then PA.out.gb (gb_below hb2)⟩
        rw [E1.out, HK.out]
        exact rfl

end Go.Proofs.YtfoigigbggickaaDoor.Par
