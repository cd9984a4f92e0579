import Derived.Test.YtdhnjkcebaahcaaDoorDecJ
namespace Go.Proofs.YtdhnjkcebaahcaaDoor.Dec
open Go Go.RowKit Go.Proofs.YtdhnjkcebaahcaaDoor.Mem Go.Proofs.YtdhnjkcebaahcaaDoor.ValC Go.Proofs.YtdhnjkcebaahcaaDoor.Enc
set_option linter.unusedVariables false
set_option linter.unusedSimpArgs false
attribute [local go_sem ↓] Go.wp_at_zero Go.wp_at_succ

def St (rest : List UInt8) (bd : Int) (t : List Int) (b : List UInt8) (f : Bool) : Prop := (f = false ∧ Rds rest t b) ∨ (f = true ∧ ∃ t' r', Rds rest t' r' ∧ one r' = none ∧ (t'.length : Int) < bd)
theorem St.step {rest b b' : List UInt8} {bd z : Int} {t : List Int} {f f' : Bool} (h : St rest bd t b f) (h1 : f = true → f' = true) (h2 : f = false → (one b = some (z, b') ∧ f' = false) ∨ (one b = none ∧ f' = true)) (hl : (t.length : Int) < bd) : St rest bd (t ++ [z]) b' f' := by
  rcases h with ⟨hf, hr⟩ | ⟨hf, hr⟩
  · rcases h2 hf with ⟨h3, h4⟩ | ⟨h3, h4⟩
    · exact Or.inl ⟨h4, hr.snoc h3⟩
    · exact Or.inr ⟨h4, t, b, hr, h3, hl⟩
  · exact Or.inr ⟨h1 hf, hr⟩
theorem infoIn' : (Tryd.prog.info? 90).map (fun i => (i.zero, i.size, i.bytes)) = some (some (.agg #[.int .i64 0, .int .i64 0, .int .i64 0, .int .i64 0]), 4, 32) := by kernel_rfl
theorem row_shape2 {B s n : Nat} {e : TypeId} {w : World} {v : Value} {xs : List Value} (h : w.ownsRow B e s v n xs) : ∃ a c, v = .slice a n c := by
  rcases h.2 with ⟨rfl, h0⟩ | ⟨g, cap, cur, rfl, h⟩
  · exact ⟨none, 0, by rw [h0]⟩
  · exact ⟨_, _, rfl⟩
def lenV : Value → Nat
  | .slice _ n _ => n
  | _ => 0
theorem news_at' (w : World) (vs : List Value) (t : TypeId) : ∀ j u, vs[j]? = some u → (w.alloc (.cells vs.toArray t)).cell? ((⟨w.heap.size, 0, none⟩ : Addr).add j) = some u := fun j u h => by
  rw [Addr.add_mid, Nat.zero_add, blk_cell (blk_new w _) j]
  simpa using h
theorem flat_snoc (L : List Is) (z1 z2 z3 z4 : Int) : flatI L ++ [z1] ++ [z2] ++ [z3] ++ [z4] = flatI (L ++ [⟨z1, z2, z3, z4⟩]) := by
  simp [flatI, insN]

/-- What reading a block leaves. -/
inductive BlkP (w w' : World) (r lo : Nat) (rest : List UInt8) (f : Bool) (N : Nat) (e : Ending) : Prop
  | mk (v : Value) (L : List Is) (rest' : List UInt8) (f' : Bool) (a' : Option Addr) (c' : Nat) (he : e = .returned v) (hrow : w'.ownsRow w.heap.size 90 4 v L.length (L.flatMap Is.cells)) (hlen : L.length ≤ 16384) (hd : De w' r lo rest' f' a' c') (hg : w.grownBy w' (some r)) (h1 : f = true → f' = true)
      (h2 : f = false → St rest (4 * N) (flatI L) rest' f' ∧ (f' = false → L.length = N)) : BlkP w w' r lo rest f N e

set_option maxHeartbeats 3200000 in
set_option maxRecDepth 100000 in
theorem blockI (r lo : Nat) (rest : List UInt8) (f : Bool) (a : Option Addr) (c : Nat) (n : Int) (N : Nat) (w : World) (hd : De w r lo rest f a c) (hr : lo ≤ r) (hN : f = false → n = (N : Int) ∧ N ≤ 16384) :
    Calls Tryd.prog 91 #[.pointer (some ⟨r, 0, none⟩), .int .i64 n] w fun e w' => BlkP w w' r lo rest f N e := by
  obtain ⟨i0, hi, hz0, hz1, hz2⟩ := info_parts infoIn'
  have D := Hid.mk hd
  clear hd
  cases f with
  | true =>
    have x1 := blk_cell D.out.x 1
    simp only [List.getElem?_toArray, List.getElem?_cons_zero, List.getElem?_cons_succ] at x1
    have HE : Hid (∀ e, e = .returned (.slice none 0 0) → BlkP w w r lo rest true N e) := fun e he => BlkP.mk _ [] rest true a c he (World.ownsRow_nil w _ _ _) (by simp) D.out (gb_refl _ _) (fun _ => rfl) (fun h => by cases h)
    go_enter Tryd.func91, Tryd.ntmps91
    go_wp2
    go_loopw [5] (fun v wr => v = .slice none 0 0 ∧ wr = w) (fun _ _ => 0)
    case atStart => exact ⟨rfl, rfl⟩
    case round =>
      obtain ⟨rfl, rfl⟩ := hrel
      by_cases h0 : 0 < n
      · go_wp2
        go_ret
        exact HE.out _ rfl
      · have h0' : decide (0 < n) = false := by simpa using h0
        go_wp2
        go_ret
        exact HE.out _ rfl
  | false =>
    obtain ⟨hn, hN1⟩ := hN rfl
    subst hn
    clear hN
    have hrw := blk_lt D.out.x
    go_enter Tryd.func91, Tryd.ntmps91
    go_wp2
    go_loopw [5] (fun v wr => ∃ (L : List Is) (b : List UInt8) (f1 : Bool) (a1 : Option Addr) (c1 : Nat), L.length ≤ N ∧ Hid (wr.ownsRow w.heap.size 90 4 v L.length (L.flatMap Is.cells)) ∧ Hid (De wr r lo b f1 a1 c1) ∧ Hid (w.grownBy wr (some r)) ∧ Hid (St rest (4 * N) (flatI L) b f1)) (fun v _ => N - lenV v)
    case atStart => exact ⟨[], rest, false, a, c, Nat.zero_le _, World.ownsRow_nil w _ _ _, D, gb_refl _ _, Or.inl ⟨rfl, Rds.nil _⟩⟩
    case round =>
      clear D
      obtain ⟨L, b, f1, a1, c1, hL, ho, hd, hg, hs⟩ := hrel
      obtain ⟨k, hk⟩ : ∃ k, k = L.length := ⟨_, rfl⟩
      have HKL := Hid.mk hk
      rw [← hk] at ho hL
      have hfl : Hid ((flatI L).length = 4 * k) := by unfold Hid; rw [flat_len', hk]
      clear hk
      obtain ⟨va, vc, hv⟩ := row_shape2 ho.out
      rw [hv] at ho ⊢
      clear hv
      have x1 := blk_cell hd.out.x 1
      simp only [List.getElem?_toArray, List.getElem?_cons_zero, List.getElem?_cons_succ] at x1
      have hsz := hg.out.size
      by_cases hlt : k < N
      · have k1 : (k : Int) < (N : Int) := by omega
        cases f1 with
        | true =>
          go_wp2
          go_ret
          exact BlkP.mk _ L b true a1 c1 rfl (by rw [← HKL.out]; exact ho.out) (by rw [← HKL.out]; omega) hd.out hg.out (fun _ => rfl) (fun _ => ⟨hs.out, fun h => by cases h⟩)
        | false =>
          go_wp2_with fail
          clear x1
          refine (numberI r lo b false a1 c1 wr hd.out hr).mono ?_
          rintro e w2 ⟨z1, b1, f2, a2, c2, rfl, hd', hg', k1', k2'⟩
          have O1 := Hid.mk (row_rec ho.out hd.out.x hg' (by decide))
          have D1 := Hid.mk hd'
          have G1 := Hid.mk (gb_trans hg.out hg')
          have S1 : Hid (St rest (4 * N) (flatI L ++ [z1]) b1 f2) := hs.out.step k1' k2' (by have := hfl.out; (try simp only [List.length_append, List.length_singleton]); omega)
          clear hd' hg' k1' k2' hd hg hs ho
          go_wp2_with fail
          refine (numberI r lo b1 f2 a2 c2 w2 D1.out hr).mono ?_
          rintro e w3 ⟨z2, b2, f3, a3, c3, rfl, hd', hg', k1', k2'⟩
          have O2 := Hid.mk (row_rec O1.out D1.out.x hg' (by decide))
          have D2 := Hid.mk hd'
          have G2 := Hid.mk (gb_trans G1.out hg')
          have S2 : Hid (St rest (4 * N) (flatI L ++ [z1] ++ [z2]) b2 f3) := S1.out.step k1' k2' (by have := hfl.out; (try simp only [List.length_append, List.length_singleton]); omega)
          clear hd' hg' k1' k2' D1 G1 S1 O1
          go_wp2_with fail
          refine (numberI r lo b2 f3 a3 c3 w3 D2.out hr).mono ?_
          rintro e w4 ⟨z3, b3, f4, a4, c4, rfl, hd', hg', k1', k2'⟩
          have O3 := Hid.mk (row_rec O2.out D2.out.x hg' (by decide))
          have D3 := Hid.mk hd'
          have G3 := Hid.mk (gb_trans G2.out hg')
          have S3 : Hid (St rest (4 * N) (flatI L ++ [z1] ++ [z2] ++ [z3]) b3 f4) := S2.out.step k1' k2' (by have := hfl.out; (try simp only [List.length_append, List.length_singleton]); omega)
          clear hd' hg' k1' k2' D2 G2 S2 O2
          go_wp2_with fail
          refine (numberI r lo b3 f4 a4 c4 w4 D3.out hr).mono ?_
          rintro e w5 ⟨z4, b4, f5, a5, c5, rfl, hd', hg', k1', k2'⟩
          have O4 := Hid.mk (row_rec O3.out D3.out.x hg' (by decide))
          have D4 := Hid.mk hd'
          have G4 := Hid.mk (gb_trans G3.out hg')
          have S4 : Hid (St rest (4 * N) (flatI L ++ [z1] ++ [z2] ++ [z3] ++ [z4]) b4 f5) := S3.out.step k1' k2' (by have := hfl.out; (try simp only [List.length_append, List.length_singleton]); omega)
          clear hd' hg' k1' k2' D3 G3 S3 O3
          obtain ⟨x, hx⟩ : ∃ x : Is, x = ⟨z1, z2, z3, z4⟩ := ⟨_, rfl⟩
          have hsz5 := G4.out.size
          have S5 : Hid (St rest (4 * N) (flatI (L ++ [x])) b4 f5) := by unfold Hid; rw [hx, ← flat_snoc]; exact S4.out
          have hxc : Hid (x.cells = [.int .i64 z1, .int .i64 z2, .int .i64 z3, .int .i64 z4]) := by unfold Hid; rw [hx]; rfl
          clear hx S4
          go_wp2_with (at_builtin; refine wpList_append_own _ rfl _ _ 46 rfl w.heap.size 90 i0 (.agg #[.int .i64 0, .int .i64 0, .int .i64 0, .int .i64 0]) 4 32 Tryd.underlying46 hi hz0 hz1 hz2 rfl (by decide) _ _ _ rfl (O4.out.alloc _) ⟨w5.heap.size, 0, none⟩ 1 1 [.int .i64 z1, .int .i64 z2, .int .i64 z3, .int .i64 z4] rfl rfl (news_at' w5 _ 90) (by intro u hu; simp only [List.mem_cons, List.not_mem_nil, or_false] at hu; rcases hu with rfl | rfl | rfl | rfl <;> rfl) (by unfold maxLen; omega) (by omega) (by simp; omega) ?_)
          intro v6 w6 hown6 hgrow6 _
          have hbl : Below w.heap.size w5 w6 := ((Below.refl _ _).alloc hsz5 _).grown hgrow6 (by simp; omega) (fun j hj => (O4.out.lt j hj).1)
          have hr6 : w6.heap[r]? = w5.heap[r]? := hbl.block r hrw
          have O6 : Hid (w6.ownsRow w.heap.size 90 4 v6 (L ++ [x]).length ((L ++ [x]).flatMap Is.cells)) := by unfold Hid; rw [List.length_append, List.length_singleton, ← HKL.out, List.flatMap_append, List.flatMap_cons, List.flatMap_nil, List.append_nil, hxc.out]; exact hown6
          have D6 := Hid.mk (D4.out.keep (hbl.mono (by omega)) hr6)
          have G6 := Hid.mk (gb_of_below G4.out hbl hbl.size)
          clear hown6 hgrow6 hbl hr6 O4 D4 G4
          obtain ⟨va6, vc6, hv6⟩ := row_shape2 O6.out
          rw [hv6] at O6 ⊢
          clear hv6
          refine Hid.out ?_
          refine Lib.hid ?_
          go_wp2
          refine ⟨⟨L ++ [x], b4, f5, a5, c5, ?_, O6, D6, ?_⟩, ?_⟩
          · rw [List.length_append, List.length_singleton, ← HKL.out]; omega
          · first | exact S5 | exact ⟨G6, S5⟩
          · simp only [lenV, List.length_append, List.length_singleton, ← HKL.out]; omega
      · obtain rfl : N = k := by omega
        have k1 : decide ((N : Int) < (N : Int)) = false := by simp
        go_wp2
        go_ret
        exact BlkP.mk _ L b f1 a1 c1 rfl (by rw [← HKL.out]; exact ho.out) (by rw [← HKL.out]; omega) hd.out hg.out (fun h => by cases h) (fun _ => ⟨hs.out, fun _ => HKL.out.symm⟩)
end Go.Proofs.YtdhnjkcebaahcaaDoor.Dec
