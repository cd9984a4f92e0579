import Derived.Test.YtdhnjkcebaahcaaDoorDecK
import Derived.Deep.Onto
namespace Go.Proofs.YtdhnjkcebaahcaaDoor.Dec
open Go Go.RowKit Go.Proofs.YtdhnjkcebaahcaaDoor.Mem Go.Proofs.YtdhnjkcebaahcaaDoor.ValC Go.Proofs.YtdhnjkcebaahcaaDoor.Enc
set_option linter.unusedVariables false
set_option linter.unusedSimpArgs false
attribute [local go_sem ↓] Go.wp_at_zero Go.wp_at_succ

/-- What has been read so far: whole, or nothing can come of it. -/
def Sem (bs : List UInt8) (pre : List Int) (b : List UInt8) (f : Bool) : Prop := (f = false → Live bs pre b) ∧ (f = true → NoShape bs)
theorem Sem.num {bs b b' : List UInt8} {pre : List Int} {z : Int} {f f' : Bool} (h : Sem bs pre b f) (h1 : f = true → f' = true) (h2 : f = false → (one b = some (z, b') ∧ f' = false) ∨ (one b = none ∧ f' = true)) (hp : pre.length < 5) : Sem bs (pre ++ [z]) b' f' := by
  cases f with
  | true => have := h1 rfl; subst this; exact ⟨fun e => (nomatch e), fun _ => h.2 rfl⟩
  | false =>
    rcases h2 rfl with ⟨ho, rfl⟩ | ⟨ho, rfl⟩
    · exact ⟨fun _ => live_step (h.1 rfl) ho, fun e => (nomatch e)⟩
    · exact ⟨fun e => (nomatch e), fun _ => dead (h.1 rfl) ho (Or.inl hp)⟩
theorem Sem.len {bs b b' : List UInt8} {pre : List Int} {z : Int} {f f' : Bool} (h : Sem bs pre b f) (h1 : f = true → f' = true) (h2 : f = false → (one b = some (z, b') ∧ 0 ≤ z ∧ z ≤ 16384 ∧ f' = false) ∨ (f' = true ∧ (one b = none ∨ ∃ s, one b = some (z, s) ∧ (z < 0 ∨ 16384 < z)))) (hp : pre.length < 5) (hx : ∀ s, Live bs (pre ++ [z]) s → (z < 0 ∨ 16384 < z) → NoShape bs) : Sem bs (pre ++ [z]) b' f' ∧ (f' = false → 0 ≤ z ∧ z ≤ 16384) := by
  cases f with
  | true => have := h1 rfl; subst this; exact ⟨⟨fun e => (nomatch e), fun _ => h.2 rfl⟩, fun e => (nomatch e)⟩
  | false =>
    rcases h2 rfl with ⟨ho, z0, z1, rfl⟩ | ⟨rfl, ho | ⟨s, ho, hz⟩⟩
    · exact ⟨⟨fun _ => live_step (h.1 rfl) ho, fun e => (nomatch e)⟩, fun _ => ⟨z0, z1⟩⟩
    · exact ⟨⟨fun e => (nomatch e), fun _ => dead (h.1 rfl) ho (Or.inl hp)⟩, fun e => (nomatch e)⟩
    · exact ⟨⟨fun e => (nomatch e), fun _ => hx s (live_step (h.1 rfl) ho) hz⟩, fun e => (nomatch e)⟩
theorem Sem.blk {bs b b' : List UInt8} {pre : List Int} {N : Nat} {L : List Is} {f f' : Bool} (h : Sem bs pre b f) (h1 : f = true → f' = true) (h2 : f = false → St b (4 * N) (flatI L) b' f' ∧ (f' = false → L.length = N)) (hd : f = false → ∀ t' : List Int, (t'.length : Int) < 4 * N → ∃ R S x y z t, pre ++ t' = R :: S :: x :: y :: z :: t ∧ (t.length : Int) < 4 * (x + y + z)) : Sem bs (pre ++ flatI L) b' f' ∧ (f' = false → L.length = N) := by
  cases f with
  | true => have := h1 rfl; subst this; exact ⟨⟨fun e => (nomatch e), fun _ => h.2 rfl⟩, fun e => (nomatch e)⟩
  | false =>
    obtain ⟨hs, hl⟩ := h2 rfl
    refine ⟨?_, hl⟩
    rcases hs with ⟨rfl, hs⟩ | ⟨rfl, t', r', hr, ho, ht⟩
    · exact ⟨fun _ => live_rds (h.1 rfl) hs, fun e => (nomatch e)⟩
    · exact ⟨fun e => (nomatch e), fun _ => dead (live_rds (h.1 rfl) hr) ho (Or.inr (hd rfl t' ht))⟩
theorem back {f f' : Bool} (h1 : f = true → f' = true) (h : f' = false) : f = false := by cases f <;> simp_all
theorem De.gb {w w' : World} {r lo : Nat} {rest : List UInt8} {f : Bool} {a : Option Addr} {c : Nat} (h : De w r lo rest f a c) (hr : lo ≤ r) (hb : Below w.heap.size w w') : De w' r lo rest f a c :=
  h.keep (hb.mono (by have := blk_lt h.x; omega)) (hb.block r (blk_lt h.x))
/-- A block other than the decoder's record. -/
theorem blk_gb {w w' : World} {g r : Nat} {o : Obj} (h : w.heap[g]? = some o) (hg : w.grownBy w' (some r)) (hne : g ≠ r) : w'.heap[g]? = some o := by rw [hg.block g (blk_lt h) (by intro e; injection e with e; exact hne e)]; exact h
theorem row_set {w : World} {B s n g i : Nat} {v u : Value} {e t : TypeId} {xs : List Value} {C : Array Value} {fr : Nat × Nat} (h : w.ownsRow B e s v n xs) (hx : w.heap[g]? = some (.cells C t fr)) (hne : e ≠ t) : (w.setCell ⟨g, i, none⟩ u).ownsRow B e s v n xs :=
  row_rec h hx (gb_more (gb_refl w g)) hne

/-- What reading a code leaves. -/
inductive CodP (w w' : World) (r lo : Nat) (bs : List UInt8) (e : Ending) : Prop
  | mk (d : Dc) (vv1 vv2 vv3 : Value) (b : List UInt8) (f : Bool) (a : Option Addr) (c : Nat) (he : e = .returned (.agg #[.int .i64 d.R, .int .i64 d.S, vv1, vv2, vv3])) (o1 : w'.ownsRow w.heap.size 90 4 vv1 d.L1.length (d.L1.flatMap Is.cells)) (B1 B2 : Nat) (hB : w.heap.size ≤ B1 ∧ B1 ≤ B2) (p1 : ∀ g, vv1.ownBlock = some g → g < B1) (p2 : ∀ g, vv2.ownBlock = some g → g < B2) (o2 : w'.ownsRow B1 90 4 vv2 d.L2.length (d.L2.flatMap Is.cells)) (o3 : w'.ownsRow B2 90 4 vv3 d.L3.length (d.L3.flatMap Is.cells)) (l1 : d.L1.length ≤ 16384) (l2 : d.L2.length ≤ 16384) (l3 : d.L3.length ≤ 16384) (hd : De w' r lo b f a c) (hg : w.grownBy w' (some r)) (hs : Sem bs d.all b f) : CodP w w' r lo bs e

set_option maxHeartbeats 3200000 in
set_option maxRecDepth 100000 in
theorem codeI (r lo : Nat) (bs : List UInt8) (a : Option Addr) (c : Nat) (w : World) (hd : De w r lo bs false a c) (hr : lo ≤ r) :
    Calls Tryd.prog 60 #[.pointer (some ⟨r, 0, none⟩)] w fun e w' => CodP w w' r lo bs e := by
  have hrw := blk_lt hd.x
  have D := Hid.mk hd
  clear hd
  go_enter Tryd.func60, Tryd.ntmps60
  go_wp2_with fail
  obtain ⟨W, hW⟩ : ∃ W : World, W = w.alloc (.cells #[.int .i64 0, .int .i64 0, .slice none 0 0, .slice none 0 0, .slice none 0 0] 48) := ⟨_, rfl⟩
  rw [← hW]
  have BW : Hid (Below w.heap.size w W) := by unfold Hid; rw [hW]; go_grown
  have A0 : Hid (W.heap[w.heap.size]? = some (.cells #[.int .i64 0, .int .i64 0, .slice none 0 0, .slice none 0 0, .slice none 0 0] 48)) := by unfold Hid; rw [hW]; exact blk_new w _
  clear hW
  have D0 := Hid.mk (D.out.gb hr BW.out)
  have S0 : Hid (Sem bs [] bs false) := ⟨fun _ => live_start bs, fun e => (nomatch e)⟩
  have G0 : Hid (w.grownBy W (some r)) := gb_of_below (gb_refl w r) BW.out BW.out.size
  have hne : w.heap.size ≠ r := by omega
  clear D BW
  refine (numberI r lo bs false a c W D0.out hr).mono ?_
  rintro e w1 ⟨R, b1, f1, a1, c1, rfl, hd', hg', k1', k2'⟩
  have A1 := Hid.mk (blk_gb A0.out hg' hne)
  have D1 := Hid.mk hd'
  have G1 := Hid.mk (gb_trans G0.out hg')
  have S1 : Hid (Sem bs [R] b1 f1) := S0.out.num k1' k2' (by simp)
  clear hd' hg' k1' k2' A0 D0 G0 S0 
  go_wp2_with fail
  refine (numberI r lo b1 f1 a1 c1 w1 D1.out hr).mono ?_
  rintro e w2 ⟨S, b2, f2, a2, c2, rfl, hd', hg', k1', k2'⟩
  have A2 := Hid.mk (blk_gb A1.out hg' hne)
  have D2 := Hid.mk hd'
  have G2 := Hid.mk (gb_trans G1.out hg')
  have S2 : Hid (Sem bs [R, S] b2 f2) := S1.out.num k1' k2' (by simp)
  clear hd' hg' k1' k2' A1 D1 G1 S1 
  go_wp2_with fail
  obtain ⟨X, hX⟩ : ∃ X : World, X = w2.alloc (.cells #[.int .i64 R, .int .i64 S, .slice none 0 0, .slice none 0 0, .slice none 0 0] 48) := ⟨_, rfl⟩
  rw [← hX]
  have BX : Hid (Below w2.heap.size w2 X) := by unfold Hid; rw [hX]; go_grown
  obtain ⟨q, hq⟩ : ∃ q, q = w2.heap.size := ⟨_, rfl⟩
  have B2 : Hid (X.heap[w2.heap.size]? = some (.cells #[.int .i64 R, .int .i64 S, .slice none 0 0, .slice none 0 0, .slice none 0 0] 48)) := by unfold Hid; rw [hX]; exact blk_new w2 _
  clear hX
  have hq0 := G2.out.size
  have hqr : w2.heap.size ≠ r := by omega
  have hqw : w.heap.size < w2.heap.size := blk_lt A2.out
  have A2' := Hid.mk (blk_below A2.out BX.out)
  have D2' := Hid.mk (D2.out.gb hr BX.out)
  have G2' := Hid.mk (gb_of_below G2.out (BX.out.mono hq0) BX.out.size)
  clear A2 D2 G2 BX
  refine (lengthI r lo b2 f2 a2 c2 X D2'.out hr).mono ?_
  rintro e w3 ⟨x, b3, f3, a3, c3, rfl, hd', hg', k1', k2'⟩
  have A3 := Hid.mk (blk_gb A2'.out hg' hne)
  have D3 := Hid.mk hd'
  have G3 := Hid.mk (gb_trans G2'.out hg')
  have B3 := Hid.mk (blk_gb B2.out hg' hqr)
  have T3 := Hid.mk (S2.out.len k1' k2' (by simp) (fun s hl hz => dead_len hl rfl hz))
  have S3 : Hid (Sem bs [R, S, x] b3 f3) := T3.out.1
  have E3 : Hid (f3 = false → 0 ≤ x ∧ x ≤ 16384) := T3.out.2
  clear hd' hg' k1' k2' A2' D2' G2' S2 T3 B2
  go_wp2_with fail
  refine (lengthI r lo b3 f3 a3 c3 w3 D3.out hr).mono ?_
  rintro e w4 ⟨y, b4, f4, a4, c4, rfl, hd', hg', k1', k2'⟩
  have A4 := Hid.mk (blk_gb A3.out hg' hne)
  have D4 := Hid.mk hd'
  have G4 := Hid.mk (gb_trans G3.out hg')
  have B4 := Hid.mk (blk_gb B3.out hg' hqr)
  have T4 := Hid.mk (S3.out.len k1' k2' (by simp) (fun s hl hz => dead_len2 hl rfl hz))
  have S4 : Hid (Sem bs [R, S, x, y] b4 f4) := T4.out.1
  have E4 : Hid (f4 = false → (0 ≤ x ∧ x ≤ 16384) ∧ (0 ≤ y ∧ y ≤ 16384)) := fun e => ⟨E3.out (back k1' e), T4.out.2 e⟩
  clear hd' hg' k1' k2' A3 D3 G3 S3 T4 E3  B3
  go_wp2_with fail
  refine (lengthI r lo b4 f4 a4 c4 w4 D4.out hr).mono ?_
  rintro e w5 ⟨z, b5, f5, a5, c5, rfl, hd', hg', k1', k2'⟩
  have A5 := Hid.mk (blk_gb A4.out hg' hne)
  have D5 := Hid.mk hd'
  have G5 := Hid.mk (gb_trans G4.out hg')
  have B5 := Hid.mk (blk_gb B4.out hg' hqr)
  have T5 := Hid.mk (S4.out.len k1' k2' (by simp) (fun s hl hz => dead_len3 hl rfl hz))
  have S5 : Hid (Sem bs [R, S, x, y, z] b5 f5) := T5.out.1
  have E5 : Hid (f5 = false → ((0 ≤ x ∧ x ≤ 16384) ∧ (0 ≤ y ∧ y ≤ 16384)) ∧ (0 ≤ z ∧ z ≤ 16384)) := fun e => ⟨E4.out (back k1' e), T5.out.2 e⟩
  clear hd' hg' k1' k2' A4 D4 G4 S4 T5 E4  B4
  go_wp2_with fail
  refine (blockI r lo b5 f5 a5 c5 x x.toNat w5 D5.out hr (fun e => by have := E5.out e; omega)).mono ?_
  rintro e w6 ⟨v, L1, b6, f6, a6, c6, rfl, ho, hl1, hd', hg', k1', k2'⟩
  obtain ⟨s1, m1, rfl⟩ := row_shape2 ho
  have A6 := Hid.mk (blk_gb A5.out hg' hne)
  have B6 := Hid.mk (blk_gb B5.out hg' hqr)
  have O1 : Hid (w6.ownsRow w.heap.size 90 4 (.slice s1 L1.length m1) L1.length (L1.flatMap Is.cells)) := ho.mono (by have := G5.out.size; omega)
  have G6 := Hid.mk (gb_trans G5.out hg')
  have hgs := hg'.size
  have D6 := Hid.mk hd'
  have T6 := Hid.mk (S5.out.blk k1' k2' (fun e t' ht => by
    have := E5.out e
    refine ⟨R, S, x, y, z, t', by simp, ?_⟩
    (try simp only [List.length_append, flat_len'])
    omega))
  have S6 : Hid (Sem bs ([R, S, x, y, z] ++ flatI L1) b6 f6) := T6.out.1
  have E6 : Hid (f6 = false → (((0 ≤ x ∧ x ≤ 16384) ∧ (0 ≤ y ∧ y ≤ 16384)) ∧ (0 ≤ z ∧ z ≤ 16384)) ∧ L1.length = x.toNat) := fun e => ⟨E5.out (back k1' e), T6.out.2 e⟩
  clear hd' hg' k1' k2' ho A5 B5 G5 D5 S5 T6 E5
  have d0 := blk_cell B6.out 2
  have d1 := blk_unfrozen B6.out 2
  simp only [List.getElem?_toArray, List.getElem?_cons_zero, List.getElem?_cons_succ] at d0
  go_upto_region 4 with fail
  clear d0 d1
  obtain ⟨Y0, hY⟩ : ∃ Y : World, Y = w6.setCell ⟨w2.heap.size, 2, none⟩ (.slice s1 L1.length m1) := ⟨_, rfl⟩
  rw [← hY]
  have BY : Hid (Below w2.heap.size w6 Y0) := by unfold Hid; rw [hY]; exact (Below.refl w2.heap.size w6).setCell (show w2.heap.size ≤ (⟨w2.heap.size, 2, none⟩ : Addr).block from Nat.le_refl _) _
  have B6' : Hid (Y0.heap[w2.heap.size]? = some (.cells #[.int .i64 R, .int .i64 S, (.slice s1 L1.length m1), .slice none 0 0, .slice none 0 0] 48)) := by unfold Hid; rw [hY]; have := blk_set B6.out 2 (.slice s1 L1.length m1); simpa using this
  have A6' : Hid (Y0.heap[w.heap.size]? = some (.cells #[.int .i64 0, .int .i64 0, .slice none 0 0, .slice none 0 0, .slice none 0 0] 48)) := by unfold Hid; rw [hY]; exact blk_set_other A6.out (by show w.heap.size ≠ w2.heap.size; omega) _
  have D6' := Hid.mk (D6.out.keep (w' := Y0) (BY.out.mono (by omega)) (BY.out.block r (by omega)))
  have G6' := Hid.mk (gb_of_below G6.out (w2 := Y0) (BY.out.mono (by omega)) BY.out.size)
  have O1' : Hid (Y0.ownsRow w.heap.size 90 4 (.slice s1 L1.length m1) L1.length (L1.flatMap Is.cells)) := by unfold Hid; rw [hY]; exact row_set O1.out B6.out (by decide)
  clear hY BY A6 B6 D6 G6 O1
  have A6 := A6'
  have B6 := B6'
  have D6 := D6'
  have G6 := G6'
  have O1 := O1'
  clear A6' B6' D6' G6' O1'
  have P1 : Hid (∀ g, (Value.slice s1 L1.length m1).ownBlock = some g → g < Y0.heap.size) := fun g hg => (O1.out.lt g hg).2
  have U1 := G6.out.size
  go_wp2_with fail
  refine (blockI r lo b6 f6 a6 c6 y y.toNat Y0 D6.out hr (fun e => by have := E6.out e; omega)).mono ?_
  rintro e w7 ⟨v, L2, b7, f7, a7, c7, rfl, ho, hl2, hd', hg', k1', k2'⟩
  obtain ⟨s2, m2, rfl⟩ := row_shape2 ho
  have A7 := Hid.mk (blk_gb A6.out hg' hne)
  have B7 := Hid.mk (blk_gb B6.out hg' hqr)
  have O2 : Hid (w7.ownsRow Y0.heap.size 90 4 (.slice s2 L2.length m2) L2.length (L2.flatMap Is.cells)) := ho.mono (by have := G6.out.size; omega)
  have O1' := Hid.mk (row_rec O1.out D6.out.x hg' (by decide))
  clear O1
  have G7 := Hid.mk (gb_trans G6.out hg')
  have hgs := hg'.size
  have D7 := Hid.mk hd'
  have T7 := Hid.mk (S6.out.blk k1' k2' (fun e t' ht => by
    have := E6.out e
    refine ⟨R, S, x, y, z, flatI L1 ++ t', by simp, ?_⟩
    (try simp only [List.length_append, flat_len'])
    omega))
  have S7 : Hid (Sem bs ([R, S, x, y, z] ++ flatI L1 ++ flatI L2) b7 f7) := T7.out.1
  have E7 : Hid (f7 = false → ((((0 ≤ x ∧ x ≤ 16384) ∧ (0 ≤ y ∧ y ≤ 16384)) ∧ (0 ≤ z ∧ z ≤ 16384)) ∧ L1.length = x.toNat) ∧ L2.length = y.toNat) := fun e => ⟨E6.out (back k1' e), T7.out.2 e⟩
  clear hd' hg' k1' k2' ho A6 B6 G6 D6 S6 T7 E6
  have O1 := O1'
  clear O1'
  have d0 := blk_cell B7.out 3
  have d1 := blk_unfrozen B7.out 3
  simp only [List.getElem?_toArray, List.getElem?_cons_zero, List.getElem?_cons_succ] at d0
  go_upto_region 5 with fail
  clear d0 d1
  obtain ⟨Y1, hY⟩ : ∃ Y : World, Y = w7.setCell ⟨w2.heap.size, 3, none⟩ (.slice s2 L2.length m2) := ⟨_, rfl⟩
  rw [← hY]
  have U3b : Hid (Y0.heap.size ≤ w7.heap.size) := hgs
  have BY : Hid (Below w2.heap.size w7 Y1) := by unfold Hid; rw [hY]; exact (Below.refl w2.heap.size w7).setCell (show w2.heap.size ≤ (⟨w2.heap.size, 3, none⟩ : Addr).block from Nat.le_refl _) _
  have B7' : Hid (Y1.heap[w2.heap.size]? = some (.cells #[.int .i64 R, .int .i64 S, (.slice s1 L1.length m1), (.slice s2 L2.length m2), .slice none 0 0] 48)) := by unfold Hid; rw [hY]; have := blk_set B7.out 3 (.slice s2 L2.length m2); simpa using this
  have A7' : Hid (Y1.heap[w.heap.size]? = some (.cells #[.int .i64 0, .int .i64 0, .slice none 0 0, .slice none 0 0, .slice none 0 0] 48)) := by unfold Hid; rw [hY]; exact blk_set_other A7.out (by show w.heap.size ≠ w2.heap.size; omega) _
  have D7' := Hid.mk (D7.out.keep (w' := Y1) (BY.out.mono (by omega)) (BY.out.block r (by omega)))
  have G7' := Hid.mk (gb_of_below G7.out (w2 := Y1) (BY.out.mono (by omega)) BY.out.size)
  have O1' : Hid (Y1.ownsRow w.heap.size 90 4 (.slice s1 L1.length m1) L1.length (L1.flatMap Is.cells)) := by unfold Hid; rw [hY]; exact row_set O1.out B7.out (by decide)
  have O2' : Hid (Y1.ownsRow Y0.heap.size 90 4 (.slice s2 L2.length m2) L2.length (L2.flatMap Is.cells)) := by unfold Hid; rw [hY]; exact row_set O2.out B7.out (by decide)
  have U3a : Hid (Y0.heap.size ≤ Y1.heap.size) := Nat.le_trans U3b.out BY.out.size
  clear hY BY A7 B7 D7 G7 O1 O2
  have A7 := A7'
  have B7 := B7'
  have D7 := D7'
  have G7 := G7'
  have O1 := O1'
  have O2 := O2'
  clear A7' B7' D7' G7' O1' O2'
  have P2 : Hid (∀ g, (Value.slice s2 L2.length m2).ownBlock = some g → g < Y1.heap.size) := fun g hg => (O2.out.lt g hg).2
  have U2 := G7.out.size
  have U3 : Hid (Y0.heap.size ≤ Y1.heap.size) := U3a.out
  go_wp2_with fail
  refine (blockI r lo b7 f7 a7 c7 z z.toNat Y1 D7.out hr (fun e => by have := E7.out e; omega)).mono ?_
  rintro e w8 ⟨v, L3, b8, f8, a8, c8, rfl, ho, hl3, hd', hg', k1', k2'⟩
  obtain ⟨s3, m3, rfl⟩ := row_shape2 ho
  have A8 := Hid.mk (blk_gb A7.out hg' hne)
  have B8 := Hid.mk (blk_gb B7.out hg' hqr)
  have O3 : Hid (w8.ownsRow Y1.heap.size 90 4 (.slice s3 L3.length m3) L3.length (L3.flatMap Is.cells)) := ho.mono (by have := G7.out.size; omega)
  have O1' := Hid.mk (row_rec O1.out D7.out.x hg' (by decide))
  clear O1
  have O2' := Hid.mk (row_rec O2.out D7.out.x hg' (by decide))
  clear O2
  have G8 := Hid.mk (gb_trans G7.out hg')
  have hgs := hg'.size
  have D8 := Hid.mk hd'
  have T8 := Hid.mk (S7.out.blk k1' k2' (fun e t' ht => by
    have := E7.out e
    refine ⟨R, S, x, y, z, flatI L1 ++ flatI L2 ++ t', by simp, ?_⟩
    (try simp only [List.length_append, flat_len'])
    omega))
  have S8 : Hid (Sem bs ([R, S, x, y, z] ++ flatI L1 ++ flatI L2 ++ flatI L3) b8 f8) := T8.out.1
  have E8 : Hid (f8 = false → (((((0 ≤ x ∧ x ≤ 16384) ∧ (0 ≤ y ∧ y ≤ 16384)) ∧ (0 ≤ z ∧ z ≤ 16384)) ∧ L1.length = x.toNat) ∧ L2.length = y.toNat) ∧ L3.length = z.toNat) := fun e => ⟨E7.out (back k1' e), T8.out.2 e⟩
  clear hd' hg' k1' k2' ho A7 B7 G7 D7 S7 T8 E7
  have O1 := O1'
  clear O1'
  have O2 := O2'
  clear O2'
  have d0 := blk_cell B8.out 4
  have d1 := blk_unfrozen B8.out 4
  simp only [List.getElem?_toArray, List.getElem?_cons_zero, List.getElem?_cons_succ] at d0
  go_upto_region 6 with fail
  clear d0 d1
  obtain ⟨Y2, hY⟩ : ∃ Y : World, Y = w8.setCell ⟨w2.heap.size, 4, none⟩ (.slice s3 L3.length m3) := ⟨_, rfl⟩
  rw [← hY]
  have BY : Hid (Below w2.heap.size w8 Y2) := by unfold Hid; rw [hY]; exact (Below.refl w2.heap.size w8).setCell (show w2.heap.size ≤ (⟨w2.heap.size, 4, none⟩ : Addr).block from Nat.le_refl _) _
  have B8' : Hid (Y2.heap[w2.heap.size]? = some (.cells #[.int .i64 R, .int .i64 S, (.slice s1 L1.length m1), (.slice s2 L2.length m2), (.slice s3 L3.length m3)] 48)) := by unfold Hid; rw [hY]; have := blk_set B8.out 4 (.slice s3 L3.length m3); simpa using this
  have A8' : Hid (Y2.heap[w.heap.size]? = some (.cells #[.int .i64 0, .int .i64 0, .slice none 0 0, .slice none 0 0, .slice none 0 0] 48)) := by unfold Hid; rw [hY]; exact blk_set_other A8.out (by show w.heap.size ≠ w2.heap.size; omega) _
  have D8' := Hid.mk (D8.out.keep (w' := Y2) (BY.out.mono (by omega)) (BY.out.block r (by omega)))
  have G8' := Hid.mk (gb_of_below G8.out (w2 := Y2) (BY.out.mono (by omega)) BY.out.size)
  have O1' : Hid (Y2.ownsRow w.heap.size 90 4 (.slice s1 L1.length m1) L1.length (L1.flatMap Is.cells)) := by unfold Hid; rw [hY]; exact row_set O1.out B8.out (by decide)
  have O2' : Hid (Y2.ownsRow Y0.heap.size 90 4 (.slice s2 L2.length m2) L2.length (L2.flatMap Is.cells)) := by unfold Hid; rw [hY]; exact row_set O2.out B8.out (by decide)
  have O3' : Hid (Y2.ownsRow Y1.heap.size 90 4 (.slice s3 L3.length m3) L3.length (L3.flatMap Is.cells)) := by unfold Hid; rw [hY]; exact row_set O3.out B8.out (by decide)
  clear hY BY A8 B8 D8 G8 O1 O2 O3
  have A8 := A8'
  have B8 := B8'
  have D8 := D8'
  have G8 := G8'
  have O1 := O1'
  have O2 := O2'
  have O3 := O3'
  clear A8' B8' D8' G8' O1' O2' O3'
  have d0 := blk_cell B8.out 0
  have u0 := blk_cell A8.out 0
  have t0 := blk_unfrozen A8.out 0
  have d1 := blk_cell B8.out 1
  have u1 := blk_cell A8.out 1
  have t1 := blk_unfrozen A8.out 1
  have d2 := blk_cell B8.out 2
  have u2 := blk_cell A8.out 2
  have t2 := blk_unfrozen A8.out 2
  have d3 := blk_cell B8.out 3
  have u3 := blk_cell A8.out 3
  have t3 := blk_unfrozen A8.out 3
  have d4 := blk_cell B8.out 4
  have u4 := blk_cell A8.out 4
  have t4 := blk_unfrozen A8.out 4
  simp only [List.getElem?_toArray, List.getElem?_cons_zero, List.getElem?_cons_succ] at d0 d1 d2 d3 d4 u0 u1 u2 u3 u4
  go_wp2
  obtain ⟨Z, hZ⟩ : ∃ Z : World, Z = Y2.setCells w.heap.size 0 [.int .i64 R, .int .i64 S, (.slice s1 L1.length m1), (.slice s2 L2.length m2), (.slice s3 L3.length m3)] := ⟨_, rfl⟩
  have hZ' : (((((Y2.setCell ⟨w.heap.size, 0, none⟩ (.int .i64 R)).setCell ⟨w.heap.size, 1, none⟩ (.int .i64 S)).setCell ⟨w.heap.size, 2, none⟩ (.slice s1 L1.length m1)).setCell ⟨w.heap.size, 3, none⟩ (.slice s2 L2.length m2)).setCell ⟨w.heap.size, 4, none⟩ (.slice s3 L3.length m3)) = Z := by rw [hZ]; rfl
  rw [hZ']
  have RZ : Z.heap[w.heap.size]? = some (.cells #[.int .i64 R, .int .i64 S, (.slice s1 L1.length m1), (.slice s2 L2.length m2), (.slice s3 L3.length m3)] 48) := by rw [← hZ']; have := blk_set (blk_set (blk_set (blk_set (blk_set A8.out 0 (.int .i64 R)) 1 (.int .i64 S)) 2 (.slice s1 L1.length m1)) 3 (.slice s2 L2.length m2)) 4 (.slice s3 L3.length m3); simpa using this
  have Q0 : Hid (Below w.heap.size Y2 Z) := by unfold Hid; rw [hZ]; exact Below.setCells' w.heap.size (Nat.le_refl _) _ 0 Y2 (Below.refl _ _)
  have DZ := Hid.mk (D8.out.keep (w' := Z) (Q0.out.mono (by omega)) (Q0.out.block r hrw))
  have GZ := Hid.mk (gb_of_below G8.out Q0.out Q0.out.size)
  have OK : Hid (∀ (B : Nat) (v : Value) (L : List Is), Y2.ownsRow B 90 4 v L.length (L.flatMap Is.cells) → Z.ownsRow B 90 4 v L.length (L.flatMap Is.cells)) := fun B v L ho => by
    rw [← hZ']
    exact row_set (row_set (row_set (row_set (row_set ho A8.out (by decide)) (blk_set A8.out 0 _) (by decide)) (blk_set (blk_set A8.out 0 _) 1 _) (by decide)) (blk_set (blk_set (blk_set A8.out 0 _) 1 _) 2 _) (by decide)) (blk_set (blk_set (blk_set (blk_set A8.out 0 _) 1 _) 2 _) 3 _) (by decide)
  clear hZ hZ' d0 d1 d2 d3 d4 u0 u1 u2 u3 u4 t0 t1 t2 t3 t4
  have z0 := blk_cell RZ 0
  have z1 := blk_cell RZ 1
  have z2 := blk_cell RZ 2
  have z3 := blk_cell RZ 3
  have z4 := blk_cell RZ 4
  simp only [List.getElem?_toArray, List.getElem?_cons_zero, List.getElem?_cons_succ] at z0 z1 z2 z3 z4
  refine bodyPost_ret (v := .agg #[.int .i64 R, .int .i64 S, (.slice s1 L1.length m1), (.slice s2 L2.length m2), (.slice s3 L3.length m3)]) (by simp [results, Tryd.results60, go_sem, z0, z1, z2, z3, z4]; try rfl) rfl ?_
  refine CodP.mk ⟨R, S, L1, L2, L3⟩ _ _ _ b8 f8 a8 c8 rfl (OK.out _ _ _ O1.out) _ _ ⟨U1, U3.out⟩ P1.out P2.out (OK.out _ _ _ O2.out) (OK.out _ _ _ O3.out) hl1 hl2 hl3 DZ.out GZ.out ⟨fun e => ?_, S8.out.2⟩
  have hl := S8.out.1 e
  have he := E8.out e
  have : [R, S, x, y, z] ++ flatI L1 ++ flatI L2 ++ flatI L3 = (Dc.mk R S L1 L2 L3).all := by
    have ex : x = (L1.length : Int) := by omega
    have ey : y = (L2.length : Int) := by omega
    have ez : z = (L3.length : Int) := by omega
    rw [ex, ey, ez]; simp [Dc.all]
  rw [← this]; exact hl
end Go.Proofs.YtdhnjkcebaahcaaDoor.Dec
