import Derived.Test.YtdhnjkcebaahcaaDoorDecT
import Derived.Test.YtdhnjkcebaahcaaDoorDecR
import Derived.Test.YtdhnjkcebaahcaaDoorMarksC
import Derived.Test.YtdhnjkcebaahcaaDoorEqC
namespace Go.Proofs.YtdhnjkcebaahcaaDoor.Dec
open Go Go.RowKit Go.Proofs.YtdhnjkcebaahcaaDoor.Mem Go.Proofs.YtdhnjkcebaahcaaDoor.ValC Go.Proofs.YtdhnjkcebaahcaaDoor.Enc
set_option linter.unusedVariables false
set_option linter.unusedSimpArgs false
attribute [local go_sem ↓] Go.wp_at_zero Go.wp_at_succ

set_option maxHeartbeats 3200000 in
set_option maxRecDepth 100000 in
theorem markBytesP (g n c : Nat) (k : Int) (w : World) (ht : w.there g 0 n) (hl : n ≤ 1048576) (h0 : 0 ≤ k) (h1 : k ≤ 100000000) :
    Calls Tryd.prog 14 #[.slice (some ⟨g, 0, none⟩) n c, .int .i64 k] w fun e w' => e = .returned (.int .i64 (k + n)) ∧ w.grownBy w' (some g) := by
  have HT := Hid.mk ht
  clear ht
  go_enter Tryd.func14, Tryd.ntmps14
  go_wp2
  go_loopw [1, 5] (fun kk i wr => ∃ j : Nat, j ≤ n ∧ i = .int .i64 j ∧ kk = .int .i64 (k + j) ∧ Hid (wr.there g 0 n) ∧ Hid (w.grownBy wr (some g))) (fun _ i _ => n - (intOf i).toNat)
  case atStart => exact ⟨0, Nat.zero_le _, rfl, by simp, HT, World.grownBy.refl _ _⟩
  case round =>
    obtain ⟨j, hj, rfl, rfl, ht, hg⟩ := hrel
    by_cases hlt : j < n
    · obtain ⟨c1, c2⟩ := ht.out j hlt
      obtain ⟨u, c1⟩ := Option.isSome_iff_exists.1 c1
      rw [Nat.zero_add] at c1 c2
      go_wp2
      exact ⟨⟨j + 1, by omega, by go_num, by congr 1; omega, World.there_setCells (w := wr) ht.out g j [_], hg.out.trans (gset _ _ _ _)⟩, by simp [intOf]; omega⟩
    · have hkn : j = n := by omega
      subst hkn
      go_wp2
      go_ret
      exact ⟨rfl, hg.out⟩

/-- A decoded code in memory of its own, from block B on. -/
structure OD (B : Nat) (w : World) (s1 s2 s3 : Option Addr) (m1 m2 m3 : Nat) (d : Dc) : Prop where
  co : CoAt w s1 s2 s3 d.co
  r1 : Rw B w 90 4 (.slice s1 d.L1.length m1) d.L1.length
  r2 : Rw B w 90 4 (.slice s2 d.L2.length m2) d.L2.length
  r3 : Rw B w 90 4 (.slice s3 d.L3.length m3) d.L3.length
  ap : Apart3 (.slice s1 d.L1.length m1) (.slice s2 d.L2.length m2) (.slice s3 d.L3.length m3)
  q1 : ∀ g, (Value.slice s1 d.L1.length m1).ownBlock = some g → B ≤ g ∧ g < w.heap.size
  q2 : ∀ g, (Value.slice s2 d.L2.length m2).ownBlock = some g → B ≤ g ∧ g < w.heap.size
  q3 : ∀ g, (Value.slice s3 d.L3.length m3).ownBlock = some g → B ≤ g ∧ g < w.heap.size
theorem OD.below {B : Nat} {w w' : World} {s1 s2 s3 : Option Addr} {m1 m2 m3 : Nat} {d : Dc} (h : OD B w s1 s2 s3 m1 m2 m3 d) (hb : Below w.heap.size w w') : OD B w' s1 s2 s3 m1 m2 m3 d :=
  ⟨h.co.below hb, h.r1.below hb, h.r2.below hb, h.r3.below hb, h.ap, fun g hg => ⟨(h.q1 g hg).1, Nat.lt_of_lt_of_le (h.q1 g hg).2 hb.size⟩, fun g hg => ⟨(h.q2 g hg).1, Nat.lt_of_lt_of_le (h.q2 g hg).2 hb.size⟩, fun g hg => ⟨(h.q3 g hg).1, Nat.lt_of_lt_of_le (h.q3 g hg).2 hb.size⟩⟩
theorem slice_gb {w w' : World} {s : Option Addr} {n m k g : Nat} {C : Nat → List Value} (h : SliceAt w s n k C) (hg : w.grownBy w' (some g)) (hC : ∀ i, ∃ v r, C i = v :: r) (hne : (Value.slice s n m).ownBlock ≠ some g) : SliceAt w' s n k C := by
  rcases h with h | ⟨b, off, rfl, h⟩
  · exact Or.inl h
  · refine Or.inr ⟨b, off, rfl, fun i hi j u hu => ?_⟩
    obtain ⟨v, r, hv⟩ := hC i
    have hlt : b < w.heap.size := lt_of_cell (h i hi 0 v (by rw [hv]; rfl))
    rw [World.cell?_of_block (a := ⟨b, off + i * k + j, none⟩) (hg.block b hlt (fun e => hne (by rw [← e]; rfl)))]
    exact h i hi j u hu
theorem cells_head (x : Is) : ∃ v r, x.cells = v :: r := ⟨_, _, rfl⟩
theorem OD.gb {B g : Nat} {w w' : World} {s1 s2 s3 : Option Addr} {m1 m2 m3 : Nat} {d : Dc} (h : OD B w s1 s2 s3 m1 m2 m3 d) (hg : w.grownBy w' (some g)) (hB : g < B) : OD B w' s1 s2 s3 m1 m2 m3 d := by
  have n1 : ∀ x, (Value.slice s1 d.L1.length m1).ownBlock = some x → some g ≠ some x := fun x hx e => by injection e with e; have := (h.q1 x hx).1; omega
  have n2 : ∀ x, (Value.slice s2 d.L2.length m2).ownBlock = some x → some g ≠ some x := fun x hx e => by injection e with e; have := (h.q2 x hx).1; omega
  have n3 : ∀ x, (Value.slice s3 d.L3.length m3).ownBlock = some x → some g ≠ some x := fun x hx e => by injection e with e; have := (h.q3 x hx).1; omega
  exact ⟨⟨slice_gb h.co.b1 hg (fun i => cells_head _) (m := m1) (fun e => n1 g e rfl), slice_gb h.co.b2 hg (fun i => cells_head _) (m := m2) (fun e => n2 g e rfl), slice_gb h.co.b3 hg (fun i => cells_head _) (m := m3) (fun e => n3 g e rfl)⟩, h.r1.gb hg n1, h.r2.gb hg n2, h.r3.gb hg n3, h.ap, fun x hx => ⟨(h.q1 x hx).1, Nat.lt_of_lt_of_le (h.q1 x hx).2 hg.size⟩, fun x hx => ⟨(h.q2 x hx).1, Nat.lt_of_lt_of_le (h.q2 x hx).2 hg.size⟩, fun x hx => ⟨(h.q3 x hx).1, Nat.lt_of_lt_of_le (h.q3 x hx).2 hg.size⟩⟩
theorem decP_od {w w' : World} {bs : List UInt8} {e : Ending} (h : DecP w w' bs e) : ∃ s1 s2 s3 m1 m2 m3, e = .returned (.agg #[.int .i64 (decA bs).R, .int .i64 (decA bs).S, .slice s1 (decA bs).L1.length m1, .slice s2 (decA bs).L2.length m2, .slice s3 (decA bs).L3.length m3]) ∧ OD w.heap.size w' s1 s2 s3 m1 m2 m3 (decA bs) ∧ Below w.heap.size w w' := by
  obtain ⟨s1, s2, s3, m1, m2, m3, he, B1, B2, hB, p1, p2, o1, o2, o3, l1, l2, l3, hb⟩ := h
  refine ⟨s1, s2, s3, m1, m2, m3, he, ⟨⟨own_slice o1, own_slice o2, own_slice o3⟩, row_rw o1, row_rw (o2.mono (by omega)), row_rw (o3.mono (by omega)), ⟨fun g hg => ⟨fun e => ?_, fun e => ?_⟩, fun g hg e => ?_⟩, o1.lt, (o2.mono (by omega)).lt, (o3.mono (by omega)).lt⟩, hb⟩
  · have := p1 g hg; have := (o2.lt g e).1; omega
  · have := p1 g hg; have := (o3.lt g e).1; omega
  · have := p2 g hg; have := (o3.lt g e).1; omega
theorem at_of {w : World} {g n lo hi : Nat} {bs : List UInt8} (hn : n = bs.length) (ht : w.there g 0 n) (hr : RdB w (some ⟨g, 0, none⟩) bs) (h1 : lo ≤ g) (h2 : g < hi) : MarksC.At lo hi w (some ⟨g, 0, none⟩) bs := fun j hj => by
  refine ⟨g, rfl, h1, h2, ?_, ?_⟩
  · rcases hr with h | ⟨g', o, e, h⟩
    · rw [h] at hj; simp at hj
    · injection e with e
      injection e with e1 e2
      subst e1; subst e2
      have := h j hj
      rw [Nat.zero_add] at this
      exact this
  · have := (ht j (by omega)).2
    rw [Nat.zero_add] at this
    exact this
theorem decA_len (bs : List UInt8) : (decA bs).L1.length ≤ 16384 ∧ (decA bs).L2.length ≤ 16384 ∧ (decA bs).L3.length ≤ 16384 := by
  unfold decA
  split
  · rename_i h
    exact ⟨h.choose_spec.1.2.1, h.choose_spec.1.2.2.1, h.choose_spec.1.2.2.2⟩
  · exact ⟨Nat.zero_le _, Nat.zero_le _, Nat.zero_le _⟩

end Go.Proofs.YtdhnjkcebaahcaaDoor.Dec
