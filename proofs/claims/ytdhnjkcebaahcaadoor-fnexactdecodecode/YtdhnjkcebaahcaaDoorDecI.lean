import Derived.Test.YtdhnjkcebaahcaaDoorDecB
import Derived.Test.YtdhnjkcebaahcaaDoorKit
import Derived.Deep.DrawnRows
import Derived.Deep.CutRange
import Derived.Deep.Cut
import Derived.Deep.DeepCutAuto
namespace Go.Proofs.YtdhnjkcebaahcaaDoor.Dec
open Go Go.RowKit Go.Proofs.YtdhnjkcebaahcaaDoor.Mem Go.Proofs.YtdhnjkcebaahcaaDoor.ValC Go.Proofs.YtdhnjkcebaahcaaDoor.Enc
set_option linter.unusedVariables false
set_option linter.unusedSimpArgs false
attribute [local go_sem ↓] Go.wp_at_zero Go.wp_at_succ

theorem unzI (z : Nat) (w : World) (h : z < 2 ^ 40) : Calls Tryd.prog 101 #[.int .u64 (z : Int)] w fun e w' => e = .returned (.int .i64 (unz z)) ∧ w' = w := by
  by_cases hz : z % 2 = 1
  · have e1 : unz z = -((z : Int) / 2) - 1 := by unfold unz; rw [if_pos hz]; omega
    have q : (((z : Int) % 2) == 1) = true := by simp; omega
    rw [e1]
    go_enter Tryd.func101, Tryd.ntmps101
    go_wp2
    go_ret
    exact ⟨rfl, rfl⟩
  · have e1 : unz z = (z : Int) / 2 := by unfold unz; rw [if_neg hz]; omega
    have q : (((z : Int) % 2) == 1) = false := by simp; omega
    rw [e1]
    go_enter Tryd.func101, Tryd.ntmps101
    go_wp2
    go_ret
    exact ⟨rfl, rfl⟩

theorem shl_or (v b k : Nat) (hv : v < 128 ^ k) (hb : b < 256) (hk : k < 5) : bits BinOp.or IntKind.u64 (v : Int) (IntKind.u64.wrap (IntKind.u64.wrap (bits BinOp.and IntKind.u8 (b : Int) 127) * 2 ^ (7 * k))) = ((v + 128 ^ k * (b % 128) : Nat) : Int) := by
  have h1 : bits BinOp.and IntKind.u8 (b : Int) 127 = ((b % 128 : Nat) : Int) := by
    have := (bits_nat .u8 8 (by decide) (fun z h0 h1 => by rw [IntKind.wrap_u8]; omega) b 127 hb (by decide)).1
    rw [show ((127 : Nat) : Int) = 127 from rfl] at this
    rw [this, show b &&& 127 = b % 128 from Nat.and_two_pow_sub_one_eq_mod b 7]
  have hp : (2 : Nat) ^ (7 * k) = 128 ^ k := by rw [Nat.pow_mul]
  have hp4 : (128 : Nat) ^ k ≤ 128 ^ 4 := Nat.pow_le_pow_right (by omega) (by omega)
  have hx : 128 ^ k * (b % 128) < 128 ^ 5 := by
    have : b % 128 < 128 := Nat.mod_lt _ (by omega)
    exact Nat.lt_of_le_of_lt (Nat.mul_le_mul_right _ hp4) (by omega)
  have h2 : IntKind.u64.wrap (IntKind.u64.wrap ((b % 128 : Nat) : Int) * 2 ^ (7 * k)) = ((128 ^ k * (b % 128) : Nat) : Int) := by
    have e : IntKind.u64.wrap ((b % 128 : Nat) : Int) = ((b % 128 : Nat) : Int) := by rw [IntKind.wrap_u64]; omega
    have e2 : ((b % 128 : Nat) : Int) * 2 ^ (7 * k) = ((128 ^ k * (b % 128) : Nat) : Int) := by
      rw [Int.natCast_mul, Int.mul_comm, ← hp]; simp
    rw [e, e2, IntKind.wrap_u64]
    omega
  rw [h1, h2]
  have h3 := (bits_nat .u64 40 (by decide) (fun z h0 h1 => by rw [IntKind.wrap_u64]; omega) v (128 ^ k * (b % 128)) (by omega) (by omega)).2
  rw [h3]
  have h4 : 2 ^ (7 * k) * (b % 128) + v = 2 ^ (7 * k) * (b % 128) ||| v := Nat.two_pow_add_eq_or_of_lt (by rw [hp]; exact hv) _
  rw [hp] at h4
  rw [Nat.or_comm, ← h4, Nat.add_comm]
theorem grown_dset (w : World) (kk r i : Nat) (v : Value) : w.grownBy ((w.drewN kk).setCell ⟨r, i, none⟩ v) (some r) :=
  ⟨rfl, rfl, rfl, by simp [World.setCell], fun k _ hne => Below.heap_setCell (w.drewN kk) _ _ _ (fun e => hne (by rw [e]))⟩
theorem gb_more {w Z : World} {r i : Nat} {v : Value} (h : w.grownBy Z (some r)) : w.grownBy (Z.setCell ⟨r, i, none⟩ v) (some r) :=
  ⟨h.os, h.tape, h.output, by simp [World.setCell]; exact h.size, fun k hk hne => by rw [Below.heap_setCell _ _ _ _ (fun e => hne (by rw [e]))]; exact h.block k hk hne⟩
theorem one_ok {b : List UInt8} {k : Nat} (h : hib b = k) (hk : k < b.length) (h5 : k < 5) (hz : ¬ (0 < k ∧ (b.getD k 0).toNat = 0)) : one b = some (unz (valB (b.take (k + 1))), b.drop (k + 1)) := by
  unfold one; rw [h, if_pos ⟨hk, h5, hz⟩]
theorem one_zero {b : List UInt8} {k : Nat} (h : hib b = k) (h0 : 0 < k) (hz : (b.getD k 0).toNat = 0) : one b = none := by
  unfold one; rw [h, if_neg (fun e => e.2.2 ⟨h0, hz⟩)]
theorem one_far {b : List UInt8} {m : Nat} (h : m ≤ hib b) (hm : m = min b.length 5) : one b = none := by
  unfold one
  rw [if_neg]
  rintro ⟨h1, h2, -⟩
  have := hib_le b
  omega
theorem De.next {w : World} {r lo : Nat} {rest : List UInt8} {f f' : Bool} {a a' : Option Addr} {c c' k : Nat} (h : De w r lo rest f a c) (hr : lo ≤ r) (hk : k ≤ rest.length) (hc : c' = c - k) (ha : ∀ g o, a = some ⟨g, o, none⟩ → a' = if c = k then some ⟨g, o, none⟩ else some ⟨g, o + k, none⟩) (hp : ∀ p, a' = some p → ∃ q, a = some q ∧ q.block = p.block) {w' : World} (hx : w'.heap[r]? = some (.cells #[.slice a' (rest.length - k) c', .bool f'] 98)) (hg : w.grownBy w' (some r)) :
    De w' r lo (rest.drop k) f' a' c' := by
  have hl : (rest.drop k).length = rest.length - k := List.length_drop
  have hcap := h.cap
  refine ⟨by rw [hl]; exact hx, by rw [hl]; omega, ?_, fun p hp' => ?_, by rw [hl]; have := h.len; omega⟩
  · by_cases he : rest.drop k = []
    · exact Or.inl he
    · right
      have hkl : k < rest.length := by
        rcases Nat.lt_or_ge k rest.length with h' | h'
        · exact h'
        · exact absurd (List.drop_eq_nil_of_le h') he
      rcases h.rd with hn | ⟨g, o, ea, hcl⟩
      · rw [hn] at hkl; simp at hkl
      · refine ⟨g, o + k, ?_, fun j hj => ?_⟩
        · rw [ha g o ea, if_neg (by omega)]
        · rw [hl] at hj
          have := hcl (k + j) (by omega)
          have hlo : g < lo := h.low _ ea
          have hgl : g < w.heap.size := lt_of_cell this
          rw [World.cell?_of_block (a := ⟨g, o + k + j, none⟩) (hg.block g hgl (by intro e; injection e with e; omega))]
          rw [Nat.add_assoc, this]
          simp
  · obtain ⟨q, hq, hqb⟩ := hp p hp'
    rw [← hqb]; exact h.low q hq

/-- What reading a number leaves. -/
inductive NumP (w w' : World) (r lo : Nat) (rest : List UInt8) (f : Bool) (e : Ending) : Prop
  | mk (z : Int) (rest' : List UInt8) (f' : Bool) (a' : Option Addr) (c' : Nat) (he : e = .returned (.int .i64 z)) (hd : De w' r lo rest' f' a' c') (hg : w.grownBy w' (some r)) (h1 : f = true → f' = true) (h2 : f = false → (one rest = some (z, rest') ∧ f' = false) ∨ (one rest = none ∧ f' = true)) : NumP w w' r lo rest f e

set_option maxHeartbeats 1600000 in
set_option maxRecDepth 100000 in
theorem numberI (r lo : Nat) (rest : List UInt8) (f : Bool) (a : Option Addr) (c : Nat) (w : World) (hd : De w r lo rest f a c) (hr : lo ≤ r) :
    Calls Tryd.prog 89 #[.pointer (some ⟨r, 0, none⟩)] w fun e w' => NumP w w' r lo rest f e := by
  have D := Hid.mk hd
  have hcap := hd.cap
  have hlen := hd.len
  clear hd
  have x0 := blk_cell D.out.x 0
  have x1 := blk_cell D.out.x 1
  simp only [List.getElem?_toArray, List.getElem?_cons_zero, List.getElem?_cons_succ] at x0 x1
  obtain ⟨n, hn⟩ : ∃ n, n = rest.length := ⟨_, rfl⟩
  rw [← hn] at x0 hcap hlen
  have HN := Hid.mk hn
  clear hn
  obtain ⟨m, hm⟩ : ∃ m, m = min n 5 := ⟨_, rfl⟩
  go_enter Tryd.func89, Tryd.ntmps89
  go_upto_region 2 with fail
  go_cut [16, 17, 18] (fun v l i wx => v = .slice a m c ∧ l = .int .i64 (m : Int) ∧ i = .int .i64 0 ∧ ∃ k, wx = w.drewN k)
  case first =>
    by_cases h5 : n ≤ 5
    · obtain rfl : m = n := by omega
      clear hm
      have q1 : decide ((5 : Int) < (m : Int)) = false := by simp; omega
      have q2 : ¬ ((5 : Int) < (m : Int)) := by omega
      go_region
      go_wp2_with fail
      go_meet
      exact ⟨rfl, rfl, rfl, 1, rfl⟩
    · obtain rfl : m = 5 := by omega
      clear hm
      have q1 : (5 : Int) < (n : Int) := by omega
      go_region
      go_wp2_with fail
      go_meet
      exact ⟨rfl, rfl, rfl, 1, rfl⟩
  case rest =>
    obtain ⟨rfl, rfl, rfl, kk, rfl⟩ := hcut
    have hm5 : m ≤ 5 := by omega
    have HM := Hid.mk hm
    have hmn : m ≤ n := by omega
    clear hm x0 x1
    go_wp2_with fail
    go_loopw [3, 18] (fun z i wr => ∃ k : Nat, k ≤ m ∧ i = .int .i64 (k : Int) ∧ z = .int .u64 (valB (rest.take k) : Int) ∧ Hid (∀ j, j < k → 128 ≤ (rest.getD j 0).toNat) ∧ wr = w.drewN kk) (fun _ i _ => m - (intOf i).toNat)
    case atStart => exact ⟨0, Nat.zero_le _, rfl, rfl, fun j hj => by omega, rfl⟩
    case round =>
      obtain ⟨k, hk, rfl, rfl, hall, rfl⟩ := hrel
      by_cases hlt : k < m
      · have hkl : k < rest.length := by rw [← HN.out]; omega
        rcases D.out.rd with hnil | ⟨g, o, rfl, hcl⟩
        · rw [hnil] at hkl; simp at hkl
        have e0 := hcl k hkl
        have hst : Hid (valB (rest.take (k + 1)) = valB (rest.take k) + 128 ^ k * (rest[k].toNat % 128)) := by
          unfold Hid
          rw [List.take_add_one, List.getElem?_eq_getElem hkl]
          have := valB_app (rest.take k) rest[k]
          rw [List.length_take, Nat.min_eq_left (by omega)] at this
          simpa using this
        have hvl := valB_lt (rest.take k)
        rw [List.length_take, Nat.min_eq_left (by omega)] at hvl
        obtain ⟨b, hbb⟩ : ∃ b, b = rest[k].toNat := ⟨_, rfl⟩
        have hgd : Hid ((rest.getD k 0).toNat = b) := by unfold Hid; rw [hbb]; simp [List.getD, hkl]
        have hb256 : b < 256 := by rw [hbb]; exact UInt8.toNat_lt _
        obtain ⟨v, hv⟩ : ∃ v, v = valB (rest.take k) := ⟨_, rfl⟩
        rw [← hbb] at hst e0
        rw [← hv] at hst hvl
        have HVV := Hid.mk hv
        rw [← hv]
        clear hbb hv hcl
        have k0 : (0 : Int) ≤ (k : Int) := by omega
        have k1 : (k : Int) < (m : Int) := by omega
        have e7 : IntKind.i64.wrap (7 * (k : Int)) = 7 * (k : Int) := by rw [IntKind.wrap_i64]; omega
        go_upto_region 6 with fail
        have hz' := shl_or v b k hvl hb256 (by omega)
        rw [hz', ← hst.out]
        have hvl1 := valB_lt (rest.take (k + 1))
        have hv35 : valB (rest.take (k + 1)) < 2 ^ 35 := by
          rw [List.length_take, Nat.min_eq_left (by omega)] at hvl1
          have : (128 : Nat) ^ (k + 1) ≤ 128 ^ 5 := Nat.pow_le_pow_right (by omega) (by omega)
          omega
        obtain ⟨v1, hv1⟩ : ∃ v1, v1 = valB (rest.take (k + 1)) := ⟨_, rfl⟩
        rw [← hv1] at hv35 ⊢
        have HV1 := Hid.mk hv1
        clear hz' hvl1 hv1 hst hvl HVV
        by_cases hb : 128 ≤ b
        · have q1 : (128 : Int) ≤ (b : Int) := by omega
          have hall' : Hid (∀ j, j < k + 1 → 128 ≤ (rest.getD j 0).toNat) := fun j hj => by
            by_cases e : j = k
            · rw [e, hgd.out]; exact hb
            · exact hall.out j (by omega)
          go_wp2_with fail
          exact ⟨⟨k + 1, by omega, by first | go_num | rfl, by rw [← HV1.out], hall', by first | rfl | trivial⟩, by simp [intOf]; omega⟩
        · have q1 : decide ((128 : Int) ≤ (b : Int)) = false := by simp; omega
          have HI : Hid (hib rest = k) := hib_eq hkl hall.out (by rw [hgd.out]; omega)
          have x0 := blk_cell D.out.x 0
          have x1 := blk_cell D.out.x 1
          have y0 := blk_unfrozen D.out.x 0
          have y1 := blk_unfrozen D.out.x 1
          simp only [List.getElem?_toArray, List.getElem?_cons_zero, List.getElem?_cons_succ] at x0 x1
          rw [← HN.out] at x0
          have p1 : ((k : Int) + 1) ≤ (n : Int) := by omega
          have p2 : (n : Int) ≤ (c : Int) := by omega
          have p3 : IntKind.i64.wrap ((k : Int) + 1) = (k : Int) + 1 := by rw [IntKind.wrap_i64]; omega
          have p4 : ((k : Int) + 1).toNat = k + 1 := by omega
          have p5 : k + 1 ≤ n := by omega
          by_cases hc : c = k + 1
          · go_upto_region 8 with fail
            obtain ⟨Z, hZ⟩ : ∃ Z, Z = (w.drewN kk).setCell ⟨r, 0, none⟩ (.slice (some ⟨g, o, none⟩) (n - (k + 1)) (0)) := ⟨_, rfl⟩
            have ZX : Hid (Z.heap[r]? = some (.cells #[.slice (some ⟨g, o, none⟩) (n - (k + 1)) (0), .bool f] 98)) := by
              rw [hZ]; exact blk_set (w := w.drewN kk) D.out.x 0 _
            have ZG : Hid (w.grownBy Z (some r)) := by rw [hZ]; exact grown_dset w kk r 0 _
            rw [← hZ]
            clear hZ x0 x1 y0 y1
            have z1 := blk_cell ZX.out 1
            have u1 := blk_unfrozen ZX.out 1
            simp only [List.getElem?_toArray, List.getElem?_cons_zero, List.getElem?_cons_succ] at z1
            have FIN : Hid (∀ f' : Bool, De (Z.setCell ⟨r, 1, none⟩ (.bool f')) r lo (rest.drop (k + 1)) f' (some ⟨g, o, none⟩) (0) ∧ w.grownBy (Z.setCell ⟨r, 1, none⟩ (.bool f')) (some r)) := fun f' => by
              have hgr := gb_more ZG.out (i := 1) (v := .bool f')
              refine ⟨De.next (k := k + 1) D.out hr (by omega) (by omega) (fun g2 o2 e => by injection e with e; injection e with e1 e2; subst e1; subst e2; rw [if_pos hc]) (fun p hp => ⟨_, rfl, by injection hp with hp; rw [← hp]⟩) ?_ hgr, hgr⟩
              have := blk_set ZX.out 1 (.bool f')
              rw [← HN.out]; exact this
            clear ZX ZG
            cases f with
            | true =>
              go_wp2_with (go_at_call 101; refine (unzI v1 _ (by omega)).mono ?_; rintro e w' ⟨rfl, rfl⟩)
              go_ret
              exact NumP.mk _ _ true _ _ rfl (FIN.out true).1 (FIN.out true).2 (fun _ => rfl) (fun h => by cases h)
            | false =>
              by_cases b0 : b = 0
              · have q2 : ((b : Int) == 0) = true := by simp; omega
                by_cases k3 : 0 < k
                · have q3 : (0 : Int) < (k : Int) := by omega
                  have NN : Hid (one rest = none) := one_zero HI.out k3 (by rw [hgd.out]; exact b0)
                  clear b0
                  go_wp2_with (go_at_call 101; refine (unzI v1 _ (by omega)).mono ?_; rintro e w' ⟨rfl, rfl⟩)
                  go_ret
                  exact NumP.mk _ _ true _ _ rfl (FIN.out true).1 (FIN.out true).2 (fun h => by cases h) (fun _ => Or.inr ⟨NN.out, rfl⟩)
                · have q3 : decide ((0 : Int) < (k : Int)) = false := by simp; omega
                  have NN : Hid (one rest = some (unz v1, rest.drop (k + 1))) := by unfold Hid; rw [HV1.out]; exact one_ok HI.out hkl (by omega) (fun e => k3 e.1)
                  clear b0
                  go_wp2_with (go_at_call 101; refine (unzI v1 _ (by omega)).mono ?_; rintro e w' ⟨rfl, rfl⟩)
                  go_ret
                  exact NumP.mk _ _ false _ _ rfl (FIN.out false).1 (FIN.out false).2 (fun h => by cases h) (fun _ => Or.inl ⟨NN.out, rfl⟩)
              · have q2 : ((b : Int) == 0) = false := by simp; omega
                have NN : Hid (one rest = some (unz v1, rest.drop (k + 1))) := by unfold Hid; rw [HV1.out]; exact one_ok HI.out hkl (by omega) (fun e => b0 (by rw [← hgd.out]; exact e.2))
                go_wp2_with (go_at_call 101; refine (unzI v1 _ (by omega)).mono ?_; rintro e w' ⟨rfl, rfl⟩)
                go_ret
                exact NumP.mk _ _ false _ _ rfl (FIN.out false).1 (FIN.out false).2 (fun h => by cases h) (fun _ => Or.inl ⟨NN.out, rfl⟩)
          · go_upto_region 8 with fail
            obtain ⟨Z, hZ⟩ : ∃ Z, Z = (w.drewN kk).setCell ⟨r, 0, none⟩ (.slice (some ⟨g, o + (k + 1), none⟩) (n - (k + 1)) (c - (k + 1))) := ⟨_, rfl⟩
            have ZX : Hid (Z.heap[r]? = some (.cells #[.slice (some ⟨g, o + (k + 1), none⟩) (n - (k + 1)) (c - (k + 1)), .bool f] 98)) := by
              rw [hZ]; exact blk_set (w := w.drewN kk) D.out.x 0 _
            have ZG : Hid (w.grownBy Z (some r)) := by rw [hZ]; exact grown_dset w kk r 0 _
            rw [← hZ]
            clear hZ x0 x1 y0 y1
            have z1 := blk_cell ZX.out 1
            have u1 := blk_unfrozen ZX.out 1
            simp only [List.getElem?_toArray, List.getElem?_cons_zero, List.getElem?_cons_succ] at z1
            have FIN : Hid (∀ f' : Bool, De (Z.setCell ⟨r, 1, none⟩ (.bool f')) r lo (rest.drop (k + 1)) f' (some ⟨g, o + (k + 1), none⟩) (c - (k + 1)) ∧ w.grownBy (Z.setCell ⟨r, 1, none⟩ (.bool f')) (some r)) := fun f' => by
              have hgr := gb_more ZG.out (i := 1) (v := .bool f')
              refine ⟨De.next (k := k + 1) D.out hr (by omega) (rfl) (fun g2 o2 e => by injection e with e; injection e with e1 e2; subst e1; subst e2; rw [if_neg hc]) (fun p hp => ⟨_, rfl, by injection hp with hp; rw [← hp]⟩) ?_ hgr, hgr⟩
              have := blk_set ZX.out 1 (.bool f')
              rw [← HN.out]; exact this
            clear ZX ZG
            cases f with
            | true =>
              go_wp2_with (go_at_call 101; refine (unzI v1 _ (by omega)).mono ?_; rintro e w' ⟨rfl, rfl⟩)
              go_ret
              exact NumP.mk _ _ true _ _ rfl (FIN.out true).1 (FIN.out true).2 (fun _ => rfl) (fun h => by cases h)
            | false =>
              by_cases b0 : b = 0
              · have q2 : ((b : Int) == 0) = true := by simp; omega
                by_cases k3 : 0 < k
                · have q3 : (0 : Int) < (k : Int) := by omega
                  have NN : Hid (one rest = none) := one_zero HI.out k3 (by rw [hgd.out]; exact b0)
                  clear b0
                  go_wp2_with (go_at_call 101; refine (unzI v1 _ (by omega)).mono ?_; rintro e w' ⟨rfl, rfl⟩)
                  go_ret
                  exact NumP.mk _ _ true _ _ rfl (FIN.out true).1 (FIN.out true).2 (fun h => by cases h) (fun _ => Or.inr ⟨NN.out, rfl⟩)
                · have q3 : decide ((0 : Int) < (k : Int)) = false := by simp; omega
                  have NN : Hid (one rest = some (unz v1, rest.drop (k + 1))) := by unfold Hid; rw [HV1.out]; exact one_ok HI.out hkl (by omega) (fun e => k3 e.1)
                  clear b0
                  go_wp2_with (go_at_call 101; refine (unzI v1 _ (by omega)).mono ?_; rintro e w' ⟨rfl, rfl⟩)
                  go_ret
                  exact NumP.mk _ _ false _ _ rfl (FIN.out false).1 (FIN.out false).2 (fun h => by cases h) (fun _ => Or.inl ⟨NN.out, rfl⟩)
              · have q2 : ((b : Int) == 0) = false := by simp; omega
                have NN : Hid (one rest = some (unz v1, rest.drop (k + 1))) := by unfold Hid; rw [HV1.out]; exact one_ok HI.out hkl (by omega) (fun e => b0 (by rw [← hgd.out]; exact e.2))
                go_wp2_with (go_at_call 101; refine (unzI v1 _ (by omega)).mono ?_; rintro e w' ⟨rfl, rfl⟩)
                go_ret
                exact NumP.mk _ _ false _ _ rfl (FIN.out false).1 (FIN.out false).2 (fun h => by cases h) (fun _ => Or.inl ⟨NN.out, rfl⟩)
      · obtain rfl : m = k := by omega
        have k2 : ¬ ((m : Int) < (m : Int)) := by omega
        have x1 := blk_cell D.out.x 1
        have y1 := blk_unfrozen D.out.x 1
        simp only [List.getElem?_toArray, List.getElem?_cons_zero, List.getElem?_cons_succ] at x1
        have NN : Hid (one rest = none) := one_far (hib_ge (by rw [← HN.out]; exact hmn) hall.out) (by rw [← HN.out]; exact HM.out)
        have hgr : Hid (w.grownBy ((w.drewN kk).setCell ⟨r, 1, none⟩ (.bool true)) (some r)) := grown_dset w kk r 1 _
        have FIN : Hid (De ((w.drewN kk).setCell ⟨r, 1, none⟩ (.bool true)) r lo (rest.drop 0) true a c) :=
          De.next (k := 0) D.out hr (Nat.zero_le _) rfl (fun g o e => by rw [e]; split <;> rfl) (fun p hp => ⟨p, hp, rfl⟩) (blk_set (w := w.drewN kk) D.out.x 1 (.bool true)) hgr.out
        go_wp2
        go_ret
        exact NumP.mk _ _ true _ _ rfl FIN.out hgr.out (fun _ => rfl) (fun _ => Or.inr ⟨NN.out, rfl⟩)
end Go.Proofs.YtdhnjkcebaahcaaDoor.Dec
