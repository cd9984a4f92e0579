import Derived.Test.YtdhnjkcebaahcaaDoorEncB
import Derived.Test.YtdhnjkcebaahcaaDoorKit
import Derived.Deep.DrawnRows
namespace Go.Proofs.YtdhnjkcebaahcaaDoor.Enc
open Go Go.RowKit Go.Proofs.YtdhnjkcebaahcaaDoor.Mem Go.Proofs.YtdhnjkcebaahcaaDoor.ValC
set_option linter.unusedVariables false
set_option linter.unusedSimpArgs false
attribute [local go_sem ↓] Go.wp_at_zero Go.wp_at_succ

theorem and127 (z : Nat) (h : z < 2 ^ 40) : bits BinOp.and IntKind.u64 (z : Int) 127 = ((z % 128 : Nat) : Int) := by
  have := (bits_nat .u64 40 (by decide) (fun z h0 h1 => by rw [IntKind.wrap_u64]; omega) z 127 h (by decide)).1
  rw [show ((127 : Nat) : Int) = 127 from rfl] at this
  rw [this]
  have e : z &&& 127 = z % 128 := Nat.and_two_pow_sub_one_eq_mod z 7
  rw [e]
theorem or128 (z : Nat) (h : z < 128) : bits BinOp.or IntKind.u64 (z : Int) 128 = ((128 + z : Nat) : Int) := by
  have := (bits_nat .u64 40 (by decide) (fun z h0 h1 => by rw [IntKind.wrap_u64]; omega) z 128 (by omega) (by decide)).2
  rw [show ((128 : Nat) : Int) = 128 from rfl] at this
  rw [this]
  have e : 128 ||| z = 2 ^ 7 * 1 + z := (Nat.two_pow_add_eq_or_of_lt (i := 7) h 1).symm
  rw [Nat.or_comm, e]

set_option maxHeartbeats 800000 in
theorem zigzagI (n : Int) (w : World) (h0 : -1000000000 ≤ n) (h1 : n ≤ 1000000000) : Calls Tryd.prog 87 #[.int .i64 n] w fun e w' => e = .returned (.int .u64 (zig n : Int)) ∧ w' = w := by
  by_cases hn : n < 0
  · have e1 : (zig n : Int) = -2 * n - 1 := by unfold zig; rw [if_pos hn]; omega
    rw [e1]
    go_enter Tryd.func87, Tryd.ntmps87
    go_wp2
    go_ret
    exact ⟨rfl, rfl⟩
  · have e1 : (zig n : Int) = 2 * n := by unfold zig; rw [if_neg hn]; omega
    have hn' : decide (n < 0) = false := by simpa using hn
    rw [e1]
    go_enter Tryd.func87, Tryd.ntmps87
    go_wp2
    go_ret
    exact ⟨rfl, rfl⟩

theorem take_step (zs : List Int) (k : Nat) (h : k < zs.length) : vrs (zs.take (k + 1)) = vrs (zs.take k) ++ vr zs[k] := by
  rw [List.take_add_one, vrs_app, List.getElem?_eq_getElem h]; simp [vrs]
theorem u8_of (m : Nat) (h : m < 256) : ((UInt8.ofNat m).toNat : Int) = (m : Int) := by rw [UInt8.toNat_ofNat']; omega
theorem take_len {zs : List Int} (h : ∀ z ∈ zs, -1000000000 ≤ z ∧ z ≤ 1000000000) (k : Nat) (hk : k ≤ zs.length) : (vrs (zs.take k)).length ≤ 5 * k := by
  have := vrs_len (l := zs.take k) (fun z hz => h z (List.mem_of_mem_take hz))
  rw [List.length_take] at this; omega

set_option maxHeartbeats 3200000 in
set_option maxRecDepth 100000 in
theorem codedI (B : Nat) (bs : List UInt8) (zs : List Int) (v : Value) (g : Nat) (w : World) (N : Nat) (hN : N = zs.length) (hown : Own B w v bs) (hB : B ≤ w.heap.size)
    (hblk : w.heap[g]? = some (.cells (zs.map (Value.int .i64)).toArray 2)) (hz : ∀ z ∈ zs, -1000000000 ≤ z ∧ z ≤ 1000000000) (hl : zs.length ≤ 20) (hbs : bs.length ≤ 10000000) :
    Calls Tryd.prog 55 #[v, .slice (some ⟨g, 0, none⟩) N N] w fun e w' => ∃ v', e = .returned v' ∧ Own B w' v' (bs ++ vrs zs) ∧ Kp B w w' := by
  obtain ⟨i0, hi, hz0, hz1, hz2⟩ := info_parts infoB
  have HO := Hid.mk hown
  have HL := Hid.mk hblk
  have HZ := Hid.mk hz
  have HN := Hid.mk hN
  rw [← hN] at hl
  clear hown hblk hz hN
  obtain ⟨a, ca, hv⟩ := Own.shape HO.out
  rw [hv] at HO ⊢
  clear hv
  go_enter Tryd.func55, Tryd.ntmps55
  go_wp2
  go_loopw [0, 10] (fun v i wr => ∃ k : Nat, k ≤ N ∧ i = .int .i64 k ∧ Hid (Own B wr v (bs ++ vrs (zs.take k))) ∧ Hid (Kp B w wr)) (fun _ i _ => N - (intOf i).toNat)
  case atStart => exact ⟨0, by omega, rfl, by unfold Hid; rw [List.take_zero, vrs, List.append_nil]; exact HO.out, Kp.refl _ _⟩
  case round =>
    obtain ⟨k, hk, rfl, ho, hb⟩ := hrel
    have hnl := take_len HZ.out k (by rw [← HN.out]; exact hk)
    by_cases hlt : k < N
    · have hkl : k < zs.length := by rw [← HN.out]; exact hlt
      have hc := blk_cell (hb.out.blk HL.out (by decide)) k
      have hzb := HZ.out _ (List.getElem_mem hkl)
      have hs : Hid (vrs (zs.take (k + 1)) = vrs (zs.take k) ++ vr zs[k]) := take_step zs k hkl
      have hc' : wr.cell? ⟨g, k, none⟩ = some (.int .i64 zs[k]) := by rw [hc]; simp [hkl]
      clear hc
      have hvr := vr_len hzb.1 hzb.2
      obtain ⟨bb, hbb⟩ : ∃ l, l = bs ++ vrs (zs.take k) := ⟨_, rfl⟩
      have hbl : bb.length ≤ 10000100 := by rw [hbb, List.length_append]; omega
      rw [← hbb] at ho
      have HBB := Hid.mk hbb
      clear hbb
      obtain ⟨x, hx⟩ : ∃ x, x = zs[k] := ⟨_, rfl⟩
      rw [← hx] at hc' hzb hs hvr
      clear hx
      have k0 : (0 : Int) ≤ (k : Int) := by omega
      have k1 : (k : Int) < (N : Int) := by omega
      obtain ⟨a, ca, hv⟩ := Own.shape ho.out
      rw [hv] at ho ⊢
      clear hv
      go_wp2_with (go_at_call 87; refine (zigzagI x _ hzb.1 hzb.2).mono ?_; rintro e w' ⟨rfl, rfl⟩)
      clear hc'
      have hzz : zig x < 2 ^ 32 := by unfold zig; split <;> omega
      go_loopw [0, 7] (fun v z wq => ∃ (y : Nat) (pre : List UInt8), z = .int .u64 (y : Int) ∧ y < 2 ^ 32 ∧ Hid (pre ++ grp y = grp (zig x)) ∧ Hid (Own B wq v (bb ++ pre)) ∧ Hid (Kp B w wq)) (fun _ z _ => (intOf z).toNat)
      case atStart => exact ⟨zig x, [], rfl, hzz, rfl, by unfold Hid; rw [List.append_nil]; exact ho.out, hb⟩
      case round =>
        obtain ⟨y, pre, rfl, hy, hp, hq, hkp⟩ := hrel
        have hpl : pre.length ≤ 5 := by
          have := congrArg List.length hp.out
          rw [List.length_append] at this
          unfold vr at hvr
          omega
        have hsz := hkp.out.1.size
        obtain ⟨a2, ca2, hv⟩ := Own.shape hq.out
        rw [hv, List.length_append] at hq ⊢
        clear hv
        by_cases hlo : y < 128
        · have q1 : decide ((127 : Int) < (y : Int)) = false := by simp; omega
          have HE : Hid (grp (zig x) = pre ++ [UInt8.ofNat y]) := by unfold Hid; rw [← hp.out, grp_lo hlo]
          have HU := Hid.mk (u8_of y (by omega))
          go_wp2_with (at_builtin; refine wpList_append_own _ rfl _ _ 28 rfl B 5 i0 (.int .u8 0) 1 1 Tryd.underlying28 hi hz0 hz1 hz2 rfl (by decide) _ _ _ rfl (hq.out.alloc _) ⟨wr.heap.size, 0, none⟩ 1 1 [Value.int .u8 (y : Int)] rfl rfl (by intro j u' hj; match j, hj with | 0, hj => simp at hj; subst hj; simp [Addr.add]) (by intro u' hu'; simp at hu'; subst hu'; rfl) (by rw [List.length_append]; unfold maxLen; omega) (by rw [List.length_append]; omega) (by simp; omega) ?_)
          intro v3 w3 hown3 hgrow3 _
          have hb3 : Hid (Kp B w w3) := (hkp.out.alloc (by omega) _).grown (hq.out.alloc _) hgrow3 (by simp; omega)
          have ho3 : Hid (Own B w3 v3 (bs ++ vrs (zs.take (k + 1)))) := by
            unfold Hid
            rw [hs.out, ← List.append_assoc, ← HBB.out, show vr x = grp (zig x) from rfl, HE.out, ← List.append_assoc]
            exact own_snoc' (by rw [List.length_append]) HU.out hown3
          clear hown3 hgrow3
          refine Hid.out ?_
          refine Lib.hid ?_
          go_wp2
          exact ⟨⟨k + 1, by omega, by go_num, ho3, hb3⟩, by simp [intOf]; omega⟩
        · have q1 : (127 : Int) < (y : Int) := by omega
          obtain ⟨t, ht⟩ : ∃ t, t = y % 128 := ⟨_, rfl⟩
          have ht1 : t < 128 := by omega
          have HE : Hid ((pre ++ [UInt8.ofNat (128 + t)]) ++ grp (y / 128) = grp (zig x)) := by unfold Hid; rw [← hp.out, grp_hi hlo, ← ht]; simp
          have HU : Hid (((UInt8.ofNat (128 + t)).toNat : Int) = bits BinOp.or IntKind.u64 (bits BinOp.and IntKind.u64 (y : Int) 127) 128 % 256) := by unfold Hid; rw [u8_of _ (by omega), and127 y (by omega), ← ht, or128 t ht1]; omega
          clear ht ht1
          go_wp2_with (at_builtin; refine wpList_append_own _ rfl _ _ 28 rfl B 5 i0 (.int .u8 0) 1 1 Tryd.underlying28 hi hz0 hz1 hz2 rfl (by decide) _ _ _ rfl (hq.out.alloc _) ⟨wr.heap.size, 0, none⟩ 1 1 [Value.int .u8 (bits BinOp.or IntKind.u64 (bits BinOp.and IntKind.u64 (y : Int) 127) 128 % 256)] rfl rfl (by intro j u' hj; match j, hj with | 0, hj => simp at hj; subst hj; simp [Addr.add]) (by intro u' hu'; simp at hu'; subst hu'; rfl) (by rw [List.length_append]; unfold maxLen; omega) (by rw [List.length_append]; omega) (by simp; omega) ?_)
          intro v3 w3 hown3 hgrow3 _
          have hb3 : Hid (Kp B w w3) := (hkp.out.alloc (by omega) _).grown (hq.out.alloc _) hgrow3 (by simp; omega)
          have ho3 : Hid (Own B w3 v3 (bb ++ (pre ++ [UInt8.ofNat (128 + t)]))) := by
            unfold Hid
            rw [← List.append_assoc]
            exact own_snoc' (by rw [List.length_append]) HU.out hown3
          clear hown3 hgrow3
          refine Hid.out ?_
          refine Lib.hid ?_
          go_wp2
          exact ⟨⟨y / 128, _, by rw [Int.natCast_ediv]; rfl, by omega, HE, ho3, hb3⟩, by simp [intOf]; omega⟩
    · obtain rfl : N = k := by omega
      go_wp2
      go_ret
      refine ⟨_, rfl, ?_, hb.out⟩
      have := ho.out
      rwa [List.take_of_length_le (by rw [← HN.out]; exact Nat.le_refl _)] at this

end Go.Proofs.YtdhnjkcebaahcaaDoor.Enc
