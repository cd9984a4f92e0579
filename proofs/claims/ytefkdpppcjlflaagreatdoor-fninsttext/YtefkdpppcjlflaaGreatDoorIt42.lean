import Derived.Test.YtefkdpppcjlflaaGreatDoorIt41
import Derived.Lib.OthersKept
import Derived.Laws.BitsLemmas
namespace Go.Proofs.YtefkdpppcjlflaaGreatDoor.Print
open Go Go.RowKit Go.Proofs.YtefkdpppcjlflaaGreatDoor.Mem
set_option linter.unusedVariables false
set_option linter.unusedSimpArgs false
attribute [local go_sem ↓] Go.wp_at_zero Go.wp_at_succ

/-- The library's table of powers of ten lies where nothing from B on reaches. -/
def Tab (B : Nat) (w : World) : Prop := Lib.TabBelow Tryz.prog B w "internal/strconv.uint64pow10" .u64 Lib.pow10Tab
theorem Tab.on {B : Nat} {w w1 : World} (h : Tab B w) (hb : Below B w w1) : Tab B w1 := Lib.TabBelow.on h hb
theorem Tab.up {B B' : Nat} {w w1 : World} (h : Tab B w) (hb : Below B w w1) (hB : B ≤ B') : Tab B' w1 := fun w' h' => h w' (hb.trans (h'.mono hB))
/-- Below B nothing has turned, and no block has but those of bytes. -/
def Kp (B : Nat) (w w' : World) : Prop := Below B w w' ∧ Lib.OthersKept 5 none w w'
theorem Kp.refl (B : Nat) (w : World) : Kp B w w := ⟨Below.refl _ _, Lib.OthersKept.refl _ _ _⟩
theorem Kp.trans {B : Nat} {a b c : World} (h : Kp B a b) (k : Kp B b c) : Kp B a c := ⟨h.1.trans k.1, h.2.trans k.2⟩
theorem Kp.alloc {B : Nat} {a w : World} (h : Kp B a w) (hB : B ≤ w.heap.size) (o : Obj) : Kp B a (w.alloc o) := ⟨h.1.alloc hB o, h.2.alloc o⟩
theorem Own.kind {B : Nat} {w : World} {v : Value} {bs : List UInt8} (h : Own B w v bs) : ∀ g, v.ownBlock = some g → ∃ c fz, w.heap[g]? = some (.cells c 5 fz) := by
  intro g hg
  rcases h.2 with ⟨rfl, _⟩ | ⟨g', cap, cur, rfl, _, hgg, _⟩
  · simp [Value.ownBlock] at hg
  · simp [Value.ownBlock] at hg
    subst hg
    exact ⟨cur, _, hgg⟩
theorem Kp.grown {B : Nat} {a w w' : World} {v : Value} {bs : List UInt8} (h : Kp B a w) (ho : Own B w v bs) (hg : w.grownBy w' v.ownBlock) (hB : B ≤ w.heap.size) : Kp B a w' :=
  ⟨h.1.grown hg hB (fun k hk => (ho.lt k hk).1), h.2.grown hg ho.kind⟩
theorem Kp.blk {B g : Nat} {w w' : World} {cs : Array Value} {t : TypeId} {fr : Nat × Nat} (h : Kp B w w') (hb : w.heap[g]? = some (.cells cs t fr)) (ht : t ≠ 5) : w'.heap[g]? = some (.cells cs t fr) :=
  h.2 g _ hb (by intro e; cases e) (fun c fz e => ht (by injection e))

/-- The first k numbers, a blank ahead of each. -/
def nums (zs : List Int) : Nat → List UInt8
  | 0 => []
  | k + 1 => (nums zs k ++ [32]) ++ Lib.itoa (zs.getD k 0)
theorem nums_len {zs : List Int} (h : ∀ z ∈ zs, -1000000000 ≤ z ∧ z ≤ 1000000000) : ∀ k, k ≤ zs.length → (nums zs k).length ≤ 41 * k
  | 0, _ => by simp [nums]
  | k + 1, hk => by
    have ih := nums_len h k (by omega)
    have hz : zs.getD k 0 = zs[k] := by simp [List.getD, show k < zs.length by omega]
    have := h _ (List.getElem_mem (show k < zs.length by omega))
    have := itoa_le (z := zs.getD k 0) (by rw [hz]; omega) (by rw [hz]; omega)
    unfold nums
    rw [List.length_append, List.length_append, List.length_singleton]; omega

theorem own_snoc' {B n : Nat} {w : World} {v : Value} {bs : List UInt8} {b : UInt8} {z : Int} (hn : n = bs.length) (hz : (b.toNat : Int) = z) (h : w.ownsRow B 5 1 v (n + 1) (Lib.byteCells bs ++ [Value.int .u8 z])) : Own B w v (bs ++ [b]) := by
  subst hn; exact own_snoc hz h
theorem own_app' {B n m : Nat} {w : World} {v : Value} {bs cs : List UInt8} (hm : m = bs.length) (hn : n = cs.length) (h : w.ownsRow B 5 1 v (m + n) (Lib.byteCells bs ++ Lib.byteCells cs)) : Own B w v (bs ++ cs) := by
  subst hm; exact own_app hn h

set_option maxHeartbeats 3200000 in
set_option maxRecDepth 100000 in
theorem numbersI (B : Nat) (bs : List UInt8) (zs : List Int) (v : Value) (g : Nat) (w : World) (N : Nat) (hN : N = zs.length) (hown : Own B w v bs) (hB : B ≤ w.heap.size) (hT : Tab B w)
    (hblk : w.heap[g]? = some (.cells (zs.map (Value.int .i64)).toArray 2)) (hz : ∀ z ∈ zs, -1000000000 ≤ z ∧ z ≤ 1000000000) (hl : zs.length ≤ 20) (hbs : bs.length ≤ 10000000) :
    Calls Tryz.prog 19 #[v, .slice (some ⟨g, 0, none⟩) N N] w fun e w' => ∃ v', e = .returned v' ∧ Own B w' v' (bs ++ nums zs zs.length) ∧ Kp B w w' := by
  obtain ⟨i0, hi, hz0, hz1, hz2⟩ := info_parts infoB
  have HO := Hid.mk hown
  have HT := Hid.mk hT
  have HL := Hid.mk hblk
  have HZ := Hid.mk hz
  have HN := Hid.mk hN
  rw [← hN] at hl
  clear hown hT hblk hz hN
  obtain ⟨a, ca, hv⟩ := Own.shape HO.out
  rw [hv] at HO ⊢
  clear hv
  go_enter Tryz.func19, Tryz.ntmps19
  go_wp2
  go_loopw [0, 9] (fun v i wr => ∃ k : Nat, k ≤ N ∧ i = .int .i64 k ∧ Hid (Own B wr v (bs ++ nums zs k)) ∧ Hid (Kp B w wr)) (fun _ i _ => N - (intOf i).toNat)
  case atStart => exact ⟨0, by omega, rfl, by unfold nums; rw [List.append_nil]; exact HO, Kp.refl _ _⟩
  case round =>
    obtain ⟨k, hk, rfl, ho, hb⟩ := hrel
    have hnl := nums_len HZ.out k (by rw [← HN.out]; exact hk)
    obtain ⟨a, ca, hv⟩ := Own.shape ho.out
    rw [hv, List.length_append] at ho ⊢
    clear hv
    have hsz := hb.out.1.size
    by_cases hlt : k < N
    · have hkl : k < zs.length := by rw [← HN.out]; exact hlt
      have hc := blk_cell (hb.out.blk HL.out (by decide)) k
      have hzb := HZ.out _ (List.getElem_mem hkl)
      have hs : Hid (nums zs (k + 1) = (nums zs k ++ [32]) ++ Lib.itoa zs[k]) := by
        unfold Hid; rw [nums]; simp [List.getD, hkl]
      have hc' : wr.cell? ⟨g, k, none⟩ = some (.int .i64 zs[k]) := by rw [hc]; simp [hkl]
      clear hc
      have k0 : (0 : Int) ≤ (k : Int) := by omega
      have k1 : (k : Int) < (N : Int) := by omega
      go_wp2_with (at_builtin; refine wpList_append_own _ rfl _ _ 22 rfl B 5 i0 (.int .u8 0) 1 1 Tryz.underlying22 hi hz0 hz1 hz2 rfl (by decide) _ _ _ rfl (ho.out.alloc _) ⟨wr.heap.size, 0, none⟩ 1 1 [Value.int .u8 32] rfl rfl (by intro j u' hj; match j, hj with | 0, hj => simp at hj; subst hj; simp [Addr.add]) (by intro u' hu'; simp at hu'; subst hu'; rfl) (by rw [List.length_append]; unfold maxLen; omega) (by rw [List.length_append]; omega) (by simp; omega) ?_)
      intro v2 w2 hown2 hgrow _
      have hb2 : Hid (Kp B w w2) := (hb.out.alloc (by omega) _).grown (ho.out.alloc _) hgrow (by simp; omega)
      have ho2 : Hid (Own B w2 v2 ((bs ++ nums zs k) ++ [32])) := own_snoc' (by rw [List.length_append]) rfl hown2
      have hsz2 := hb2.out.1.size
      clear hown2 hgrow
      refine Hid.out ?_
      refine Lib.hid ?_
      go_wp2_with (go_at_call 37; refine (Tryz.strconv_AppendInt_10 B _ zs[k] (by omega) (by omega) _ _ _ ho2.out (by omega) (by rw [List.length_append, List.length_append, List.length_singleton]; omega) (HT.out.on hb2.out.1)).mono ?_; rintro e w3 ⟨v3, rfl, hown3, hb3, hk3⟩)
      have ho3 : Hid (Own B w3 v3 (bs ++ nums zs (k + 1))) := by
        rw [hs.out, ← List.append_assoc, ← List.append_assoc]; exact own_app rfl hown3
      have hb4 : Hid (Kp B w w3) := hb2.out.trans ⟨hb3, hk3⟩
      clear hown3 hb3 hk3
      go_wp2
      exact ⟨⟨k + 1, by omega, by go_num, ho3, hb4⟩, by simp [intOf]; omega⟩
    · obtain rfl : k = N := by omega
      go_wp2
      go_ret
      exact ⟨_, rfl, by rw [← HN.out]; exact ho.out, hb.out⟩

set_option maxHeartbeats 3200000 in
set_option maxRecDepth 100000 in
theorem placeI (B : Nat) (bs : List UInt8) (x y o c h : Int) (v : Value) (w : World) (hown : Own B w v bs) (hB : B ≤ w.heap.size) (hT : Tab B w) (hp : PB x y o c h) (hbs : bs.length ≤ 10000000) :
    Calls Tryz.prog 20 #[v, .agg #[.int .i64 x, .int .i64 y, .int .i64 o, .int .i64 c, .int .i64 h]] w fun e w' => ∃ v', e = .returned v' ∧ Own B w' v' (bs ++ nums [x, y, o, c, h] 5) ∧ Kp B w w' := by
  have HO := Hid.mk hown
  have HT := Hid.mk hT
  have HP := Hid.mk hp
  clear hown hT hp
  obtain ⟨a, ca, hv⟩ := Own.shape HO.out
  rw [hv] at HO ⊢
  clear hv
  go_enter Tryz.func20, Tryz.ntmps20
  go_wp2_with (go_at_call 19; refine (numbersI B bs [x, y, o, c, h] _ _ _ 5 rfl ((HO.out.alloc _).alloc _) (by simp; omega) (HT.out.on (((Kp.refl _ _).alloc hB _).alloc (by simp; omega) _).1) (blk_new1 _ _ _) (by intro z hz; have h0 := HP.out.x; have h1 := HP.out.y; have h2 := HP.out.o; have h3 := HP.out.c; have h4 := HP.out.h; simp only [List.mem_cons, List.not_mem_nil, or_false] at hz; rcases hz with rfl | rfl | rfl | rfl | rfl <;> assumption) (by simp) hbs).mono ?_; rintro e w3 ⟨v3, rfl, hown3, hb3⟩)
  go_wp2
  go_ret
  exact ⟨v3, rfl, hown3, (((Kp.refl _ _).alloc hB _).alloc (by simp; omega) _).trans hb3⟩

theorem pow_small {k : Nat} (h : k < 16) : 2 ^ k < 2 ^ 17 := Nat.pow_lt_pow_right (by decide) (by omega)
theorem wrap_pow {k : Nat} (h : k < 16) : wrap64 ((2 : Int) ^ k) = ((2 ^ k : Nat) : Int) := by
  have e : ((2 : Int) ^ k) = ((2 ^ k : Nat) : Int) := by norm_cast
  have := pow_small h
  rw [e]
  generalize 2 ^ k = q at *
  unfold wrap64
  omega
theorem and_pow (n k : Nat) : (n &&& 2 ^ k = 0) ↔ n.testBit k = false := by
  constructor
  · intro h
    have := congrArg (fun x => x.testBit k) h
    simpa [Nat.testBit_and, Nat.testBit_two_pow] using this
  · intro h
    apply Nat.eq_of_testBit_eq
    intro i
    rw [Nat.testBit_and, Nat.testBit_two_pow, Nat.zero_testBit]
    by_cases e : k = i
    · subst e; simp [h]
    · simp [e]
theorem bit_and (s : Int) (k : Nat) (h0 : 0 ≤ s) (h1 : s ≤ 65535) (hk : k < 16) : (bits BinOp.and IntKind.i64 s (wrap64 (2 ^ k)) != 0) = bit s k := by
  obtain ⟨n, rfl⟩ := Int.eq_ofNat_of_zero_le h0
  rw [wrap_pow hk, (bits_nat .i64 17 (by decide) (fun z h0 h1 => by rw [IntKind.wrap_i64]; omega) n (2 ^ k) (by omega) (pow_small hk)).1]
  have hp := and_pow n k
  unfold bit
  rw [Nat.testBit_eq_decide_div_mod_eq] at hp
  rw [Int.toNat_natCast]
  generalize n / 2 ^ k % 2 = q at *
  generalize n &&& 2 ^ k = r at *
  rw [Bool.eq_iff_iff]
  simp at hp ⊢
  omega

theorem tg_mod (s : Int) : ∀ k, tg s k = [] → s.toNat % 2 ^ k = 0
  | 0, _ => by simp [Nat.mod_one]
  | k + 1, h => by
    cases hb : bit s k with
    | true => rw [tg_yes hb] at h; simp at h
    | false =>
      rw [tg_no hb] at h
      have ih := tg_mod s k h
      have h1 : s.toNat / 2 ^ k % 2 = 0 := by
        simp [bit] at hb; omega
      rw [Nat.pow_succ, Nat.mod_mul, ih, h1]
      simp
theorem tag_some {s : Int} (h0 : 0 < s) (h1 : s ≤ 65535) : tagText s = tg s 16 := by
  unfold tagText
  rw [if_neg]
  intro h
  have := tg_mod s 16 h
  omega
theorem tg_zero (k : Nat) : tg 0 k = [] := by
  induction k with
  | zero => rfl
  | succ m ih => rw [tg_no (by simp [bit]), ih]
theorem tag_none : tagText 0 = [45] := by unfold tagText; rw [if_pos (tg_zero 16)]

set_option maxHeartbeats 3200000 in
set_option maxRecDepth 100000 in
theorem tagsI (B : Nat) (bs : List UInt8) (s : Int) (v : Value) (w : World) (hown : Own B w v bs) (hB : B ≤ w.heap.size) (h0 : 0 ≤ s) (h1 : s ≤ 65535) (hbs : bs.length ≤ 10000000) :
    Calls Tryz.prog 21 #[v, .int .i64 s] w fun e w' => ∃ v', e = .returned v' ∧ Own B w' v' ((bs ++ [32]) ++ tagText s) ∧ Kp B w w' := by
  obtain ⟨i0, hi, hz0, hz1, hz2⟩ := info_parts infoB
  have HO := Hid.mk hown
  clear hown
  obtain ⟨a, ca, hv⟩ := Own.shape HO.out
  rw [hv] at HO ⊢
  clear hv
  by_cases hs : s = 0
  · subst hs
    go_enter Tryz.func21, Tryz.ntmps21
    go_wp2_with (at_builtin; refine wpList_append_own _ rfl _ _ 22 rfl B 5 i0 (.int .u8 0) 1 1 Tryz.underlying22 hi hz0 hz1 hz2 rfl (by decide) _ _ _ rfl (HO.out.alloc _) ⟨w.heap.size, 0, none⟩ 1 1 [Value.int .u8 32] rfl rfl (by intro j u' hj; match j, hj with | 0, hj => simp at hj; subst hj; simp [Addr.add]) (by intro u' hu'; simp at hu'; subst hu'; rfl) (by unfold maxLen; omega) (by omega) (by simp; omega) ?_)
    intro v2 w2 hown2 hgrow _
    have hb2 : Hid (Kp B w w2) := ((Kp.refl _ _).alloc hB _).grown (HO.out.alloc _) hgrow (by simp; omega)
    have ho2 : Hid (Own B w2 v2 (bs ++ [32])) := own_snoc rfl hown2
    have hsz2 := hb2.out.1.size
    clear hown2 hgrow
    obtain ⟨a2, ca2, hv⟩ := Own.shape ho2.out
    rw [hv, List.length_append, List.length_singleton] at ho2 ⊢
    clear hv
    go_wp2_with (at_builtin; refine wpList_append_own _ rfl _ _ 22 rfl B 5 i0 (.int .u8 0) 1 1 Tryz.underlying22 hi hz0 hz1 hz2 rfl (by decide) _ _ _ rfl (ho2.out.alloc _) ⟨w2.heap.size, 0, none⟩ 1 1 [Value.int .u8 45] rfl rfl (by intro j u' hj; match j, hj with | 0, hj => simp at hj; subst hj; simp [Addr.add]) (by intro u' hu'; simp at hu'; subst hu'; rfl) (by rw [List.length_append, List.length_singleton]; unfold maxLen; omega) (by rw [List.length_append, List.length_singleton]; omega) (by simp; omega) ?_)
    intro v3 w3 hown3 hgrow3 _
    have hb3 : Hid (Kp B w w3) := (hb2.out.alloc (by omega) _).grown (ho2.out.alloc _) hgrow3 (by simp; omega)
    have ho3 : Hid (Own B w3 v3 ((bs ++ [32]) ++ tagText 0)) := by rw [tag_none]; exact own_snoc' (by rw [List.length_append, List.length_singleton]) rfl hown3
    clear hown3 hgrow3
    go_wp2
    go_ret
    exact ⟨v3, rfl, ho3.out, hb3.out⟩
  · have hs0 : 0 < s := by omega
    have hsb : (s == 0) = false := by simp; exact hs
    have HS := Hid.mk (tag_some hs0 h1)
    clear hs
    go_enter Tryz.func21, Tryz.ntmps21
    go_wp2_with (at_builtin; refine wpList_append_own _ rfl _ _ 22 rfl B 5 i0 (.int .u8 0) 1 1 Tryz.underlying22 hi hz0 hz1 hz2 rfl (by decide) _ _ _ rfl (HO.out.alloc _) ⟨w.heap.size, 0, none⟩ 1 1 [Value.int .u8 32] rfl rfl (by intro j u' hj; match j, hj with | 0, hj => simp at hj; subst hj; simp [Addr.add]) (by intro u' hu'; simp at hu'; subst hu'; rfl) (by unfold maxLen; omega) (by omega) (by simp; omega) ?_)
    intro v2 w2 hown2 hgrow _
    have hb2 : Hid (Kp B w w2) := ((Kp.refl _ _).alloc hB _).grown (HO.out.alloc _) hgrow (by simp; omega)
    have ho2 : Hid (Own B w2 v2 (bs ++ [32])) := own_snoc rfl hown2
    have hsz2 := hb2.out.1.size
    clear hown2 hgrow
    go_wp2
    go_loopw [0, 14] (fun v i wr => ∃ k : Nat, k ≤ 16 ∧ i = .int .i64 k ∧ Hid (Own B wr v ((bs ++ [32]) ++ tg s k)) ∧ Hid (Kp B w wr)) (fun _ i _ => 16 - (intOf i).toNat)
    case atStart => exact ⟨0, by omega, rfl, by unfold tg; rw [List.append_nil]; exact ho2, hb2⟩
    case round =>
      clear hb2 ho2 hsz2
      obtain ⟨k, hk, rfl, ho, hb⟩ := hrel
      have hl := tg_len s k
      have hsz := hb.out.1.size
      obtain ⟨a, ca, hv⟩ := Own.shape ho.out
      rw [hv, List.length_append, List.length_append, List.length_singleton] at ho ⊢
      clear hv
      by_cases hlt : k < 16
      · have k0 : (0 : Int) ≤ (k : Int) := by omega
        have k1 : (k : Int) < 16 := by omega
        have HU := Hid.mk (u8_letter k hlt)
        cases hbt : bit s k with
        | false =>
          have hq : (bits BinOp.and IntKind.i64 s (wrap64 (2 ^ k)) != 0) = false := by rw [bit_and s k h0 h1 hlt]; exact hbt
          have ho' : Hid (Own B wr (.slice a (bs.length + 1 + (tg s k).length) ca) ((bs ++ [32]) ++ tg s (k + 1))) := by rw [tg_no hbt]; exact ho
          clear hbt
          go_wp2
          exact ⟨⟨k + 1, by omega, by go_num, ho', hb⟩, by simp [intOf]; omega⟩
        | true =>
          have hq : (bits BinOp.and IntKind.i64 s (wrap64 (2 ^ k)) != 0) = true := by rw [bit_and s k h0 h1 hlt]; exact hbt
          have htg := Hid.mk (tg_yes hbt)
          clear hbt
          go_wp2_with (at_builtin; refine wpList_append_own _ rfl _ _ 22 rfl B 5 i0 (.int .u8 0) 1 1 Tryz.underlying22 hi hz0 hz1 hz2 rfl (by decide) _ _ _ rfl (ho.out.alloc _) ⟨wr.heap.size, 0, none⟩ 1 1 [Value.int .u8 (97 + k)] rfl rfl (by intro j u' hj; match j, hj with | 0, hj => simp at hj; subst hj; simp [Addr.add]) (by intro u' hu'; simp at hu'; subst hu'; rfl) (by rw [List.length_append, List.length_append, List.length_singleton]; unfold maxLen; omega) (by rw [List.length_append, List.length_append, List.length_singleton]; omega) (by simp; omega) ?_)
          intro v3 w3 hown3 hgrow3 _
          have hb3 : Hid (Kp B w w3) := (hb.out.alloc (by omega) _).grown (ho.out.alloc _) hgrow3 (by simp; omega)
          have ho3 : Hid (Own B w3 v3 ((bs ++ [32]) ++ tg s (k + 1))) := by
            rw [htg.out, ← List.append_assoc]
            refine own_snoc' (n := bs.length + ((tg s k).length + 1)) (by simp) HU.out ?_
            rw [List.append_assoc, List.singleton_append]
            exact hown3
          clear hown3 hgrow3
          go_wp2
          exact ⟨⟨k + 1, by omega, by go_num, ho3, hb3⟩, by simp [intOf]; omega⟩
      · obtain rfl : k = 16 := by omega
        go_wp2
        go_ret
        exact ⟨_, rfl, by rw [HS.out]; exact ho.out, hb.out⟩
end Go.Proofs.YtefkdpppcjlflaaGreatDoor.Print
