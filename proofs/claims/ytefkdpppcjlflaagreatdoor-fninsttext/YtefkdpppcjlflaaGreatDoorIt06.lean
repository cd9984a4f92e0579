import Derived.Test.YtefkdpppcjlflaaGreatDoorIt04
import Derived.Test.YtefkdpppcjlflaaGreatDoorIt02
import Derived.Laws.BitsLemmas
namespace Go.Proofs.YtefkdpppcjlflaaGreatDoor.Parse
open Go Go.RowKit Go.Proofs.YtefkdpppcjlflaaGreatDoor.Mem
set_option linter.unusedVariables false
set_option linter.unusedSimpArgs false
attribute [local go_sem ↓] Go.wp_at_zero Go.wp_at_succ

def numV (f : List UInt8) : Int := if isNum f then num f else 0
theorem num_bad {f : List UInt8} (h : isNum f = false) (bad : Bool) : numV f = 0 ∧ (bad || !isNum f) = true := by unfold numV; rw [h]; simp
theorem num_good {f : List UInt8} (h : isNum f = true) (bad : Bool) : numV f = num f ∧ (bad || !isNum f) = bad := by unfold numV; rw [h]; simp
theorem signed_iff {f : List UInt8} : (signed f = true ↔ f.head? = some 45) := by unfold signed; simp
theorem num_cases1 {f : List UInt8} (hs : plain (unsigned f) = false) : isNum f = false := by
  cases h : signed f with
  | true =>
    have := signed_iff.1 h
    unfold unsigned at hs; rw [h] at hs
    rw [(isNum_neg this).1]; simp at hs; rw [hs]; rfl
  | false =>
    have : f.head? ≠ some 45 := fun e => by rw [signed_iff.2 e] at h; cases h
    unfold unsigned at hs; rw [h] at hs
    rw [(isNum_pos this).1]; simpa using hs
theorem num_cases2 {f : List UInt8} (h : signed f = true) (hs : plain (unsigned f) = true) (hd : dec (unsigned f) = 0) : isNum f = false := by
  have := signed_iff.1 h
  unfold unsigned at hs hd; rw [h] at hs hd
  rw [(isNum_neg this).1]; simp at hs hd; rw [hs, hd]; rfl
theorem num_cases3 {f : List UInt8} (h : signed f = true) (hs : plain (unsigned f) = true) (hd : ¬ dec (unsigned f) = 0) : isNum f = true ∧ num f = - dec (unsigned f) := by
  have := signed_iff.1 h
  unfold unsigned at hs hd ⊢; rw [h] at hs hd ⊢
  simp at hs hd ⊢
  rw [(isNum_neg this).1, (isNum_neg this).2, hs]
  simpa using hd
theorem num_cases4 {f : List UInt8} (h : signed f = false) (hs : plain (unsigned f) = true) : isNum f = true ∧ num f = dec (unsigned f) := by
  have : f.head? ≠ some 45 := fun e => by rw [signed_iff.2 e] at h; cases h
  unfold unsigned at hs ⊢; rw [h] at hs ⊢
  simp at hs ⊢
  exact ⟨by rw [(isNum_pos this).1]; exact hs, (isNum_pos this).2⟩
theorem plain_bound {d : List UInt8} (h : plain d = true) : 0 ≤ dec d ∧ dec d ≤ 1000000000 := by
  simp only [plain, Bool.and_eq_true, decide_eq_true_eq] at h
  have := dec_small (d := d) (k := d.length) h.1.1.2 (by rw [List.take_length]; exact h.2)
  rwa [List.take_length] at this
theorem tl_len (sep : UInt8) (bs : List UInt8) : (tl sep bs).length ≤ bs.length := by unfold tl; rw [List.length_drop]; omega

set_option maxHeartbeats 1600000 in
set_option maxRecDepth 1000000 in
theorem numberI (B g : Nat) (bs : List UInt8) (bad : Bool) (w : World) (hB : B ≤ g) (hBs : B ≤ w.heap.size) (h : Cur B g w bs bad) (hl : bs.length ≤ 1000000) :
    Calls Tryz.prog 82 #[.pointer (some ⟨g, 0, none⟩)] w fun e w' => e = .returned (.int .i64 (numV (hd 32 bs))) ∧ Cur B g w' (tl 32 bs) (bad || !isNum (hd 32 bs)) ∧ w.grownBy w' (some g) := by
  have HCur := Hid.mk h
  clear h
  cases hp : plain (unsigned (hd 32 bs)) with
  | false =>
    have HV := Hid.mk (num_bad (num_cases1 hp) bad)
    have HP : Hid (plainR (unsigned (hd 32 bs)) = .tuple #[.int .i64 0, .bool false]) := plainR_bad hp
    obtain ⟨sg, hs⟩ : ∃ sg, signed (hd 32 bs) = sg := ⟨_, rfl⟩
    have HS := Hid.mk hs
    clear hp hs
    go_enter Tryz.func82, Tryz.ntmps82
    go_wp2_with (first
      | (go_at_call 54; refine (fieldI B g bs bad _ hB HCur.out hl).mono ?_; rintro e w1 ⟨⟨v1, rfl, t1⟩, c1, g1⟩; have T1 : Hid (Txt B (w1.alloc (.cells #[.int .u8 45] 5)) v1 (hd 32 bs)) := t1.below ((Below.refl _ _).alloc (Nat.le_trans hBs g1.size) _); have HA : Hid (Below w1.heap.size w1 (w1.alloc (.cells #[.int .u8 45] 5))) := (Below.refl _ _).alloc (Nat.le_refl _) _; have C1 : Hid (Cur B g (w1.alloc (.cells #[.int .u8 45] 5)) (tl 32 bs) bad) := c1.keep (Nat.le_trans hBs g1.size) HA.out; have G1 : Hid (w.grownBy (w1.alloc (.cells #[.int .u8 45] 5)) (some g)) := gb_then g1 (gb_below HA.out); clear t1 c1 g1)
      | (go_at_call 91; refine (cutPrefI B v1 (hd 32 bs) w1.heap.size 1 _ T1.out (by simp)).mono ?_; rintro e w2 ⟨⟨v2, rfl, t2⟩, rfl⟩; obtain ⟨p2, c2, rfl, hc2, hp2, hr2⟩ := t2.rd; have R2 := Hid.mk hr2; clear t2 hr2 hp2 hc2; rw [HS.out])
      | (go_at_call 92; refine (plainI _ (unsigned (hd 32 bs)) _ c2 _ rfl R2.out).mono ?_; rintro e w3 ⟨rfl, rfl⟩; rw [HP.out])
      | (go_at_call 93; refine (failI B g (tl 32 bs) bad _ hB C1.out).mono ?_; rintro e w4 ⟨rfl, c4, g4⟩; have C4 := Hid.mk c4; have G4 := Hid.mk (gb_then G1.out g4); clear c4 g4)
)
    go_ret
    rw [HV.out.1, HV.out.2]
    exact ⟨rfl, C4.out, G4.out⟩
  | true =>
    obtain ⟨D, hD⟩ : ∃ D, D = dec (unsigned (hd 32 bs)) := ⟨_, rfl⟩
    have HP : Hid (plainR (unsigned (hd 32 bs)) = .tuple #[.int .i64 D, .bool true]) := by unfold Hid plainR; rw [hp, hD]; rfl
    have hb := plain_bound hp
    rw [← hD] at hb
    obtain ⟨hb0, hb1⟩ := hb
    cases hs : signed (hd 32 bs) with
    | false =>
      have HS := Hid.mk hs
      have HV0 := num_cases4 hs hp
      have HV1 := num_good HV0.1 bad
      rw [HV0.2, ← hD] at HV1
      have HV := Hid.mk HV1
      clear hp hs hD HV0 HV1
      go_enter Tryz.func82, Tryz.ntmps82
      go_wp2_with (first
        | (go_at_call 54; refine (fieldI B g bs bad _ hB HCur.out hl).mono ?_; rintro e w1 ⟨⟨v1, rfl, t1⟩, c1, g1⟩; have T1 : Hid (Txt B (w1.alloc (.cells #[.int .u8 45] 5)) v1 (hd 32 bs)) := t1.below ((Below.refl _ _).alloc (Nat.le_trans hBs g1.size) _); have HA : Hid (Below w1.heap.size w1 (w1.alloc (.cells #[.int .u8 45] 5))) := (Below.refl _ _).alloc (Nat.le_refl _) _; have C1 : Hid (Cur B g (w1.alloc (.cells #[.int .u8 45] 5)) (tl 32 bs) bad) := c1.keep (Nat.le_trans hBs g1.size) HA.out; have G1 : Hid (w.grownBy (w1.alloc (.cells #[.int .u8 45] 5)) (some g)) := gb_then g1 (gb_below HA.out); clear t1 c1 g1)
        | (go_at_call 91; refine (cutPrefI B v1 (hd 32 bs) w1.heap.size 1 _ T1.out (by simp)).mono ?_; rintro e w2 ⟨⟨v2, rfl, t2⟩, rfl⟩; obtain ⟨p2, c2, rfl, hc2, hp2, hr2⟩ := t2.rd; have R2 := Hid.mk hr2; clear t2 hr2 hp2 hc2; rw [HS.out])
        | (go_at_call 92; refine (plainI _ (unsigned (hd 32 bs)) _ c2 _ rfl R2.out).mono ?_; rintro e w3 ⟨rfl, rfl⟩; rw [HP.out])
)
      go_ret
      rw [HV.out.1, HV.out.2]
      exact ⟨rfl, C1.out, G1.out⟩
    | true =>
      have HS := Hid.mk hs
      have v1 : IntKind.i64.wrap (-D) = -D := by rw [IntKind.wrap_i64]; omega
      by_cases h0 : D = 0
      · have HV := Hid.mk (num_bad (num_cases2 hs hp (by rw [← hD]; exact h0)) bad)
        have d0 : (D == 0) = true := by simpa using h0
        have h0' := Hid.mk h0
        clear hp hs hD h0
        go_enter Tryz.func82, Tryz.ntmps82
        go_wp2_with (first
          | (go_at_call 54; refine (fieldI B g bs bad _ hB HCur.out hl).mono ?_; rintro e w1 ⟨⟨v1, rfl, t1⟩, c1, g1⟩; have T1 : Hid (Txt B (w1.alloc (.cells #[.int .u8 45] 5)) v1 (hd 32 bs)) := t1.below ((Below.refl _ _).alloc (Nat.le_trans hBs g1.size) _); have HA : Hid (Below w1.heap.size w1 (w1.alloc (.cells #[.int .u8 45] 5))) := (Below.refl _ _).alloc (Nat.le_refl _) _; have C1 : Hid (Cur B g (w1.alloc (.cells #[.int .u8 45] 5)) (tl 32 bs) bad) := c1.keep (Nat.le_trans hBs g1.size) HA.out; have G1 : Hid (w.grownBy (w1.alloc (.cells #[.int .u8 45] 5)) (some g)) := gb_then g1 (gb_below HA.out); clear t1 c1 g1)
          | (go_at_call 91; refine (cutPrefI B v1 (hd 32 bs) w1.heap.size 1 _ T1.out (by simp)).mono ?_; rintro e w2 ⟨⟨v2, rfl, t2⟩, rfl⟩; obtain ⟨p2, c2, rfl, hc2, hp2, hr2⟩ := t2.rd; have R2 := Hid.mk hr2; clear t2 hr2 hp2 hc2; rw [HS.out])
          | (go_at_call 92; refine (plainI _ (unsigned (hd 32 bs)) _ c2 _ rfl R2.out).mono ?_; rintro e w3 ⟨rfl, rfl⟩; rw [HP.out])
          | (go_at_call 93; refine (failI B g (tl 32 bs) bad _ hB C1.out).mono ?_; rintro e w4 ⟨rfl, c4, g4⟩; have C4 := Hid.mk c4; have G4 := Hid.mk (gb_then G1.out g4); clear c4 g4)
)
        go_ret
        rw [HV.out.1, HV.out.2]
        exact ⟨rfl, C4.out, G4.out⟩
      · have d0 : (D == 0) = false := by simpa using h0
        have HV0 := num_cases3 hs hp (by rw [← hD]; exact h0)
        have HV1 := num_good HV0.1 bad
        rw [HV0.2, ← hD] at HV1
        have HV := Hid.mk HV1
        clear hp hs hD HV0 HV1 h0
        go_enter Tryz.func82, Tryz.ntmps82
        go_wp2_with (first
          | (go_at_call 54; refine (fieldI B g bs bad _ hB HCur.out hl).mono ?_; rintro e w1 ⟨⟨v1, rfl, t1⟩, c1, g1⟩; have T1 : Hid (Txt B (w1.alloc (.cells #[.int .u8 45] 5)) v1 (hd 32 bs)) := t1.below ((Below.refl _ _).alloc (Nat.le_trans hBs g1.size) _); have HA : Hid (Below w1.heap.size w1 (w1.alloc (.cells #[.int .u8 45] 5))) := (Below.refl _ _).alloc (Nat.le_refl _) _; have C1 : Hid (Cur B g (w1.alloc (.cells #[.int .u8 45] 5)) (tl 32 bs) bad) := c1.keep (Nat.le_trans hBs g1.size) HA.out; have G1 : Hid (w.grownBy (w1.alloc (.cells #[.int .u8 45] 5)) (some g)) := gb_then g1 (gb_below HA.out); clear t1 c1 g1)
          | (go_at_call 91; refine (cutPrefI B v1 (hd 32 bs) w1.heap.size 1 _ T1.out (by simp)).mono ?_; rintro e w2 ⟨⟨v2, rfl, t2⟩, rfl⟩; obtain ⟨p2, c2, rfl, hc2, hp2, hr2⟩ := t2.rd; have R2 := Hid.mk hr2; clear t2 hr2 hp2 hc2; rw [HS.out])
          | (go_at_call 92; refine (plainI _ (unsigned (hd 32 bs)) _ c2 _ rfl R2.out).mono ?_; rintro e w3 ⟨rfl, rfl⟩; rw [HP.out])
)
        go_ret
        rw [HV.out.1, HV.out.2]
        exact ⟨rfl, C1.out, G1.out⟩
end Go.Proofs.YtefkdpppcjlflaaGreatDoor.Parse
namespace Go.Proofs.YtefkdpppcjlflaaGreatDoor.Parse
open Go Go.RowKit Go.Proofs.YtefkdpppcjlflaaGreatDoor.Mem
set_option linter.unusedVariables false
set_option linter.unusedSimpArgs false

def okTag (f : List UInt8) (k : Nat) : Bool := decide (97 ≤ (f.getD k 0).toNat) && decide ((f.getD k 0).toNat ≤ 112) && (decide (k = 0) || decide ((f.getD (k - 1) 0).toNat < (f.getD k 0).toNat))
def isTags (f : List UInt8) : Bool := f == [45] || (decide (0 < f.length) && allB f.length (okTag f))
def tagsV (f : List UInt8) : Nat → Int
  | 0 => 0
  | k + 1 => tagsV f k + (if (f.getD k 0).toNat = 45 then 0 else 2 ^ ((f.getD k 0).toNat - 97))
theorem drewN2 (w : World) (m n : Nat) : ∃ q, (w.drewN m).drewN n = w.drewN q := ⟨m + n, by unfold World.drewN; simp [Nat.add_assoc]⟩
theorem getD_of {f : List UInt8} {k : Nat} (h : k < f.length) : f.getD k 0 = f[k] := by simp [List.getD, h]

theorem tags_cases {f : List UInt8} (h : isTags f = true) : ∀ k, k < f.length → (f.getD k 0).toNat = 45 ∨ (97 ≤ (f.getD k 0).toNat ∧ (f.getD k 0).toNat ≤ 112) := by
  intro k hk
  unfold isTags at h
  simp only [Bool.or_eq_true] at h
  rcases h with h | h
  · have : f = [45] := by simpa using h
    subst this
    simp at hk
    subst hk
    exact Or.inl rfl
  · simp only [Bool.and_eq_true] at h
    have hall : ∀ n, allB n (okTag f) = true → ∀ k, k < n → okTag f k = true := by
      intro n
      induction n with
      | zero => intro _ k hk; omega
      | succ m ih =>
        intro h k hk
        simp only [allB, Bool.and_eq_true] at h
        by_cases e : k = m
        · subst e; exact h.2
        · exact ih h.1 k (by omega)
    have := hall _ h.2 k hk
    unfold okTag at this
    simp only [Bool.and_eq_true, decide_eq_true_eq] at this
    exact Or.inr this.1
theorem pow15 {b : Nat} (h : b ≤ 112) : (2 : Int) ^ (b - 97) ≤ 32768 ∧ 1 ≤ (2 : Int) ^ (b - 97) := by
  have h1 : b - 97 ≤ 15 := by omega
  generalize b - 97 = k at *
  match k, h1 with
  | 0, _ | 1, _ | 2, _ | 3, _ | 4, _ | 5, _ | 6, _ | 7, _ | 8, _ | 9, _ | 10, _ | 11, _ | 12, _ | 13, _ | 14, _ | 15, _ => decide
end Go.Proofs.YtefkdpppcjlflaaGreatDoor.Parse
namespace Go.Proofs.YtefkdpppcjlflaaGreatDoor.Parse
open Go Go.RowKit Go.Proofs.YtefkdpppcjlflaaGreatDoor.Mem
set_option linter.unusedVariables false
set_option linter.unusedSimpArgs false
attribute [local go_sem ↓] Go.wp_at_zero Go.wp_at_succ

def tgsV (f : List UInt8) : Int := if isTags f then tagsV f f.length else 0
theorem tgs_bad {f : List UInt8} (h : isTags f = false) (bad : Bool) : tgsV f = 0 ∧ (bad || !isTags f) = true := by unfold tgsV; rw [h]; simp
theorem tgs_good {f : List UInt8} (h : isTags f = true) (bad : Bool) : tgsV f = tagsV f f.length ∧ (bad || !isTags f) = bad := by unfold tgsV; rw [h]; simp
theorem pow_le {a b : Nat} (h : a ≤ b) : (2 : Int) ^ a ≤ 2 ^ b := by
  have := Nat.pow_le_pow_right (show 2 > 0 by omega) h
  have e : ∀ k : Nat, (2 : Int) ^ k = ((2 ^ k : Nat) : Int) := fun k => by simp
  rw [e, e]
  omega
theorem pow_double (a : Nat) : (2 : Int) ^ (a + 1) = 2 * 2 ^ a := by rw [Int.pow_succ]; omega
/-- The letters so far ascend: their set against the last letter's value. -/
theorem tags_last {f : List UInt8} : ∀ k, k < f.length → allB (k + 1) (okTag f) = true → 2 ^ ((f.getD k 0).toNat - 97) ≤ tagsV f (k + 1) ∧ tagsV f (k + 1) < 2 ^ ((f.getD k 0).toNat - 97 + 1) := by
  intro k
  induction k with
  | zero =>
    intro _ h
    simp only [allB, Bool.true_and] at h
    unfold okTag at h
    simp only [Bool.and_eq_true, decide_eq_true_eq] at h
    rw [tagsV, tagsV, if_neg (by omega), pow_double]
    have := pow15 h.1.2
    omega
  | succ m ih =>
    intro hm h
    rw [allB, Bool.and_eq_true] at h
    obtain ⟨h1, h2⟩ := h
    have := ih (by omega) h1
    unfold okTag at h2
    simp only [Bool.and_eq_true, Bool.or_eq_true, decide_eq_true_eq, Nat.add_sub_cancel] at h2
    have hlt : (f.getD m 0).toNat < (f.getD (m + 1) 0).toNat := by rcases h2.2 with e | e <;> omega
    have hm97 : 97 ≤ (f.getD m 0).toNat := by
      rw [allB, Bool.and_eq_true] at h1
      have := h1.2
      unfold okTag at this
      simp only [Bool.and_eq_true, decide_eq_true_eq] at this
      exact this.1.1
    have hp := pow_le (a := (f.getD m 0).toNat - 97 + 1) (b := (f.getD (m + 1) 0).toNat - 97) (by omega)
    rw [tagsV, if_neg (by omega), pow_double]
    have : (0 : Int) < 2 ^ ((f.getD m 0).toNat - 97) := by have := (pow15 (b := (f.getD m 0).toNat) (by omega)).2; omega
    omega
theorem pow_16 {k : Nat} (h : k < 16) : 2 ^ k < 2 ^ 17 := Nat.pow_lt_pow_right (by decide) (by omega)
theorem wrap_2 {k : Nat} (h : k < 16) : wrap64 ((2 : Int) ^ k) = ((2 ^ k : Nat) : Int) := by
  have e : ((2 : Int) ^ k) = ((2 ^ k : Nat) : Int) := by norm_cast
  have := pow_16 h
  rw [e]
  generalize 2 ^ k = q at *
  unfold wrap64
  omega
theorem or_add {D : Int} {m : Nat} (h0 : 0 ≤ D) (hm : m < 16) (h : D < 2 ^ m) : bits BinOp.or IntKind.i64 D (wrap64 (2 ^ m)) = D + 2 ^ m := by
  obtain ⟨n, rfl⟩ := Int.eq_ofNat_of_zero_le h0
  have hn : n < 2 ^ m := by exact_mod_cast h
  have h17 := pow_16 hm
  rw [wrap_2 hm, (bits_nat .i64 17 (by decide) (fun z h0 h1 => by rw [IntKind.wrap_i64]; omega) n (2 ^ m) (by omega) h17).2]
  have e := Nat.two_pow_add_eq_or_of_lt hn 1
  rw [Nat.mul_one] at e
  rw [Nat.or_comm, ← e]
  push_cast
  omega

set_option maxHeartbeats 1600000 in
set_option maxRecDepth 1000000 in
theorem tagsI (B g : Nat) (bs : List UInt8) (bad : Bool) (w : World) (hB : B ≤ g) (hBs : B ≤ w.heap.size) (h : Cur B g w bs bad) (hl : bs.length ≤ 1000000) :
    Calls Tryz.prog 83 #[.pointer (some ⟨g, 0, none⟩)] w fun e w' => e = .returned (.int .i64 (tgsV (hd 32 bs))) ∧ Cur B g w' (tl 32 bs) (bad || !isTags (hd 32 bs)) ∧ w.grownBy w' (some g) := by
  have HCur := Hid.mk h
  clear h
  obtain ⟨f, hf⟩ : ∃ f, f = hd 32 bs := ⟨_, rfl⟩
  have hfl : f.length ≤ 1000000 := by
    rw [hf]; unfold hd
    have := (List.takeWhile_prefix (l := bs) (fun b => b != 32)).length_le
    omega
  have HF := Hid.mk hf
  rw [← hf]
  clear hf
  obtain ⟨n, hn⟩ : ∃ n, n = f.length := ⟨_, rfl⟩
  rw [← hn] at hfl
  have HN := Hid.mk hn
  by_cases h45 : f = [45]
  · have HV : Hid (tgsV f = 0 ∧ (bad || !isTags f) = bad) := by rw [h45]; exact ⟨rfl, by simp [isTags]⟩
    have e1 : (f == [45]) = true := by simpa using h45
    clear h45 hn
    go_enter Tryz.func83, Tryz.ntmps83
    go_wp2_with (first
      | (go_at_call 54; refine (fieldI B g bs bad _ hB HCur.out hl).mono ?_; rintro e w1 ⟨⟨v1, rfl, t1⟩, c1, g1⟩; rw [← HF.out] at t1; have C1 := Hid.mk c1; have G1 := Hid.mk g1; obtain ⟨p1, q1, rfl, hq1, hp1, hr1⟩ := t1.rd; rw [← HN.out]; have cv := conv_rd (P := Tryz.prog) w1 22 9 5 p1 n q1 f HN.out hr1 Tryz.underlying22 Tryz.underlying5 Tryz.underlying9; clear c1 g1 t1 hp1 hr1 hq1))
    go_ret
    rw [HV.out.1, HV.out.2]
    exact ⟨rfl, C1.out, G1.out⟩
  · have e1 : (f == [45]) = false := by simpa using h45
    have HT : Hid (isTags f = (decide (0 < n) && allB n (okTag f))) := by unfold Hid isTags; rw [e1, Bool.false_or, hn]
    clear h45 hn
    by_cases h0 : n = 0
    · have HV : Hid (tgsV f = 0 ∧ (bad || !isTags f) = true) := tgs_bad (by rw [HT.out, h0]; rfl) bad
      have n1 : ((n : Int) == 0) = true := by simp; omega
      clear h0
      go_enter Tryz.func83, Tryz.ntmps83
      go_wp2_with (first
        | (go_at_call 54; refine (fieldI B g bs bad _ hB HCur.out hl).mono ?_; rintro e w1 ⟨⟨v1, rfl, t1⟩, c1, g1⟩; rw [← HF.out] at t1; have C1 := Hid.mk c1; have G1 := Hid.mk g1; obtain ⟨p1, q1, rfl, hq1, hp1, hr1⟩ := t1.rd; rw [← HN.out]; have cv := conv_rd (P := Tryz.prog) w1 22 9 5 p1 n q1 f HN.out hr1 Tryz.underlying22 Tryz.underlying5 Tryz.underlying9; clear c1 g1 t1 hp1 hr1 hq1)
        | (go_at_call 93; refine (failI B g (tl 32 bs) bad _ hB C1.out).mono ?_; rintro e w4 ⟨rfl, c4, g4⟩; have C4 := Hid.mk c4; have G4 := Hid.mk (gb_then G1.out g4); clear c4 g4))
      go_ret
      rw [HV.out.1, HV.out.2]
      exact ⟨rfl, C4.out, G4.out⟩
    · have n1 : ((n : Int) == 0) = false := by simp; omega
      go_enter Tryz.func83, Tryz.ntmps83
      go_wp2_with (first
        | (go_at_call 54; refine (fieldI B g bs bad _ hB HCur.out hl).mono ?_; rintro e w1 ⟨⟨v1, rfl, t1⟩, c1, g1⟩; rw [← HF.out] at t1; have C1 := Hid.mk c1; have G1 := Hid.mk g1; obtain ⟨p1, q1, rfl, hq1, hp1, hr1⟩ := t1.rd; rw [← HN.out]; have cv := conv_rd (P := Tryz.prog) w1 22 9 5 p1 n q1 f HN.out hr1 Tryz.underlying22 Tryz.underlying5 Tryz.underlying9; have HR := Hid.mk hr1; obtain ⟨g', o', rfl⟩ := hr1.some (by rw [← HN.out]; omega); clear c1 g1 t1 hp1 hr1 hq1))
      clear cv
      go_loopw [4, 20] (fun v i wr => wr = w1 ∧ ∃ k : Nat, k ≤ n ∧ i = .int .i64 k ∧ ∃ D : Int, v = .int .i64 D ∧ 0 ≤ D ∧ D < 65536 ∧ Hid (D = tagsV f k) ∧ Hid (allB k (okTag f) = true)) (fun _ i _ => n - (intOf i).toNat)
      case atStart => exact ⟨rfl, 0, Nat.zero_le _, rfl, 0, rfl, Int.le_refl _, by decide, by simp [Hid, tagsV], rfl⟩
      case round =>
        obtain ⟨rfl, k, hk, rfl, D, rfl, hD0, hD1, hD, hall⟩ := hrel
        by_cases hlt : k < n
        · have hkl : k < f.length := by rw [← HN.out]; exact hlt
          have y1 := HR.out.at k hkl
          obtain ⟨q, hq⟩ : ∃ q, q = f[k].toNat := ⟨_, rfl⟩
          rw [← hq] at y1
          have HQ : Hid ((f.getD k 0).toNat = q) := by unfold Hid; rw [getD_of hkl, hq]
          clear hq
          have k1 : (k : Int) < (n : Int) := by omega
          by_cases hg : 97 ≤ q ∧ q ≤ 112
          · have a1 : decide ((q : Int) < 97) = false := by simp; omega
            have a2 : decide ((113 : Int) ≤ (q : Int)) = false := by simp; omega
            have a3 : IntKind.u8.wrap ((q : Int) - 97) = (q : Int) - 97 := by rw [IntKind.wrap_u8]; omega
            have a4 := pow15 hg.2
            obtain ⟨T, hT⟩ : ∃ T, wrap64 ((2 : Int) ^ (q - 97)) = T := ⟨_, rfl⟩
            have hTv : T = 2 ^ (q - 97) := by rw [← hT, wrap_2 (by omega)]; simp
            by_cases hge : T ≤ D
            · have HV : Hid (tgsV f = 0 ∧ (bad || !isTags f) = true) := tgs_bad (by
                rw [HT.out]
                have hb : okTag f k = false := by
                  cases k with
                  | zero => have := hD.out; rw [tagsV] at this; omega
                  | succ j =>
                    have ht := tags_last j (by omega) hall.out
                    rw [← hD.out] at ht
                    have hj : q ≤ (f.getD j 0).toNat := by
                      apply Nat.le_of_not_lt
                      intro hc
                      have h97 : 97 ≤ (f.getD j 0).toNat := by
                        have hh := hall.out
                        rw [allB, Bool.and_eq_true] at hh
                        have hh2 := hh.2
                        unfold okTag at hh2
                        simp only [Bool.and_eq_true, decide_eq_true_eq] at hh2
                        exact hh2.1.1
                      have := pow_le (a := (f.getD j 0).toNat - 97 + 1) (b := q - 97) (by omega)
                      omega
                    unfold okTag
                    rw [HQ.out, Nat.add_sub_cancel]
                    clear ht
                    generalize (f.getD j 0).toNat = r at hj ⊢
                    simp
                    omega
                rw [allB_false hlt hb]; simp) bad
              clear hTv a4
              go_wp2_with (go_at_call 93; refine (failI B g (tl 32 bs) bad _ hB C1.out).mono ?_; rintro e w4 ⟨rfl, c4, g4⟩; have C4 := Hid.mk c4; have G4 := Hid.mk (gb_then G1.out g4); clear c4 g4)
              go_ret
              rw [HV.out.1, HV.out.2]
              exact ⟨rfl, C4.out, G4.out⟩
            · have hlt2 : D < 2 ^ (q - 97) := by omega
              have o1 : bits BinOp.or IntKind.i64 D T = D + T := by rw [← hT, or_add hD0 (by omega) hlt2, wrap_2 (by omega)]; simp
              have hok : okTag f k = true := by
                unfold okTag
                rw [HQ.out]
                cases k with
                | zero => simp [hg.1, hg.2]
                | succ j =>
                  have ht := tags_last j (by omega) hall.out
                  rw [← hD.out] at ht
                  have : (f.getD j 0).toNat < q := by
                    apply Nat.lt_of_not_le
                    intro hc
                    have := pow_le (a := q - 97) (b := (f.getD j 0).toNat - 97) (by omega)
                    omega
                  rw [Nat.add_sub_cancel]
                  clear ht
                  generalize (f.getD j 0).toNat = r at this ⊢
                  simp [hg.1, hg.2, this]
              have ha : Hid (allB (k + 1) (okTag f) = true) := allB_succ hall.out hok
              have hD' : Hid (D + T = tagsV f (k + 1)) := by unfold Hid; rw [tagsV, HQ.out, if_neg (by omega), ← hD.out, hTv]
              have hb2 : D + T < 65536 := by omega
              have hb3 : 0 ≤ D + T := by omega
              have hge' : decide (T ≤ D) = false := by simpa using hge
              clear hTv a4 hlt2 hok
              go_wp2
              exact ⟨⟨by first | exact trivial | rfl, k + 1, by omega, by go_num, D + T, by first | rfl | simp [o1], hb3, hb2, hD', ha⟩, by simp [intOf]; omega⟩
          · have HV : Hid (tgsV f = 0 ∧ (bad || !isTags f) = true) := tgs_bad (by rw [HT.out, allB_false hlt (by unfold okTag; rw [HQ.out]; simp; omega)]; simp) bad
            by_cases hq1 : q < 97
            · have a1 : (q : Int) < 97 := by omega
              clear hg
              go_wp2_with (go_at_call 93; refine (failI B g (tl 32 bs) bad _ hB C1.out).mono ?_; rintro e w4 ⟨rfl, c4, g4⟩; have C4 := Hid.mk c4; have G4 := Hid.mk (gb_then G1.out g4); clear c4 g4)
              go_ret
              rw [HV.out.1, HV.out.2]
              exact ⟨rfl, C4.out, G4.out⟩
            · have a1 : decide ((q : Int) < 97) = false := by simp; omega
              have a2 : (113 : Int) ≤ (q : Int) := by omega
              clear hg
              go_wp2_with (go_at_call 93; refine (failI B g (tl 32 bs) bad _ hB C1.out).mono ?_; rintro e w4 ⟨rfl, c4, g4⟩; have C4 := Hid.mk c4; have G4 := Hid.mk (gb_then G1.out g4); clear c4 g4)
              go_ret
              rw [HV.out.1, HV.out.2]
              exact ⟨rfl, C4.out, G4.out⟩
        · obtain rfl : k = n := by omega
          have HV : Hid (tgsV f = D ∧ (bad || !isTags f) = bad) := by
            have := tgs_good (f := f) (by rw [HT.out, hall.out]; simp; omega) bad
            rw [← HN.out, ← hD.out] at this
            exact this
          have k1 : decide ((k : Int) < (k : Int)) = false := by simp
          go_wp2
          go_ret
          rw [HV.out.1, HV.out.2]
          exact ⟨rfl, C1.out, G1.out⟩
end Go.Proofs.YtefkdpppcjlflaaGreatDoor.Parse
