import Derived.Test.YtdhnjkcebaahcaaGreatDoorTagS
namespace Go.Proofs.YtdhnjkcebaahcaaGreatDoor.Parse
open Go Go.RowKit Go.Proofs.YtdhnjkcebaahcaaGreatDoor.Mem
set_option linter.unusedVariables false
set_option linter.unusedSimpArgs false
attribute [local go_sem ↓] Go.wp_at_zero Go.wp_at_succ

theorem wrap_small {z : Int} (h0 : 0 ≤ z) (h1 : z ≤ 1000000000000) : wrap64 z = z := by unfold wrap64; omega
theorem tagsV_bound {f : List UInt8} (h : ∀ k, k < f.length → (f.getD k 0).toNat = 45 ∨ (97 ≤ (f.getD k 0).toNat ∧ (f.getD k 0).toNat ≤ 112)) : ∀ k, k ≤ f.length → 0 ≤ tagsV f k ∧ tagsV f k ≤ 32768 * k := by
  intro k
  induction k with
  | zero => intro _; simp [tagsV]
  | succ m ih =>
    intro hm
    have := ih (by omega)
    rw [tagsV]
    rcases h m (by omega) with e | ⟨e1, e2⟩
    · rw [if_pos e]; omega
    · rw [if_neg (by omega)]
      have := pow15 e2
      omega

set_option maxHeartbeats 1600000 in
set_option maxRecDepth 100000 in
theorem tagsS (a : Option Addr) (f : List UInt8) (n c : Nat) (w : World) (hn : n = f.length) (hc : n ≤ c) (hr : Rd w a f) (hl : n ≤ 1000000) (hv : isTags f = true) :
    Calls Tryz.prog 23 #[.slice a n c] w fun e w' => e = .returned (.int .i64 (tagsV f f.length)) ∧ w' = w := by
  have hR := Hid.mk hr
  have hN := Hid.mk hn
  have HC := Hid.mk (tags_cases hv)
  have HT := Hid.mk (tagsV_bound HC.out)
  clear hr hn hv
  go_enter Tryz.func23, Tryz.ntmps23
  go_wp2
  go_loopw [3, 4] (fun s i wr => wr = w ∧ ∃ k : Nat, k ≤ n ∧ i = .int .i64 k ∧ s = .int .i64 (tagsV f k)) (fun _ i _ => n - (intOf i).toNat)
  case atStart => exact ⟨rfl, 0, Nat.zero_le _, rfl, rfl⟩
  case round =>
    obtain ⟨rfl, k, hk, rfl, rfl⟩ := hrel
    by_cases hlt : k < n
    · have hkl : k < f.length := by rw [← hN.out]; exact hlt
      obtain ⟨g, o, rfl⟩ := hR.out.some (by omega)
      have y1 := hR.out.at k hkl
      obtain ⟨q, hq⟩ : ∃ q, q = f[k].toNat := ⟨_, rfl⟩
      rw [← hq] at y1
      have hqd : (f.getD k 0).toNat = q := by rw [getD_of hkl, hq]
      have HS : Hid (tagsV f (k + 1) = tagsV f k + (if q = 45 then 0 else 2 ^ (q - 97))) := by unfold Hid; rw [tagsV, hqd]
      have hcs := HC.out k hkl
      rw [hqd] at hcs
      have hb := HT.out k (by omega)
      obtain ⟨S, hS⟩ : ∃ S, S = tagsV f k := ⟨_, rfl⟩
      rw [← hS] at hb HS ⊢
      clear hq hqd hS
      by_cases h45 : q = 45
      · have HS' : Hid (tagsV f (k + 1) = S) := by unfold Hid; rw [HS.out, if_pos h45]; omega
        subst h45
        clear HS hcs
        go_wp2
        exact ⟨⟨by first | exact trivial | rfl, k + 1, by omega, by go_num, by rw [HS'.out]⟩, by simp [intOf]; omega⟩
      · obtain ⟨h1, h2⟩ : 97 ≤ q ∧ q ≤ 112 := by omega
        obtain ⟨d, rfl⟩ : ∃ d, q = 97 + d := ⟨q - 97, by omega⟩
        have HS' : Hid (tagsV f (k + 1) = S + 2 ^ d) := by unfold Hid; rw [HS.out, if_neg h45]; congr 3; omega
        have h45' : ((97 : Int) + (d : Int) == 45) = false := by simp; omega
        have hp := pow15 (b := 97 + d) h2
        rw [Nat.add_sub_cancel_left] at hp
        clear HS hcs
        go_wp2
        refine ⟨⟨by first | exact trivial | rfl, k + 1, by omega, by go_num, ?_⟩, by simp [intOf]; omega⟩
        rw [HS'.out, wrap_small (z := 2 ^ d) (by omega) (by omega), wrap_small (by omega) (by omega)]
    · obtain rfl : k = n := by omega
      go_wp2
      go_ret
      rw [← hN.out]
      exact ⟨rfl, rfl⟩
end Go.Proofs.YtdhnjkcebaahcaaGreatDoor.Parse
