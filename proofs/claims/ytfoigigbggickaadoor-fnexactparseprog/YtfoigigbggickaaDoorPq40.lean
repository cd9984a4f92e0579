import Derived.Test.YtfoigigbggickaaDoorPq39
import Derived.Test.YtfoigigbggickaaDoorPq38
namespace Go.Proofs.YtfoigigbggickaaDoor.Par
open Go Go.RowKit Go.Proofs.YtfoigigbggickaaDoor.Mem Go.Proofs.YtfoigigbggickaaDoor.Syn Go.Proofs.YtfoigigbggickaaDoor.Parse
set_option linter.unusedVariables false
set_option linter.unusedSimpArgs false
attribute [local go_sem ↓] Go.wp_at_zero Go.wp_at_succ

/-- The items of a text, from token i on. -/
def progL (T : Nat → Tk) (F : Nat) : Nat → List Im → Nat → Nat → Rs (List Im)
  | 0, _, _, _ => .out
  | n + 1, L, i, o => if (T i).k = 0 then .ok L else if 16 ≤ (T i).k ∧ (T i).k ≤ 24 then (if L.length = 100 then .bad 7 (T i).at' else (itemP T F i o).bnd fun x => progL T F n (L ++ [x.1]) x.2.1 x.2.2) else .bad 4 (T i).at'
/-- A text's items, or its first fault. -/
def progP (T : Nat → Tk) (F : Nat) : Rs (List Im) := if (T 0).k = 50 then .bad 2 (T 0).at' else if (T 0).k = 51 then .bad 3 (T 0).at' else progL T F 101 [] 0 0
theorem bnd_no {α β : Type} {r : Rs α} {F : α → Rs β} (h : r ≠ .out) (h' : ∀ x, r = .ok x → F x ≠ .out) : r.bnd F ≠ .out := by
  cases r with
  | out => exact absurd rfl h
  | bad c a => rw [bnd_bad]; simp
  | ok x => exact h' x rfl
theorem exp_no {T : Nat → Tk} {k i : Nat} : exp T k i ≠ .out := by
  unfold exp
  split
  · exact adv_no
  · simp
theorem num_no {T : Nat → Tk} {i : Nat} : numP T i ≠ .out := bnd_no exp_no fun _ _ => by simp
theorem name_no {T : Nat → Tk} {i : Nat} : nameP T i ≠ .out := bnd_no exp_no fun _ _ => by simp
theorem sgn_no {T : Nat → Tk} {i : Nat} : sgnP T i ≠ .out := by
  unfold sgnP
  split
  · exact bnd_no adv_no fun _ _ => bnd_no num_no fun _ _ => by simp
  · exact num_no
theorem span_no {T : Nat → Tk} {i : Nat} : spanP T i ≠ .out := bnd_no exp_no fun _ _ => bnd_no sgn_no fun _ _ => bnd_no exp_no fun _ _ => bnd_no sgn_no fun _ _ => by simp
theorem tag_no {T : Nat → Tk} {i : Nat} : tagP T i ≠ .out := by
  unfold tagP
  split
  · exact bnd_no adv_no fun _ _ => by simp
  · simp
/-- Fuel enough for every expression of a text. -/
def fuelT (t : List UInt8) : Nat := 12 * t.length + 12
theorem pxp_no (t : List UInt8) (i o : Nat) : pxP (tkT t) (fuelT t) i o ≠ .out := by
  refine bnd_no (fun e => ?_) fun _ _ => by simp
  have := (ans_all (T := tkT t) (N := t.length) (fun i hi => tk_end t i hi) (fuelT t)).1 1 i o 0 (by omega) (by omega) (by unfold fuelT; omega)
  rw [e] at this
  exact this
theorem itemK_no (t : List UInt8) (k j o : Nat) : itemK (tkT t) (fuelT t) k j o ≠ .out := by
  unfold itemK
  repeat' split
  · exact bnd_no name_no fun _ _ => bnd_no exp_no fun _ _ => bnd_no (pxp_no t _ _) fun _ _ => bnd_no exp_no fun _ _ => by simp
  · exact bnd_no (pxp_no t _ _) fun _ _ => bnd_no exp_no fun _ _ => by simp
  · exact bnd_no (pxp_no t _ _) fun _ _ => bnd_no exp_no fun _ _ => bnd_no sgn_no fun _ _ => bnd_no span_no fun _ _ => bnd_no exp_no fun _ _ => by simp
  · exact bnd_no (pxp_no t _ _) fun _ _ => bnd_no exp_no fun _ _ => bnd_no (pxp_no t _ _) fun _ _ => bnd_no exp_no fun _ _ => by simp
  · exact bnd_no tag_no fun _ _ => bnd_no tag_no fun _ _ => bnd_no exp_no fun _ _ => by simp
  · exact bnd_no num_no fun _ _ => bnd_no exp_no fun _ _ => by simp
  · exact bnd_no (pxp_no t _ _) fun _ _ => bnd_no span_no fun _ _ => bnd_no exp_no fun _ _ => by simp
  · exact bnd_no (pxp_no t _ _) fun _ _ => bnd_no exp_no fun _ _ => bnd_no num_no fun _ _ => bnd_no exp_no fun _ _ => by simp
theorem item_no (t : List UInt8) (i o : Nat) : itemP (tkT t) (fuelT t) i o ≠ .out := bnd_no adv_no fun _ _ => itemK_no t _ _ _
theorem progL_no (t : List UInt8) : ∀ (n : Nat) (L : List Im) (i o : Nat), 101 ≤ n + L.length → L.length ≤ 100 → progL (tkT t) (fuelT t) n L i o ≠ .out
  | 0, L, i, o, h, h' => by omega
  | n + 1, L, i, o, h, h' => by
    rw [progL]
    split
    · simp
    · split
      · split
        · simp
        · exact bnd_no (item_no t i o) fun x _ => progL_no t n _ _ _ (by simp; omega) (by simp; omega)
      · simp
theorem progP_no (t : List UInt8) : progP (tkT t) (fuelT t) ≠ .out := by
  unfold progP
  split
  · simp
  · split
    · simp
    · exact progL_no t 101 [] 0 0 (by simp) (by simp)
def itC (im : Im) (vE vF : Value) : List Value := [.int .i64 im.k, .string ⟨im.n.toArray⟩, vE, vF, .int .i64 im.K, .int .i64 im.lo, .int .i64 im.hi]
/-- The items' cells: every row in a block of its own, from s on and below e. -/
inductive Its (w : World) (s : Nat) : Nat → List Value → List Im → Prop
  | nil : Its w s s [] []
  | snoc (e e' : Nat) (cs : List Value) (L : List Im) (im : Im) (vE vF : Value) (m : Nat) (h : Its w s e cs L) (hi : ItO e w (.agg (itC im vE vF).toArray) im vE vF m) (hb : ∀ g, vF.ownBlock = some g → g < e') (hm : m ≤ e') : Its w s e' (cs ++ itC im vE vF) (L ++ [im])
theorem Its.le {w : World} {s e : Nat} {cs : List Value} {L : List Im} (h : Its w s e cs L) : s ≤ e := by
  induction h with
  | nil => exact Nat.le_refl _
  | snoc e e' cs L im vE vF m h hi hb hm ih => have := hi.sm; omega
theorem Its.up {w : World} {s e e2 : Nat} {cs : List Value} {L : List Im} (h : Its w s e cs L) (h2 : e ≤ e2) (hL : L ≠ []) : Its w s e2 cs L := by
  cases h with
  | nil => exact absurd rfl hL
  | snoc e e' cs L im vE vF m h hi hb hm => exact .snoc e e2 cs L im vE vF m h hi (fun g eg => Nat.lt_of_lt_of_le (hb g eg) h2) (by omega)
/-- What keeps rows of Ops from s on. -/
def KO (s : Nat) (w w' : World) : Prop := ∀ g C fr, s ≤ g → w.heap[g]? = some (.cells C 82 fr) → w'.heap[g]? = some (.cells C 82 fr)
theorem ItO.keep {s : Nat} {w w' : World} {v : Value} {im : Im} {vE vF : Value} {m : Nat} (h : ItO s w v im vE vF m) (hk : KO s w w') : ItO s w' v im vE vF m :=
  ⟨h.v, h.e.keepB hk, h.eb, h.sm, h.f.keepB (fun g C fr hg hc => hk g C fr (Nat.le_trans h.sm hg) hc)⟩
theorem Its.keep {w w' : World} {s e : Nat} {cs : List Value} {L : List Im} (h : Its w s e cs L) (hk : KO s w w') : Its w' s e cs L := by
  induction h with
  | nil => exact .nil
  | snoc e e' cs L im vE vF m h hi hb hm ih => exact .snoc e e' cs L im vE vF m ih (hi.keep (fun g C fr hg hc => hk g C fr (Nat.le_trans h.le hg) hc)) hb hm
theorem ItO.cells {s : Nat} {w : World} {v : Value} {im : Im} {vE vF : Value} {m : Nat} (h : ItO s w v im vE vF m) : v = .agg (itC im vE vF).toArray := h.v
theorem ItO.sl {s : Nat} {w : World} {v : Value} {im : Im} {vE vF : Value} {m : Nat} (h : ItO s w v im vE vF m) : (∃ a n c, vE = .slice a n c) ∧ (∃ a n c, vF = .slice a n c) := by
  obtain ⟨a, c, e⟩ := h.e.sl
  obtain ⟨a', c', e'⟩ := h.f.sl
  exact ⟨⟨_, _, _, e⟩, ⟨_, _, _, e'⟩⟩
/-- What an item's reader promises. -/
def IP (B b : Nat) (a : Option Addr) (c : Nat) (t : List UInt8) (w : World) (x : Im × Nat × Nat) (e : Ending) (w' : World) : Prop := ∃ v vE vF m, e = .returned v ∧ ItO w.heap.size w' v x.1 vE vF m ∧ PS B b a c t x.2.1 x.2.2 0 w' ∧ x.2.2 ≤ 2000

set_option maxHeartbeats 3200000 in
set_option maxRecDepth 1000000 in
theorem itemBad (B b : Nat) (a : Option Addr) (c : Nat) (t : List UInt8) (i o : Nat) (w : World) (h : PS B b a c t i o 0 w) (cc : Int) (aa : Nat) (ha : adv (tkT t) i = .bad cc aa) :
    Calls Tryd.prog 33 #[.pointer (some ⟨b, 0, none⟩)] w fun e w' => e = .panicked (flV cc aa) ∧ w.grownBy w' (some b) := by
  have y2 := Px.c2 h
  dsimp only at y2
  have hlt := Px.lt h
  have hk51 := tk_le t i
  obtain ⟨k, hk⟩ : ∃ k, k = (tkT t i).k := ⟨_, rfl⟩
  rw [← hk] at y2 hk51
  have e9 : IntKind.i64.wrap ((k : Int) - 16) = (k : Int) - 16 := by rw [IntKind.wrap_i64]; omega
  have e8 : IntKind.i64.wrap (1 + ((k : Int) - 16)) = 1 + ((k : Int) - 16) := by rw [IntKind.wrap_i64]; omega
  have H := Hid.mk h
  have HA := Hid.mk ha
  clear h hk ha
  go_enter Tryd.func33, Tryd.ntmps33
  go_wp2_with (go_at_call 30; go_must (refine (advI B b a c t i o 0 _ (Px.below H.out (below_alloc' (below_alloc' (Below.refl _ _) _) _))).mono ?_; rintro e w1 ⟨p, g⟩; rw [HA.out] at p; have p : e = .panicked (flV cc aa) := p; subst p))
  exact ⟨rfl, rfl, gb_then (gb_below (below_alloc' (below_alloc' (Below.refl _ _) _) _)) g⟩
theorem itemI (B b : Nat) (a : Option Addr) (c : Nat) (t : List UInt8) (i o : Nat) (w : World) (h : PS B b a c t i o 0 w) (ho : o ≤ 2000) (hk : 16 ≤ (tkT t i).k ∧ (tkT t i).k ≤ 24) :
    Calls Tryd.prog 33 #[.pointer (some ⟨b, 0, none⟩)] w fun e w' => Res (itemP (tkT t) (fuelT t) i o) (IP B b a c t w) e w' ∧ w.grownBy w' (some b) := by
  unfold itemP
  cases ha : adv (tkT t) i with
  | out => exact absurd ha adv_no
  | bad cc aa => rw [bnd_bad]; exact itemBad B b a c t i o w h cc aa ha
  | ok j =>
    rw [bnd_ok]
    have hn := fun k => itemK_no t k j o
    obtain ⟨h1, h2⟩ := hk
    have hcs : (tkT t i).k = 16 ∨ (tkT t i).k = 17 ∨ (tkT t i).k = 18 ∨ (tkT t i).k = 19 ∨ (tkT t i).k = 20 ∨ (tkT t i).k = 21 ∨ (tkT t i).k = 22 ∨ (tkT t i).k = 23 ∨ (tkT t i).k = 24 := by omega
    rcases hcs with e | e | e | e | e | e | e | e | e
    · rw [e]; exact item1 B b a c t (fuelT t) i j o w w e h ho ha (hn 1)
    · rw [e]; exact item2 B b a c t (fuelT t) i j o w w e h ho ha (hn 2)
    · rw [e]; exact item3 B b a c t (fuelT t) i j o w w e h ho ha (hn 3)
    · rw [e]; exact item4 B b a c t (fuelT t) i j o w w e h ho ha (hn 4)
    · rw [e]; exact item5 B b a c t (fuelT t) i j o w w e h ho ha (hn 5)
    · rw [e]; exact item6 B b a c t (fuelT t) i j o w w e h ho ha (hn 6)
    · rw [e]; exact item7 B b a c t (fuelT t) i j o w w e h ho ha (hn 7)
    · rw [e]; exact item8 B b a c t (fuelT t) i j o w w e h ho ha (hn 8)
    · rw [e]; exact item9 B b a c t (fuelT t) i j o w w e h ho ha (hn 9)

end Go.Proofs.YtfoigigbggickaaDoor.Par
namespace Go.Proofs.YtfoigigbggickaaDoor.Par
open Go Go.RowKit Go.Proofs.YtfoigigbggickaaDoor.Mem Go.Proofs.YtfoigigbggickaaDoor.Syn Go.Proofs.YtfoigigbggickaaDoor.Parse
set_option linter.unusedVariables false
set_option linter.unusedSimpArgs false

theorem bnd_assoc' {α β γ : Type} (r : Rs α) (f : α → Rs β) (h : β → Rs γ) : (r.bnd f).bnd h = r.bnd fun x => (f x).bnd h := by cases r <;> rfl
theorem bnd_congr' {α β : Type} (r : Rs α) {f h : α → Rs β} (e : ∀ x, f x = h x) : r.bnd f = r.bnd h := by rw [funext e]
/-- An expression as the specification reads it: a binary operator behind it is a fault. -/
def pxS (T : Nat → Tk) (F i o : Nat) : Rs (List Po × Nat × Nat) := (pxP T F i o).bnd fun x => if isB (T x.2.1).k = true then .bad 4 (T x.2.1).at' else .ok x
theorem pxS_exp {T : Nat → Tk} {F i o m : Nat} {β : Type} (hm : ¬ (8 ≤ m ∧ m ≤ 15)) (h : (List Po × Nat × Nat) → Nat → Rs β) : ((pxS T F i o).bnd fun e => (exp T m e.2.1).bnd (h e)) = (pxP T F i o).bnd fun e => (exp T m e.2.1).bnd (h e) := by
  unfold pxS
  rw [bnd_assoc']
  refine bnd_congr' _ fun x => ?_
  split
  · rename_i hb
    have : (T x.2.1).k ≠ m := by unfold isB at hb; simp at hb; omega
    unfold exp
    rw [if_neg this]; rfl
  · rfl
theorem exprD (t : List UInt8) (g N c : Nat) (s : Sg) (w : World) (hT : Tq t N g w) (hN : Nf t N) (hi : s.i < N) (ho : s.o ≤ 2000) :
    Calls Tryd.prog 27 #[s.v g N c] w fun e' w' => ∃ (s' : Sg) (v : Value) (L : List Po), e' = .returned (.tuple #[s'.v g N c, v]) ∧ s'.i < N ∧ s'.o ≤ 2000 ∧ OwnO w.heap.size w' v L ∧ (den (tkT t) s').bnd (fun j => Rs.ok (L, j, s'.o)) = (den (tkT t) s).bnd (fun j => pxS (tkT t) (fuelT t) j s.o) ∧ Below w.heap.size w w' := by
  obtain ⟨i, o, e, a⟩ := s
  have hi : i < N := hi
  have ho : o ≤ 2000 := ho
  by_cases he : e = 0
  · subst he
    have fin : ∀ R, Ends (tkT t) ⟨i, o, [], [], true⟩ R → R = (den (tkT t) ⟨i, o, 0, a⟩).bnd (fun j => pxS (tkT t) (fuelT t) j o) → Calls Tryd.prog 27 #[parV g N c i o 0 a] w fun e' w' => ∃ (s' : Sg) (v : Value) (L : List Po), e' = .returned (.tuple #[s'.v g N c, v]) ∧ s'.i < N ∧ s'.o ≤ 2000 ∧ OwnO w.heap.size w' v L ∧ (den (tkT t) s').bnd (fun j => Rs.ok (L, j, s'.o)) = (den (tkT t) ⟨i, o, 0, a⟩).bnd (fun j => pxS (tkT t) (fuelT t) j o) ∧ Below w.heap.size w w' := fun R hE hR => by
      refine (exprS t g N c i o a R w hT hN hi ho hE).mono ?_
      rintro e' w' ⟨s', v, L, rfl, h1, h2, h3, h4, h5⟩
      exact ⟨s', v, L, rfl, h1, h2, h3, h4.trans hR, h5⟩
    by_cases hk : (tkT t i).k < 50
    · have hx := expr_ends (T := tkT t) (tk_le t) (tk_tag t) (fuelT t) i o hk
      have hno := pxp_no t i o
      cases hex : ex (tkT t) (fuelT t) 1 i o 0 with
      | out => exfalso; apply hno; unfold pxP; rw [hex]; rfl
      | bad cc aa =>
        rw [hex] at hx
        refine fin _ hx ?_
        rw [den_ok hk, bnd_ok]; unfold pxS pxP; rw [hex]; rfl
      | ok y =>
        rw [hex] at hx
        refine fin _ hx.2 ?_
        rw [den_ok hk, bnd_ok]; unfold pxS pxP; rw [hex]; rfl
    · refine fin _ (.stop _ _ (stp_fin (by omega) true)) ?_
      have h51 := tk_le t i
      unfold den flt
      by_cases h0 : (tkT t i).k = 50
      · rw [if_pos h0, if_neg (by simp), if_pos h0]; rfl
      · rw [if_neg h0, if_pos (show (tkT t i).k = 51 by omega), if_neg (by simp), if_neg h0, if_pos (show (tkT t i).k = 51 by omega)]; rfl
  · refine (exprE t g N c i o a e w he).mono ?_
    rintro e' w' ⟨v, rfl, h1, h2⟩
    exact ⟨⟨i, o, e, a⟩, v, [], rfl, hi, ho, h1, by rw [den_bad he]; rfl, h2⟩
end Go.Proofs.YtfoigigbggickaaDoor.Par
namespace Go.Proofs.YtfoigigbggickaaDoor.Par
open Go Go.RowKit Go.Proofs.YtfoigigbggickaaDoor.Mem Go.Proofs.YtfoigigbggickaaDoor.Syn Go.Proofs.YtfoigigbggickaaDoor.Parse
set_option linter.unusedVariables false
set_option linter.unusedSimpArgs false
set_option maxHeartbeats 3200000
set_option maxRecDepth 1000000
attribute [local go_sem ↓] Go.wp_at_zero Go.wp_at_succ
def kndW (m : Nat) : Int := if 16 ≤ m ∧ m ≤ 24 then (m : Int) - 15 else 0
theorem itemKindS (n : List UInt8) (w : World) : Calls Tryd.prog 13 #[.string ⟨n.toArray⟩] w fun e w' => e = .returned (.int .i64 (kndW (wk n))) ∧ w' = w := by
  have e16 : (n == [108, 101, 116]) = decide (wk n = 16) := eqW n 16 (by omega) (by omega)
  have e17 : (n == [101, 97, 99, 104]) = decide (wk n = 17) := eqW n 17 (by omega) (by omega)
  have e18 : (n == [101, 110, 100]) = decide (wk n = 18) := eqW n 18 (by omega) (by omega)
  have e19 : (n == [115, 117, 109]) = decide (wk n = 19) := eqW n 19 (by omega) (by omega)
  have e20 : (n == [110, 101, 118, 101, 114]) = decide (wk n = 20) := eqW n 20 (by omega) (by omega)
  have e21 : (n == [97, 112, 97, 114, 116]) = decide (wk n = 21) := eqW n 21 (by omega) (by omega)
  have e22 : (n == [108, 105, 102, 111]) = decide (wk n = 22) := eqW n 22 (by omega) (by omega)
  have e23 : (n == [114, 105, 100, 101]) = decide (wk n = 23) := eqW n 23 (by omega) (by omega)
  have e24 : (n == [115, 116, 114, 101, 97, 107]) = decide (wk n = 24) := eqW n 24 (by omega) (by omega)
  by_cases hk : 16 ≤ wk n ∧ wk n ≤ 24
  · obtain ⟨m, hm⟩ : ∃ m, m = wk n := ⟨_, rfl⟩
    rw [← hm] at hk e16 e17 e18 e19 e20 e21 e22 e23 e24 ⊢
    clear hm
    obtain ⟨h1, h2⟩ := hk
    have : m = 16 ∨ m = 17 ∨ m = 18 ∨ m = 19 ∨ m = 20 ∨ m = 21 ∨ m = 22 ∨ m = 23 ∨ m = 24 := by omega
    clear h1 h2
    rcases this with rfl | rfl | rfl | rfl | rfl | rfl | rfl | rfl | rfl <;>
    · simp only [decide_true, Nat.reduceEqDiff, decide_false] at e16 e17 e18 e19 e20 e21 e22 e23 e24
      go_enter Tryd.func13, Tryd.ntmps13
      go_wp2
      go_ret
      exact ⟨rfl, rfl⟩
  · have hz : kndW (wk n) = 0 := by unfold kndW; rw [if_neg hk]
    rw [hz]
    rw [decide_eq_false (by omega)] at e16 e17 e18 e19 e20 e21 e22 e23 e24
    clear hz hk
    go_enter Tryd.func13, Tryd.ntmps13
    go_wp2
    go_ret
    exact ⟨rfl, rfl⟩
end Go.Proofs.YtfoigigbggickaaDoor.Par
