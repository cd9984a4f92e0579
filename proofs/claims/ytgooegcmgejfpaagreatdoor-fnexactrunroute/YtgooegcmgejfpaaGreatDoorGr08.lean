import Derived.Test.YtgooegcmgejfpaaGreatDoorGr07
import Derived.Test.YtgooegcmgejfpaaGreatDoorGr05
import Derived.Lib.UnsafeStr
import Derived.OwnWalk
import Derived.Lib.Hide
import Derived.Lib.SmallJoins
import Derived.ArgAppend
import Derived.Laws.OwnMore
namespace Go.Proofs.YtgooegcmgejfpaaGreatDoor.Mac
open Go Go.RowKit Go.Proofs.YtgooegcmgejfpaaGreatDoor.Mem
open Go.Proofs.YtgooegcmgejfpaaGreatDoor.Arith (cl cl_bd sadd smul addS mulS addI mulI ret_int)
set_option linter.unusedVariables false
set_option linter.unusedSimpArgs false
attribute [local go_sem ↓] Go.wp_at_zero Go.wp_at_succ

/-- A list of numbers in a slice. -/
def Li (w : World) (a : Option Addr) (l : List Int) : Prop := NumsAt w a l.length (fun i => l.getD i 0)
theorem Li.below {w w' : World} {a : Option Addr} {l : List Int} (h : Li w a l) (hb : Below w.heap.size w w') : Li w' a l := NumsAt.below h hb
theorem Li.at {w : World} {a : Option Addr} {l : List Int} (h : Li w a l) {i : Nat} (hi : i < l.length) : ∃ b off, a = some ⟨b, off, none⟩ ∧ w.cell? ⟨b, off + i, none⟩ = some (.int .i64 (l.getD i 0)) := NumsAt.at h hi
def icells (l : List Int) : List Value := l.map (Value.int .i64)
theorem icells_get (l : List Int) (j : Nat) (u : Value) (h : (icells l)[j]? = some u) : j < l.length ∧ u = .int .i64 (l.getD j 0) := by
  simp only [icells, List.getElem?_map, Option.map_eq_some_iff] at h
  obtain ⟨z, hz, rfl⟩ := h
  have hj := (List.getElem?_eq_some_iff.1 hz).1
  exact ⟨hj, by simp [List.getD_eq_getElem?_getD, hz]⟩
theorem icells_one (l : List Int) : ∀ u ∈ icells l, u.oneCell' = true := by
  intro u hu
  simp only [icells, List.mem_map] at hu
  obtain ⟨b, _, rfl⟩ := hu
  rfl
/-- A list of the call's own, in a block that may be longer. -/
theorem own_li {B : Nat} {w : World} {v : Value} {n : Nat} {l : List Int} (hp : 0 < n) (hn : n = l.length) (h : w.ownsRow B 2 1 v n (icells l)) : ∃ g c cs, v = .slice (some ⟨g, 0, none⟩) n c ∧ B ≤ g ∧ w.heap[g]? = some (.cells cs 2) ∧ n ≤ cs.size ∧ ∀ i, i < n → cs[i]? = some (.int .i64 (l.getD i 0)) := by
  rcases h.2 with ⟨-, h0⟩ | ⟨g, cap, cur, hv, hg, hblk, h1, h2, h3, ht⟩
  · omega
  · have key : ∀ i, i < n → cur.toList[i]? = some (.int .i64 (l.getD i 0)) := fun i hi => by
      have h5 : (icells l)[i]? = some (.int .i64 (l.getD i 0)) := by
        simp only [icells, List.getElem?_map, List.getD_eq_getElem?_getD]
        rw [List.getElem?_eq_getElem (by omega)]; rfl
      rw [← ht, List.getElem?_take] at h5
      split at h5
      · exact h5
      · cases h5
    refine ⟨g, cap, cur, hv, hg, hblk, ?_, fun i hi => by have := key i hi; simpa using this⟩
    have := key (n - 1) (by omega)
    have := (List.getElem?_eq_some_iff.1 this).1
    simp at this
    omega

theorem own_cap {w : World} {B n k : Nat} {t : TypeId} {v : Value} {xs : List Value} (h : w.ownsRow B t k v n xs) (a : Option Addr) (m c : Nat) (e : v = .slice a m c) : m ≤ c := by
  rcases h.2 with ⟨h0, -⟩ | ⟨_, cap, cur, hv, _, _, h1, _⟩
  · rw [h0] at e; cases e; exact Nat.le_refl _
  · rw [hv] at e; cases e; exact h1

theorem infoIn : (Tryz.prog.info? 2).map (fun i => (i.zero, i.size, i.bytes)) = some (some (.int .i64 0), 1, 8) := by kernel_rfl
theorem own_nil (w : World) : (w.alloc (.cells #[] 2)).ownsRow w.heap.size 2 1 (.slice (some ⟨w.heap.size, 0, none⟩) 0 0) 0 (icells []) := by
  refine ⟨by simp [icells], Or.inr ⟨w.heap.size, 0, _, rfl, Nat.le_refl _, blk_new _ _, Nat.le_refl _, by unfold maxLen; omega, by simp, by simp [icells]⟩⟩

set_option maxHeartbeats 1600000 in
set_option maxRecDepth 100000 in
theorem setS (a : Option Addr) (n c : Nat) (l : List Int) (k : Nat) (x : Int) (w : World) (hn : n = l.length) (h : Li w a l) (hk : k < n) (hN : n ≤ 1048576) :
    Calls Tryz.prog 70 #[.slice a n c, .int .i64 k, .int .i64 x] w fun e w' => ∃ g c', e = .returned (.slice (some ⟨g, 0, none⟩) n c') ∧ Li w' (some ⟨g, 0, none⟩) (l.set k x) ∧ Below w.heap.size w w' ∧ w.heap.size ≤ g ∧ n ≤ c' := by
  have HL := Hid.mk h
  have HN := Hid.mk hn
  obtain ⟨i0, hi, hz0, hz1, hz2⟩ := info_parts infoIn
  rcases h with h | ⟨b, off, rfl, h⟩
  · omega
  have HH := Hid.mk h
  clear h hn
  have k0 : (0 : Int) ≤ (k : Int) := by omega
  have k1 : (k : Int) < (n : Int) := by omega
  have hnews : ∀ j u, (icells l)[j]? = some u → (w.alloc (.cells #[] 2)).cell? ((⟨b, off, none⟩ : Addr).add j) = some u := fun j u hj => by
    obtain ⟨h1, rfl⟩ := icells_get l j u hj
    have := ci.at (rangeAt_below (HH.out j h1) (show Below w.heap.size w (w.alloc (.cells #[] 2)) by go_grown))
    rw [Nat.mul_one] at this
    rw [Addr.add_mid]
    exact this
  go_enter Tryz.func70, Tryz.ntmps70
  go_wp2_with (at_builtin; refine wpList_append_own _ rfl _ _ 32 rfl w.heap.size 2 i0 (.int .i64 0) 1 8 Tryz.underlying32 hi hz0 hz1 hz2 rfl (by decide) _ _ _ rfl (own_nil w) ⟨b, off, none⟩ n c (icells l) rfl (by simp [icells]; exact HN.out.symm) hnews (icells_one l) (by unfold maxLen; omega) (by omega) (by simp) ?_)
  intro v2 w2 hown hgrow _
  clear hnews
  rw [show icells [] ++ icells l = icells l from rfl] at hown
  have hcp := own_cap hown
  obtain ⟨g, c2, cs, rfl, hg, hblk, hsz, hcs⟩ := own_li (by omega) HN.out hown
  have HCP := Hid.mk (hcp _ _ _ rfl)
  clear hcp
  have hB : Hid (Below w.heap.size w w2) := ((Below.refl _ _).alloc (Nat.le_refl _) _).grown hgrow (by simp) (fun q hq => by simp [Value.ownBlock] at hq; omega)
  have HB2 := Hid.mk hblk
  have HG := Hid.mk hg
  have HC := Hid.mk (And.intro hsz hcs)
  have e1 := blk_cell hblk k
  rw [hcs k hk] at e1
  have e2 := blk_unfrozen hblk k
  clear hown hgrow hblk hsz hcs hg
  refine Hid.out ?_
  refine Lib.hid ?_
  go_wp2
  go_ret
  refine ⟨g, c2, rfl, Or.inr ⟨g, 0, rfl, fun i hi => ?_⟩, ?_, HG.out, HCP.out⟩
  · rw [List.length_set] at hi
    intro j u hj
    obtain ⟨rfl, rfl⟩ : j = 0 ∧ u = .int .i64 ((l.set k x).getD i 0) := by
      cases j with
      | zero => simp [ci] at hj; exact ⟨rfl, hj.symm⟩
      | succ j => simp [ci] at hj
    rw [blk_cell (blk_set HB2.out k _)]
    simp only [Nat.mul_one, Nat.zero_add, Nat.add_zero, Array.getElem?_setIfInBounds, List.getD_eq_getElem?_getD, List.getElem?_set]
    have hl := HN.out
    by_cases e : k = i
    · subst e
      rw [if_pos rfl, if_pos (by have := HC.out.1; omega), if_pos rfl, if_pos hi]; rfl
    · rw [if_neg e, if_neg e, HC.out.2 i (by omega), List.getD_eq_getElem?_getD]
  · exact hB.out.setCell (by exact HG.out) _
end Go.Proofs.YtgooegcmgejfpaaGreatDoor.Mac
namespace Go.Proofs.YtgooegcmgejfpaaGreatDoor.Mac
open Go Go.RowKit Go.Proofs.YtgooegcmgejfpaaGreatDoor.Mem
set_option linter.unusedVariables false
set_option linter.unusedSimpArgs false

/-! The program's frame in memory. -/
/-- A list of numbers that may be written, in block g. -/
def Rw (w : World) (g : Nat) (l : List Int) : Prop := ∀ i, i < l.length → w.cell? ⟨g, i, none⟩ = some (.int .i64 (l.getD i 0)) ∧ w.frozen? ⟨g, i, none⟩ = false
theorem Rw.below {w w' : World} {g : Nat} {l : List Int} (h : Rw w g l) (hb : Below w.heap.size w w') : Rw w' g l := fun i hi => by
  have hl := lt_of_cell (h i hi).1
  rw [hb.cell (p := ⟨g, i, none⟩) hl, hb.frozen (p := ⟨g, i, none⟩) hl]; exact h i hi
theorem Rw.other {w : World} {g : Nat} {l : List Int} (h : Rw w g l) {p : Addr} (hp : p.block ≠ g) (v : Value) : Rw (w.setCell p v) g l := fun i hi => by
  rw [World.cell?_setCell_far _ _ _ _ hp, World.frozen?_setCell]; exact h i hi
theorem Rw.set {w : World} {g : Nat} {l : List Int} (h : Rw w g l) {k : Nat} (hk : k < l.length) (x : Int) : Rw (w.setCell ⟨g, k, none⟩ (.int .i64 x)) g (l.set k x) := fun i hi => by
  rw [List.length_set] at hi
  rw [World.frozen?_setCell]
  refine ⟨?_, (h i hi).2⟩
  by_cases e : k = i
  · subst e
    rw [World.cell?_setCell_same _ _ _ (by rw [(h k hk).1])]
    simp [List.getD_eq_getElem?_getD, List.getElem?_set, hk]
  · rw [World.cell?_setCell_other _ _ _ _ (by intro e'; injection e' with _ e2; exact e e2), (h i hi).1]
    simp only [List.getD_eq_getElem?_getD, List.getElem?_set, if_neg e]
/-- A frame: the state's numbers and lists, the machine, the request, the next instruction. -/
structure Fr where
  (p u d t s l : Int) (aT : Option Addr) (nT cT : Nat) (gR nr cR : Nat) (aS : Option Addr) (gS ns cS : Nat) (M : Nat) (q nx : Int)
def frC (f : Fr) : Array Value := #[.int .i64 f.p, .int .i64 f.u, .int .i64 f.d, .int .i64 f.t, .int .i64 f.s, .int .i64 f.l, .slice f.aT f.nT f.cT, .slice (some ⟨f.gR, 0, none⟩) f.nr f.cR, .slice f.aS f.ns f.cS, .pointer (some ⟨f.M, 0, none⟩), .int .i64 f.q, .int .i64 f.nx]
/-- The frame f lies in block F, its registers hold r, its slots s. -/
structure Ok (w : World) (F : Nat) (f : Fr) (r s : List Int) : Prop where
  hF : w.heap[F]? = some (.cells (frC f) 93)
  hr : Rw w f.gR r
  hs : Rw w f.gS s
  nr : f.nr = r.length
  ns : f.ns = s.length
  aS : f.ns = 0 ∨ f.aS = some ⟨f.gS, 0, none⟩
  fr : F ≠ f.gR
  fs : F ≠ f.gS
  rs : f.gR ≠ f.gS
theorem Ok.below {w w' : World} {F : Nat} {f : Fr} {r s : List Int} (h : Ok w F f r s) (hb : Below w.heap.size w w') : Ok w' F f r s :=
  ⟨blk_below h.hF hb, h.hr.below hb, h.hs.below hb, h.nr, h.ns, h.aS, h.fr, h.fs, h.rs⟩
theorem Ok.setR {w : World} {F : Nat} {f : Fr} {r s : List Int} (h : Ok w F f r s) {k : Nat} (hk : k < r.length) (x : Int) : Ok (w.setCell ⟨f.gR, k, none⟩ (.int .i64 x)) F f (r.set k x) s :=
  ⟨blk_set_other h.hF h.fr _, h.hr.set hk x, h.hs.other h.rs _, by rw [List.length_set]; exact h.nr, h.ns, h.aS, h.fr, h.fs, h.rs⟩
theorem Ok.setS {w : World} {F : Nat} {f : Fr} {r s : List Int} (h : Ok w F f r s) {k : Nat} (hk : k < s.length) (x : Int) : Ok (w.setCell ⟨f.gS, k, none⟩ (.int .i64 x)) F f r (s.set k x) :=
  ⟨blk_set_other h.hF h.fs _, h.hr.other (Ne.symm h.rs) _, h.hs.set hk x, h.nr, by rw [List.length_set]; exact h.ns, h.aS, h.fr, h.fs, h.rs⟩
theorem Ok.next {w : World} {F : Nat} {f : Fr} {r s : List Int} (h : Ok w F f r s) (x : Int) : Ok (w.setCell ⟨F, 11, none⟩ (.int .i64 x)) F { f with nx := x } r s :=
  ⟨by have := blk_set h.hF 11 (.int .i64 x); simpa [frC] using this, h.hr.other h.fr _, h.hs.other h.fs _, h.nr, h.ns, h.aS, h.fr, h.fs, h.rs⟩
theorem Ok.rule {w : World} {F : Nat} {f : Fr} {r s : List Int} (h : Ok w F f r s) (x : Int) : Ok (w.setCell ⟨F, 1, none⟩ (.int .i64 x)) F { f with u := x } r s :=
  ⟨by have := blk_set h.hF 1 (.int .i64 x); simpa [frC] using this, h.hr.other h.fr _, h.hs.other h.fs _, h.nr, h.ns, h.aS, h.fr, h.fs, h.rs⟩
theorem Ok.request {w : World} {F : Nat} {f : Fr} {r s : List Int} (h : Ok w F f r s) (x : Int) : Ok (w.setCell ⟨F, 10, none⟩ (.int .i64 x)) F { f with q := x } r s :=
  ⟨by have := blk_set h.hF 10 (.int .i64 x); simpa [frC] using this, h.hr.other h.fr _, h.hs.other h.fs _, h.nr, h.ns, h.aS, h.fr, h.fs, h.rs⟩
/-- Nothing below B has turned, and no old block but the frame's three. -/
structure Oth (B F gR gS : Nat) (w w' : World) : Prop where
  bel : Below B w w'
  oth : ∀ g, g < w.heap.size → g ≠ F → g ≠ gR → g ≠ gS → w'.heap[g]? = w.heap[g]?
theorem Oth.refl (B F gR gS : Nat) (w : World) : Oth B F gR gS w w := ⟨Below.refl _ _, fun _ _ _ _ _ => rfl⟩
theorem Oth.trans {B F gR gS : Nat} {a b c : World} (h : Oth B F gR gS a b) (k : Oth B F gR gS b c) : Oth B F gR gS a c :=
  ⟨h.bel.trans k.bel, fun g hg h1 h2 h3 => (k.oth g (Nat.lt_of_lt_of_le hg h.bel.size) h1 h2 h3).trans (h.oth g hg h1 h2 h3)⟩
theorem Oth.of_below {B F gR gS : Nat} {a b : World} (hb : Below a.heap.size a b) (hB : B ≤ a.heap.size) : Oth B F gR gS a b :=
  ⟨hb.mono hB, fun g hg _ _ _ => hb.block g hg⟩
theorem Oth.set {B F gR gS : Nat} {a b : World} (h : Oth B F gR gS a b) {p : Addr} (hB : B ≤ p.block) (hp : p.block = F ∨ p.block = gR ∨ p.block = gS) (v : Value) : Oth B F gR gS a (b.setCell p v) :=
  ⟨h.bel.setCell hB v, fun g hg h1 h2 h3 => by
    rw [Below.heap_setCell _ _ _ _ (by rcases hp with e | e | e <;> rw [e] <;> assumption)]; exact h.oth g hg h1 h2 h3⟩
theorem Oth.blk {B F gR gS g : Nat} {a b : World} {o : Obj} (h : Oth B F gR gS a b) (hb : a.heap[g]? = some o) (h1 : g ≠ F) (h2 : g ≠ gR) (h3 : g ≠ gS) : b.heap[g]? = some o := (h.oth g (blk_lt hb) h1 h2 h3).trans hb
end Go.Proofs.YtgooegcmgejfpaaGreatDoor.Mac
