import Derived.Test.YtgooegcmgejfpaaGreatDoorGr39
import Derived.Test.YtgooegcmgejfpaaGreatDoorGr26
import Derived.Deep.DrawnRows
import Derived.Test.YtgooegcmgejfpaaGreatDoorGr38
import Derived.Deep.Upon
import Derived.Lib.AppendZeros
namespace Go.Proofs.YtgooegcmgejfpaaGreatDoor.Mac
open Go Go.RowKit Go.Proofs.YtgooegcmgejfpaaGreatDoor.Mem Go.Proofs.YtgooegcmgejfpaaGreatDoor.Travel
open Go.Proofs.YtgooegcmgejfpaaGreatDoor.Valid (inB nodes nodes_bd validB)
open Go.Proofs.YtgooegcmgejfpaaGreatDoor.StV (stopB okSt tripB)
set_option linter.unusedVariables false
set_option linter.unusedSimpArgs false
attribute [local go_sem ↓] Go.wp_at_zero Go.wp_at_succ

theorem route_parts {I : In} {v : Int} {n : Nat} {L : Nat → Int} (h : Route.routeB I v n L = true) : n ≤ 4096 ∧ tripB I v = true ∧ ∀ i, i < n → stopB I (L i) = true := by
  unfold Route.routeB at h
  simp only [Bool.and_eq_true, decide_eq_true_eq] at h
  exact ⟨h.1.1, h.1.2, fun i hi => allB_get (f := fun i => Route.stopB I (L i)) h.2 i hi⟩
set_option maxHeartbeats 8000000 in
set_option maxRecDepth 100000 in
theorem routeTopI (a1 a2 a3 b1 b2 b3 a : Option Addr) (c1 c2 c3 d1 d2 d3 n c : Nat) (C : Co) (I : In) (v : Int) (L : Nat → Int) (w : World) (hC : CoAt w a1 a2 a3 C) (hI : InAt w b1 b2 b3 I) (hL : NumsAt w a n L) (k1 : C.n1 ≤ 1048576) (k2 : C.n2 ≤ 1048576) (k3 : C.n3 ≤ 1048576) (h1 : I.nV ≤ 1048576) (h2 : I.nQ ≤ 1048576) (h3 : I.nR ≤ 1048576) (hn : n ≤ 1048576) (hT : ValC.TabC w) :
    Calls Tryz.prog 29 #[.agg #[.int .i64 C.R, .int .i64 C.S, .slice a1 C.n1 c1, .slice a2 C.n2 c2, .slice a3 C.n3 c3], .agg #[.slice b1 I.nV d1, .slice b2 I.nQ d2, .slice b3 I.nR d3], .int .i64 v, .slice a n c] w fun e w' => e = .returned (.agg #[.int .i64 (routeV C I v n L).1, .int .i64 (routeV C I v n L).2.1, .int .i64 (routeV C I v n L).2.2]) ∧ Below w.heap.size w w' := by
  have HC := Hid.mk hC
  have HI := Hid.mk hI
  have HL := Hid.mk hL
  have HT := Hid.mk hT
  clear hC hI hL hT
  go_enter Tryz.func29, Tryz.ntmps29
  go_wp2_with fail
  refine (ValC.validI a1 a2 a3 c1 c2 c3 C _ (HC.out.below (by go_grown)) k1 k2 k3 (HT.out.below (by go_grown))).mono ?_
  rintro e w1 ⟨rfl, hb⟩
  have HB := Hid.mk (below_then (w := w) (by go_grown) hb)
  have A0 := Hid.mk (blk_below (blk_alloc (blk_alloc (blk_new w _) _) _) hb)
  have A1 := Hid.mk (blk_below (blk_alloc (blk_new1 w _ _) _) hb)
  have A2 := Hid.mk (blk_below (blk_new2 w _ _ _) hb)
  clear hb
  cases hok : ValC.okCo C with
  | false =>
    have HF : Hid (routeV C I v n L = (0, 0, 0)) := by unfold Hid routeV; rw [if_neg (by rw [hok]; simp)]
    have v0 := blk_cell A2.out 0
    have v1 := blk_cell A2.out 1
    have v2 := blk_cell A2.out 2
    have u0 := blk_unfrozen A2.out 0
    have u1 := blk_unfrozen A2.out 1
    have u2 := blk_unfrozen A2.out 2
    simp only [List.getElem?_toArray, List.getElem?_cons_zero, List.getElem?_cons_succ] at v0 v1 v2
    go_wp2
    refine bodyPost_ret (results_cell_row Tryz.results29 _ _ (w.heap.size + 1 + 1) _ _ _ _ (by simp [Act.put]) (vsetI A2.out _ _ _) Tryz.underlying59 rfl infoVdI) rfl ?_
    exact ⟨by rw [HF.out], vbelI HB.out (by omega) _ _ _⟩
  | true =>
    have x0 := blk_cell A1.out 0
    have x1 := blk_cell A1.out 1
    have x2 := blk_cell A1.out 2
    simp only [List.getElem?_toArray, List.getElem?_cons_zero, List.getElem?_cons_succ] at x0 x1 x2
    go_wp2_with fail
    refine (Route.routeI b1 b2 b3 a d1 d2 d3 n c I v L _ (HI.out.below HB.out) (HL.out.below HB.out) h1 h2 h3 hn).mono ?_
    rintro e w2 ⟨rfl, hb⟩
    have HB := Hid.mk (below_then HB.out hb)
    have A0 := Hid.mk (blk_below A0.out hb)
    have A1 := Hid.mk (blk_below A1.out hb)
    have A2 := Hid.mk (blk_below A2.out hb)
    clear hb x0 x1 x2
    cases hro : Route.routeB I v n L with
    | false =>
      have HF : Hid (routeV C I v n L = (0, 0, 0)) := by unfold Hid routeV; rw [if_neg (by rw [hro]; simp)]
      have v0 := blk_cell A2.out 0
      have v1 := blk_cell A2.out 1
      have v2 := blk_cell A2.out 2
      have u0 := blk_unfrozen A2.out 0
      have u1 := blk_unfrozen A2.out 1
      have u2 := blk_unfrozen A2.out 2
      simp only [List.getElem?_toArray, List.getElem?_cons_zero, List.getElem?_cons_succ] at v0 v1 v2
      go_wp2
      refine bodyPost_ret (results_cell_row Tryz.results29 _ _ (w.heap.size + 1 + 1) _ _ _ _ (by simp [Act.put]) (vsetI A2.out _ _ _) Tryz.underlying59 rfl infoVdI) rfl ?_
      exact ⟨by rw [HF.out], vbelI HB.out (by omega) _ _ _⟩
    | true =>
      have HF : Hid (routeV C I v n L = finB C I v (aftN C I v L n)) := by unfold Hid routeV; rw [if_pos ⟨hok, hro⟩]
      obtain ⟨hn4, htr, hst⟩ := route_parts hro
      obtain ⟨v0, v1, hval⟩ := trip_bd htr
      obtain ⟨u, rfl⟩ : ∃ u : Nat, v = (u : Int) := ⟨v.toNat, by omega⟩
      have hu : u < I.nV := by omega
      obtain ⟨g1, g2, -⟩ := aft_ok (L := L) hok htr n hn4 hst
      have GG := Hid.mk (And.intro g1 g2)
      have HOK := Hid.mk hok
      have HTR := Hid.mk htr
      have HST := Hid.mk hst
      have HV := Hid.mk hval
      clear hok hro htr hst hval g1 g2
      have x0 := blk_cell A1.out 0
      have x1 := blk_cell A1.out 1
      have x2 := blk_cell A1.out 2
      have y0 := blk_cell A0.out 0
      have y1 := blk_cell A0.out 1
      have y2 := blk_cell A0.out 2
      have y3 := blk_cell A0.out 3
      have y4 := blk_cell A0.out 4
      simp only [List.getElem?_toArray, List.getElem?_cons_zero, List.getElem?_cons_succ] at x0 x1 x2 y0 y1 y2 y3 y4
      go_wp2_with fail
      refine (machineI a1 a2 a3 b1 b2 b3 c1 c2 c3 d1 d2 d3 C I (u : Int) _).mono ?_
      rintro e w3 ⟨mp, M, rfl, ea1, ea2, ea3, eb1, eb2, eb3, -, -, -, -, -, -, eC, eI, ev, hb, hM, hBx, -⟩
      have HB := Hid.mk (below_then HB.out hb)
      have A2 := Hid.mk (blk_below A2.out hb)
      have MA : Hid (Mach w3 M mp C I (u : Int)) := Hid.mk ⟨hM, ⟨_, hBx⟩, by rw [ea1, ea2, ea3]; exact HC.out.below HB.out, by rw [eb1, eb2, eb3]; exact HI.out.below HB.out, eC, eI, ev⟩
      clear hb hM hBx ea1 ea2 ea3 eb1 eb2 eb3 x0 x1 x2 y0 y1 y2 y3 y4 A0 A1
      subst eC
      subst eI
      go_wp2_with fail
      refine (startI w3 M mp mp.C mp.I u MA.out HOK.out HV.out hu).mono ?_
      rintro e w4 hs4
      obtain ⟨F, rfl, hF⟩ := start_at (F := 0) HOK.out HTR.out hs4
      have HF4 := Hid.mk hF
      clear hs4 hF
      go_wp2_with fail
      refine (followI w3 F a n c L mp u _ (HL.out.below HB.out) hn4 HOK.out HTR.out HST.out HF4.out).mono ?_
      rintro e w5 ⟨⟨x, rfl⟩, hF5⟩
      have HF5 := Hid.mk hF5
      clear hF5
      go_wp2_with fail
      refine (finish_at w3 _ F mp u _ GG.out.1 GG.out.2 HF5.out).mono ?_
      rintro e w6 ⟨rfl, hb⟩
      have HB := Hid.mk (below_then HB.out hb)
      have A2 := Hid.mk (blk_below A2.out hb)
      clear hb
      generalize hfin : finB mp.C mp.I (u : Int) (aftN mp.C mp.I (u : Int) L n) = fin at *
      have v0 := blk_cell A2.out 0
      have v1 := blk_cell A2.out 1
      have v2 := blk_cell A2.out 2
      have u0 := blk_unfrozen A2.out 0
      have u1 := blk_unfrozen A2.out 1
      have u2 := blk_unfrozen A2.out 2
      simp only [List.getElem?_toArray, List.getElem?_cons_zero, List.getElem?_cons_succ] at v0 v1 v2
      go_wp2
      refine bodyPost_ret (results_cell_row Tryz.results29 _ _ (w.heap.size + 1 + 1) _ _ _ _ (by simp [Act.put]) (vsetI A2.out _ _ _) Tryz.underlying59 rfl infoVdI) rfl ?_
      exact ⟨by rw [HF.out], vbelI HB.out (by omega) _ _ _⟩
end Go.Proofs.YtgooegcmgejfpaaGreatDoor.Mac
namespace Go.Proofs.YtgooegcmgejfpaaGreatDoor.Mac
open Go Go.RowKit Go.Proofs.YtgooegcmgejfpaaGreatDoor.Mem
set_option linter.unusedVariables false
set_option linter.unusedSimpArgs false

theorem own_empty {w : World} {b : Nat} (h : w.heap[b]? = some (.cells #[] 2)) : w.ownsRow b 2 1 (.slice (some ⟨b, 0, none⟩) 0 0) 0 (icells []) := by
  refine ⟨by simp [icells], Or.inr ⟨b, 0, _, rfl, Nat.le_refl _, h, Nat.le_refl _, by unfold maxLen; omega, by simp, by simp [icells]⟩⟩
theorem li_far {w : World} {a : Option Addr} {l : List Int} {g : Nat} (h : Li w a l) (hne : l.length = 0 ∨ ∀ b, a = some b → b.block ≠ g) (cs : Array Value) : Li (w.setRow g cs) a l := by
  rcases h with h | ⟨b, off, rfl, h⟩
  · exact Or.inl h
  · rcases hne with h0 | hne
    · exact Or.inl h0
    · refine Or.inr ⟨b, off, rfl, fun i hi => fun j v hv => ?_⟩
      exact (cell_setRow_other w g cs _ (show b ≠ g from hne _ rfl)).trans (h i hi j v hv)
theorem li_oth {w w' : World} {a : Option Addr} {l : List Int} {b : Nat} (h : Li w a l) (ho : ∀ k, k < w.heap.size → k ≠ b → w'.heap[k]? = w.heap[k]?) (hne : l.length = 0 ∨ ∀ x, a = some x → x.block ≠ b) : Li w' a l := by
  rcases h with h | ⟨g, off, rfl, h⟩
  · exact Or.inl h
  · rcases hne with h0 | hne
    · exact Or.inl h0
    · refine Or.inr ⟨g, off, rfl, fun i hi => fun j v hv => ?_⟩
      have hc := h i hi j v hv
      have hb := ho g (World.block_lt_of_cell? w _ hc) (hne _ rfl)
      simp only [World.cell?] at hc ⊢
      rw [hb]; exact hc
theorem cell_oth {w w' : World} {k o b : Nat} {v : Value} (h : w.cell? ⟨k, o, none⟩ = some v) (ho : ∀ k, k < w.heap.size → k ≠ b → w'.heap[k]? = w.heap[k]?) (hne : k ≠ b) : w'.cell? ⟨k, o, none⟩ = some v := by
  have hb := ho k (lt_of_cell h) hne
  simp only [World.cell?] at h ⊢
  rw [hb]; exact h
theorem li_lt {w : World} {a : Option Addr} {l : List Int} (h : Li w a l) (hl : 0 < l.length) : ∀ x, a = some x → x.block < w.heap.size := by
  obtain ⟨b, off, rfl, hc⟩ := h.at hl
  intro x hx
  cases hx
  exact lt_of_cell hc
/-- A list appended to an empty one of the call's own. -/
theorem wp_clone {o : Oper} {a : Act} {w : World} {K : Act → World → Prop} {Q : Exit → Act → World → Prop} (s x : Operand) (ho : o.op = .call { callee := .builtin .append, args := #[s, x], argTypes := #[32, 32] })
    (b : Nat) (hb : w.heap[b]? = some (.cells #[] 2)) (hs : a.eval s = .slice (some ⟨b, 0, none⟩) 0 0) (ax : Option Addr) (n c : Nat) (l : List Int) (hx : a.eval x = .slice ax n c) (hl : Li w ax l) (hn : n = l.length) (hN : n ≤ 1048576)
    (h : ∀ a' c' w', n ≤ c' → Li w' a' l → (∀ ad, a' = some ad → b ≤ ad.block) → (∀ k, k < w.heap.size → k ≠ b → w'.heap[k]? = w.heap[k]?) → (∀ B w0, Below B w0 w → B ≤ b → Below B w0 w') → K (a.put o.dst (.slice a' n c')) w') : o.wp Tryz.prog a w K Q := by
  obtain ⟨i0, hi, hz0, hz1, hz2⟩ := info_parts infoIn
  by_cases h0 : n = 0
  · subst h0
    have hl0 : l = [] := List.length_eq_zero_iff.1 hn.symm
    subst hl0
    have hsrc : Src Tryz.prog i0.size 32 (.slice ax 0 c) 0 [] w := by
      cases ax with
      | none => exact Src.ofNil w Tryz.underlying32 c
      | some ad => exact Src.ofSlice w Tryz.underlying32 ad 0 c [] (by simp) (fun j u hj => by simp at hj) (fun u hu => by simp at hu)
    exact Lib.wp_append_run w s x _ _ ho _ _ hs hx _ w (run_append_nothing w _ _ _ _ i0 Tryz.underlying32 hi (some ⟨b, 0, none⟩) 0 0 (Nat.le_refl _) _ hsrc) (h _ _ _ (Nat.le_refl _) (Or.inl rfl) (fun ad e => by cases e; exact Nat.le_refl _) (fun _ _ _ => rfl) (fun _ _ hB _ => hB))
  · rcases hl with hl | ⟨g, off, rfl, hl⟩
    · omega
    have hnews : ∀ j u, (icells l)[j]? = some u → w.cell? ((⟨g, off, none⟩ : Addr).add j) = some u := fun j u hj => by
      obtain ⟨h1, rfl⟩ := icells_get l j u hj
      have := ci.at (hl j h1)
      rw [Nat.mul_one] at this
      rw [Addr.add_mid]
      exact this
    refine wp_append_own w s x 32 ho b 2 i0 (.int .i64 0) 1 8 Tryz.underlying32 hi hz0 hz1 hz2 rfl (by decide) _ 0 (icells []) hs (own_empty hb) ⟨g, off, none⟩ n c (icells l) hx (by simp [icells]; exact hn.symm) hnews (icells_one l) (by unfold maxLen; omega) (by omega) (Nat.le_of_lt (blk_lt hb)) ?_
    intro v2 w2 hown hgrow _
    rw [show icells [] ++ icells l = icells l from rfl] at hown
    obtain ⟨g', c2, cs, rfl, hg, hblk, hsz, hcs⟩ := own_li (by omega) (by omega) hown
    rw [Nat.zero_add] at hsz hcs ⊢
    refine h (some ⟨g', 0, none⟩) c2 w2 ?_ (Or.inr ⟨g', 0, rfl, fun i hi' => ?_⟩) (fun ad e => by cases e; exact hg) (fun k hk hne => hgrow.block k hk (fun e => hne (by simp [Value.ownBlock] at e; exact e))) (fun B w0 hB hle => hB.grown hgrow (Nat.le_trans hle (Nat.le_of_lt (blk_lt hb))) (fun k hk => by simp [Value.ownBlock] at hk; omega))
    · rcases hown.2 with ⟨-, h1⟩ | ⟨_, cap, cur, hv, _, _, h1, h2, h3, _⟩
      · omega
      · cases hv; omega
    · intro j u hj
      obtain ⟨rfl, rfl⟩ : j = 0 ∧ u = .int .i64 (l.getD i 0) := by
        cases j with
        | zero => simp [ci] at hj; exact ⟨rfl, hj.symm⟩
        | succ j => simp [ci] at hj
      rw [blk_cell hblk]
      simpa using hcs i (by omega)
/-- The lists of a state lie from block B on. -/
def Fre (B : Nat) (a1 a2 a3 : Option Addr) (S : St) : Prop :=
  (S.n1 = 0 ∨ ∀ x, a1 = some x → B ≤ x.block) ∧ (S.n2 = 0 ∨ ∀ x, a2 = some x → B ≤ x.block) ∧ (S.n3 = 0 ∨ ∀ x, a3 = some x → B ≤ x.block)
/-- A state as an answer, its lists in memory of the call's own. -/
def StRet2 (w : World) (S : St) (e : Ending) (w' : World) : Prop :=
  ∃ a1 a2 a3 c1 c2 c3, e = .returned (stV S a1 a2 a3 c1 c2 c3) ∧ StAt w' a1 a2 a3 S ∧ Below w.heap.size w w' ∧ Fre w.heap.size a1 a2 a3 S ∧ S.n2 ≤ c2
theorem bare_fre (B : Nat) (p r : Int) : Fre B none none none (bareS p r) := ⟨Or.inl rfl, Or.inl rfl, Or.inl rfl⟩
end Go.Proofs.YtgooegcmgejfpaaGreatDoor.Mac
