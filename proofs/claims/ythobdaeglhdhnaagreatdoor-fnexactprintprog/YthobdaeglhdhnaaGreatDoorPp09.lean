import Derived.Test.YthobdaeglhdhnaaGreatDoorPp08
import Derived.Lib.Hide
import Derived.OwnWalk
import Derived.ArgAppend
namespace Go.Proofs.YthobdaeglhdhnaaGreatDoor.Syn
open Go Go.RowKit Go.Proofs.YthobdaeglhdhnaaGreatDoor.Mem
set_option linter.unusedVariables false
set_option linter.unusedSimpArgs false
attribute [local go_sem ↓] Go.wp_at_zero Go.wp_at_succ

theorem opB_ar {o : Po} (h : opB o = true) : 1 ≤ o.k ∧ o.k ≤ 10 ∧ 0 ≤ o.v ∧ o.v ≤ opMax o.k := by
  unfold opB at h
  simp only [Bool.and_eq_true, decide_eq_true_eq] at h
  exact ⟨h.1.1.1.1, h.1.1.1.2, h.1.1.2, h.1.2⟩
def szs (l : List Tr) : Nat := (l.map Tr.sz).sum
theorem szs_app (a b : List Tr) : szs (a ++ b) = szs a + szs b := by simp [szs]
theorem mk_wf {o : Po} {l : List Tr} (h : opB o = true) (hl : l.length = ar o) (hw : ∀ t ∈ l, t.wf) : (mk o l).wf ∧ (mk o l).sz = 1 + szs l := by
  obtain ⟨k0, k1, v0, v1⟩ := opB_ar h
  clear h
  unfold ar at hl
  split at hl
  · rename_i hk
    match l, hl with
    | [a], _ => exact ⟨⟨hk, hw a (by simp)⟩, by simp [mk, Tr.sz, szs]⟩
  · rename_i hk
    split at hl
    · rename_i hk'
      match l, hl with
      | [a, b], _ =>
        have hv : opMax o.k = 7 := by rw [hk']; rfl
        simp only [mk]
        rw [if_pos hk']
        exact ⟨⟨⟨hk', v0, by omega⟩, hw a (by simp), hw b (by simp)⟩, by simp [Tr.sz, szs]; omega⟩
    · rename_i hk'
      split at hl
      · rename_i hk2
        have hv : opMax o.k = 2 := by rw [hk2]; rfl
        split at hl
        · rename_i hv2
          match l, hl with
          | [a, b, c], _ => exact ⟨⟨⟨hk2, hv2⟩, hw a (by simp), hw b (by simp), hw c (by simp)⟩, by simp [mk, Tr.sz, szs]; omega⟩
        · rename_i hv2
          match l, hl with
          | [a, b], _ =>
            simp only [mk]
            rw [if_neg hk']
            exact ⟨⟨⟨hk2, v0, by omega⟩, hw a (by simp), hw b (by simp)⟩, by simp [Tr.sz, szs]; omega⟩
      · rename_i hk2
        match l, hl with
        | [], _ => exact ⟨⟨k0, by omega⟩, by simp [mk, Tr.sz, szs]⟩
theorem stk_inv {E : Nat → Po} : ∀ {n : Nat} {s : List Tr}, stk E n = some s → (∀ t ∈ s, t.wf) ∧ szs s = n := by
  intro n
  induction n with
  | zero => intro s h; simp [stk] at h; subst h; simp [szs]
  | succ n ih =>
    intro s h
    simp only [stk] at h
    obtain ⟨s0, hs0, h⟩ := Option.bind_eq_some_iff.1 h
    split at h
    · rename_i hc
      have h := Option.some.inj h
      obtain ⟨hw, hz⟩ := ih hs0
      have hm := mk_wf (l := s0.drop (s0.length - ar (E n))) hc.1 (by rw [List.length_drop]; omega) (fun t ht => hw t (List.mem_of_mem_drop ht))
      rw [← h]
      refine ⟨fun t ht => ?_, ?_⟩
      · rcases List.mem_append.1 ht with ht | ht
        · exact hw t (List.mem_of_mem_take ht)
        · rw [List.mem_singleton.1 ht]; exact hm.1
      · rw [szs_app]
        have e1 : szs [mk (E n) (s0.drop (s0.length - ar (E n)))] = 1 + szs (s0.drop (s0.length - ar (E n))) := by rw [← hm.2]; simp [szs]
        have e2 : szs (s0.take (s0.length - ar (E n))) + szs (s0.drop (s0.length - ar (E n))) = n := by rw [← szs_app, List.take_append_drop, hz]
        omega
    · cases h
theorem sz_pos (t : Tr) : 1 ≤ t.sz := by cases t <;> simp [Tr.sz] <;> omega
theorem stk_len {E : Nat → Po} {n : Nat} {s : List Tr} (h : stk E n = some s) : s.length ≤ n := by
  have := (stk_inv h).2
  rw [← this]
  clear this h
  induction s with
  | nil => simp
  | cons t r ih => have := sz_pos t; simp only [List.length_cons, szs, List.map_cons, List.sum_cons] at *; omega

/-- Values and the trees that they are. -/
inductive Nds (w : World) (r : Option Nat) : List Value → List Tr → Prop
  | nil : Nds w r [] []
  | cons (v : Value) (t : Tr) (vs : List Value) (ts : List Tr) (h : Nd w r v t) (hs : Nds w r vs ts) : Nds w r (v :: vs) (t :: ts)
theorem Nds.kept {w w' : World} {r : Option Nat} {vs : List Value} {ts : List Tr} (h : Nds w r vs ts) (hb : Below w.heap.size w w') : Nds w' r vs ts := by
  induction h with
  | nil => exact .nil
  | cons v t vs ts h hs ih => exact .cons v t vs ts (h.kept hb) ih
theorem Nds.grown {w w' : World} {r : Option Nat} {vs : List Value} {ts : List Tr} (h : Nds w r vs ts) (hb : w.grownBy w' r) : Nds w' r vs ts := by
  induction h with
  | nil => exact .nil
  | cons v t vs ts h hs ih => exact .cons v t vs ts (h.grown hb) ih
theorem Nds.free {w : World} {r r' : Option Nat} {vs : List Value} {ts : List Tr} (h : Nds w r vs ts) (hr : ∀ g, g < w.heap.size → some g ≠ r → some g ≠ r') : Nds w r' vs ts := by
  induction h with
  | nil => exact .nil
  | cons v t vs ts h hs ih => exact .cons v t vs ts (h.free hr) ih
theorem Nds.len {w : World} {r : Option Nat} {vs : List Value} {ts : List Tr} (h : Nds w r vs ts) : vs.length = ts.length := by
  induction h with
  | nil => rfl
  | cons v t vs ts h hs ih => simp [ih]
theorem Nds.take {w : World} {r : Option Nat} {vs : List Value} {ts : List Tr} (h : Nds w r vs ts) (n : Nat) : Nds w r (vs.take n) (ts.take n) := by
  induction h generalizing n with
  | nil => simp; exact .nil
  | cons v t vs ts h hs ih =>
    cases n with
    | zero => exact .nil
    | succ n => exact .cons _ _ _ _ h (ih n)
theorem Nds.drop {w : World} {r : Option Nat} {vs : List Value} {ts : List Tr} (h : Nds w r vs ts) (n : Nat) : Nds w r (vs.drop n) (ts.drop n) := by
  induction h generalizing n with
  | nil => simp; exact .nil
  | cons v t vs ts h hs ih =>
    cases n with
    | zero => exact .cons _ _ _ _ h hs
    | succ n => exact ih n
theorem Nds.snoc {w : World} {r : Option Nat} {vs : List Value} {ts : List Tr} {v : Value} {t : Tr} (h : Nds w r vs ts) (hv : Nd w r v t) : Nds w r (vs ++ [v]) (ts ++ [t]) := by
  induction h with
  | nil => exact .cons _ _ _ _ hv .nil
  | cons v t vs ts h hs ih => exact .cons _ _ _ _ h ih
theorem Nds.one {w : World} {r : Option Nat} {vs : List Value} {ts : List Tr} (h : Nds w r vs ts) : ∀ u ∈ vs, u.oneCell' = true := by
  induction h with
  | nil => intro u hu; cases hu
  | cons v t vs ts h hs ih =>
    intro u hu
    rcases List.mem_cons.1 hu with rfl | hu
    · exact h.one
    · exact ih u hu

theorem infoN : (Tryz.prog.info? 84).map (fun i => (i.zero, i.size, i.bytes)) = some (some .nilIface, 1, 16) := by kernel_rfl
theorem own_shape {B s n : Nat} {e : TypeId} {w : World} {v : Value} {xs : List Value} (h : w.ownsRow B e s v n xs) : ∃ a c, v = .slice a n c ∧ n ≤ c := by
  rcases h.2 with ⟨rfl, h0⟩ | ⟨g, cap, cur, rfl, h1, h2, h3, h4⟩
  · exact ⟨none, 0, by rw [h0], by omega⟩
  · exact ⟨_, _, rfl, h3⟩

theorem ownsRow_cells {w : World} {B n : Nat} {e : TypeId} {v : Value} {xs : List Value} (h : w.ownsRow B e 1 v n xs) (h0 : 0 < n) : ∃ g c, v = .slice (some ⟨g, 0, none⟩) n c ∧ n ≤ c ∧ B ≤ g ∧ g < w.heap.size ∧ ∀ i u, xs[i]? = some u → w.cell? ⟨g, i, none⟩ = some u := by
  rcases h.2 with ⟨rfl, h1⟩ | ⟨g, cap, cur, rfl, hb, hg, hn, hm, hs, ht⟩
  · omega
  · refine ⟨g, cap, rfl, hn, hb, blk_lt hg, fun i u hu => ?_⟩
    rw [blk_cell hg i]
    rw [← ht, List.getElem?_take] at hu
    split at hu
    · rw [← Array.getElem?_toList]; exact hu
    · cases hu

theorem row_nk {w : World} {B n g c : Nat} {a : Nat} {xs : List Value} (h : w.ownsRow B 84 1 (.slice (some ⟨g, 0, none⟩) n c) n xs) : Nk w g := by
  rcases h.2 with ⟨h0, -⟩ | ⟨g', cap, cur, hv, hb, hg, -⟩
  · cases h0
  · cases hv; exact ⟨cur, _, hg⟩
set_option maxHeartbeats 800000 in
set_option maxRecDepth 100000 in
theorem cloneI (g off c : Nat) (xs : List Value) (N : Nat) (hN : N = xs.length) (w : World) (hc : ∀ i u, xs[i]? = some u → w.cell? ⟨g, off + i, none⟩ = some u) (h1 : ∀ u ∈ xs, u.oneCell' = true) (h0 : 0 < N) (h3 : N ≤ 3) :
    Calls Tryz.prog 83 #[.slice (some ⟨g, off, none⟩) N c] w fun e w' => ∃ g' c', e = .returned (.slice (some ⟨g', 0, none⟩) N c') ∧ (∀ i u, xs[i]? = some u → w'.cell? ⟨g', i, none⟩ = some u) ∧ w.heap.size ≤ g' ∧ Below w.heap.size w w' ∧ Nk w' g' := by
  obtain ⟨i0, hi, hz0, hz1, hz2⟩ := info_parts infoN
  have HC := Hid.mk hc
  have HN := Hid.mk hN
  clear hc hN
  have hrow : Hid ((w.alloc (.cells #[] 84)).ownsRow w.heap.size 84 1 (.slice (some ⟨w.heap.size, 0, none⟩) 0 0) 0 []) := World.ownsRow_made w #[] 0 (Nat.le_refl _) (by unfold maxLen; omega) (by simp)
  have he : ∀ w' : World, (binOp .eql 100 (.slice (some ⟨g, off, none⟩) N c) (.slice none 0 0)).run Tryz.prog w' = .ok (.bool false) w' := fun w' => Lib.run_eql_slice_nil w' _ _ _ _ _ _ _ Tryz.underlying100
  go_enter Tryz.func83, Tryz.ntmps83
  go_wp2_with (at_builtin; refine wpList_append_own _ rfl _ _ 100 rfl w.heap.size 84 i0 .nilIface 1 16 Tryz.underlying100 hi hz0 hz1 hz2 rfl (by decide) _ _ _ rfl hrow.out ⟨g, off, none⟩ N c xs rfl (by rw [HN.out]; simp) (fun j u hu => by rw [Addr.add_mid]; exact cell_keep (by go_grown) (HC.out j u hu)) h1 (by unfold maxLen; omega) (by omega) (by simp) ?_)
  intro v1 w1 hown hgrow _
  obtain ⟨g1, c1, rfl, -, hg1, -, hcl⟩ := ownsRow_cells hown h0
  have HNK := Hid.mk (row_nk (a := 0) hown)
  have HL := Hid.mk hcl
  have HB : Hid (Below w.heap.size w w1) := ((Below.refl _ _).alloc (Nat.le_refl _) _).grown hgrow (by simp) (fun j hj => (hrow.out.lt j hj).1)
  clear hown hgrow hcl
  refine Hid.out ?_
  refine Lib.hid ?_
  go_wp2
  go_ret
  exact ⟨g1, c1, rfl, HL.out, hg1, HB.out, HNK.out⟩

/-- The operands of an Op lie in memory, in their order. -/
def Args (w : World) (a : Option Addr) (xs : List Value) : Prop := xs = [] ∨ ∃ g off, a = some ⟨g, off, none⟩ ∧ ∀ i u, xs[i]? = some u → w.cell? ⟨g, off + i, none⟩ = some u

set_option maxHeartbeats 1600000 in
set_option maxRecDepth 100000 in
theorem nodeOfI (o : Po) (a : Option Addr) (c N : Nat) (xs : List Value) (ts : List Tr) (w : World) (ho : opB o = true) (hN : N = ar o) (hl : xs.length = N) (hA : Args w a xs) (r : Option Nat) (hD : Nds w r xs ts) (hcap : N ≤ c) (hr : ∀ g, r = some g → g < w.heap.size) :
    Calls Tryz.prog 64 #[.agg #[.int .i64 o.k, .int .i64 o.v, .string ⟨o.n.toArray⟩], .slice a N c] w fun e w' => ∃ v, e = .returned v ∧ Nd w' r v (mk o ts) ∧ Below w.heap.size w w' := by
  have hk := opB_ar ho
  have htl := hD.len
  obtain ⟨k, v, n⟩ := o
  simp only at hk ⊢
  have hB := Hid.mk ((Below.refl w.heap.size w).alloc (Nat.le_refl _) (.cells #[.int .i64 k, .int .i64 v, .string ⟨n.toArray⟩] 91))
  by_cases h7 : k = 7 ∨ k = 8
  · obtain rfl : N = 1 := by rw [hN]; unfold ar; rw [if_pos h7]
    match xs, hl with
    | [x], _ =>
      cases hD with
      | cons _ t _ ts' hx hnil =>
        cases hnil
        rcases hA with hA | ⟨g, off, rfl, hc⟩
        · cases hA
        obtain ⟨T, u, rfl⟩ := hx.form
        have c0 : w.cell? ⟨g, off, none⟩ = some (.iface T u) := hc 0 _ rfl
        have g0 := lt_of_cell c0
        have HX := Hid.mk (hx.kept hB.out)
        clear hc hx hN htl ho hk
        rcases h7 with rfl | rfl
        · go_enter Tryz.func64, Tryz.ntmps64
          go_wp2
          go_quiet (fail)
          go_wp2
          go_ret
          exact ⟨_, rfl, .pre ⟨7, v, n⟩ _ t (HX.out.kept (below_drewN' (Below.refl _ _) _)), below_drewN' hB.out _⟩
        · go_enter Tryz.func64, Tryz.ntmps64
          go_wp2
          go_quiet (fail)
          go_wp2
          go_ret
          exact ⟨_, rfl, .pre ⟨8, v, n⟩ _ t (HX.out.kept (below_drewN' (Below.refl _ _) _)), below_drewN' hB.out _⟩
  have f7 : (k == 7) = false := by simp; omega
  have f8 : (k == 8) = false := by simp; omega
  by_cases h9 : k = 9
  · subst h9
    obtain rfl : N = 2 := by rw [hN]; unfold ar; rw [if_neg h7, if_pos rfl]
    match xs, hl with
    | [x, y], _ =>
      cases hD with
      | cons _ t _ ts' hx hr =>
        cases hr with
        | cons _ t' _ ts'' hy hnil =>
          cases hnil
          rcases hA with hA | ⟨g, off, rfl, hc⟩
          · cases hA
          obtain ⟨T, u, rfl⟩ := hx.form
          obtain ⟨T', u', rfl⟩ := hy.form
          have c0 : w.cell? ⟨g, off, none⟩ = some (.iface T u) := hc 0 _ rfl
          have c1 : w.cell? ⟨g, off + 1, none⟩ = some (.iface T' u') := hc 1 _ rfl
          have g0 := lt_of_cell c0
          have HX := Hid.mk (hx.kept hB.out)
          have HY := Hid.mk (hy.kept hB.out)
          clear hc hx hy hN htl ho hk f7 f8
          go_enter Tryz.func64, Tryz.ntmps64
          go_wp2
          go_quiet (fail)
          go_wp2
          go_ret
          exact ⟨_, rfl, .bin ⟨9, v, n⟩ _ _ t t' (HX.out.kept (below_drewN' (Below.refl _ _) _)) (HY.out.kept (below_drewN' (Below.refl _ _) _)), below_drewN' hB.out _⟩
  have f9 : (k == 9) = false := by simp; omega
  by_cases h10 : k = 10
  · subst h10
    have hN23 : N = 2 ∨ N = 3 := by rw [hN]; unfold ar; simp; omega
    rcases hA with hA | ⟨g, off, rfl, hc⟩
    · rw [hA] at hl; simp at hl; omega
    have h1 := hD.one
    have n0 : 0 < N := by omega
    have n3 : N ≤ 3 := by omega
    have HC := Hid.mk hc
    have HD := Hid.mk hD
    have HL := Hid.mk hl
    have HN := Hid.mk hN
    have HTL := Hid.mk htl
    have H23 := Hid.mk hN23
    have HO := Hid.mk h1
    clear hc hD hl hN htl hN23 h1 ho hk
    have CA : Hid (∀ w' : World, Below (w.alloc (.cells #[.int .i64 10, .int .i64 v, .string ⟨n.toArray⟩] 91)).heap.size (w.alloc (.cells #[.int .i64 10, .int .i64 v, .string ⟨n.toArray⟩] 91)) w' → Calls Tryz.prog 83 #[.slice (some ⟨g, off, none⟩) N c] w' fun e w'' => ∃ g' c', e = .returned (.slice (some ⟨g', 0, none⟩) N c') ∧ (∀ i u, xs[i]? = some u → w''.cell? ⟨g', i, none⟩ = some u) ∧ w'.heap.size ≤ g' ∧ Below w'.heap.size w' w'' ∧ Nk w'' g') :=
      fun w' hb => cloneI g off c xs N HL.out.symm w' (fun i u hu => cell_keep (below_then hB.out hb) (HC.out i u hu)) HO.out n0 n3
    go_enter Tryz.func64, Tryz.ntmps64
    go_wp2_with fail
    go_region_held3 (fun w' => w'.cell? ⟨w.heap.size, 0, none⟩ = some (.int .i64 10) ∧ w'.cell? ⟨w.heap.size, 1, none⟩ = some (.int .i64 v) ∧ w'.cell? ⟨w.heap.size, 2, none⟩ = some (.string ⟨n.toArray⟩))
      (first | go_keep | ((repeat' constructor) <;> exact cell_keep hb1 (by first | assumption | (simp [*]; done))))
      ((go_at_call 83; refine (CA.out _ (Below.refl _ _).drew).mono ?_; rintro e w1 ⟨g1, c1, rfl, hcl, hg1, hb1, hnk⟩))
    have HB1 := Hid.mk (below_then hB.out.drew hb1)
    have HCl := Hid.mk hcl
    have HNK := Hid.mk hnk
    clear hnk
    have hr1 : some g1 ≠ r := fun e => by have := hr g1 e.symm; simp at hg1; omega
    clear hr
    have hdec : Hid (∃ v', v' = Value.iface 113 (.agg #[.int .i64 10, .int .i64 v, .string ⟨n.toArray⟩, .slice (some ⟨g1, 0, none⟩) N c1]) ∧ Nd w1 r v' (mk ⟨10, v, n⟩ ts)) := by
      refine ⟨_, rfl, ?_⟩
      have hds := HD.out.kept HB1.out
      have hl1 := HL.out
      rcases H23.out with e | e
      · rw [e] at hl1 ⊢
        match xs, hl1, HCl.out, hds with
        | [x, y], _, hcc, hdd =>
          cases hdd with
          | cons _ t _ ts' hx hr =>
            cases hr with
            | cons _ t' _ ts'' hy hnil =>
              cases hnil
              exact .two ⟨10, v, n⟩ g1 0 c1 x y t t' hr1 HNK.out (hcc 0 x rfl) (hcc 1 y rfl) hx hy
      · rw [e] at hl1 ⊢
        match xs, hl1, HCl.out, hds with
        | [x, y, z], _, hcc, hdd =>
          cases hdd with
          | cons _ t _ ts' hx hr =>
            cases hr with
            | cons _ t' _ ts'' hy hr' =>
              cases hr' with
              | cons _ t'' _ ts3 hz hnil =>
                cases hnil
                exact .three ⟨10, v, n⟩ g1 0 c1 x y z t t' t'' hr1 HNK.out (hcc 0 x rfl) (hcc 1 y rfl) (hcc 2 z rfl) hx hy hz
    clear hb1 hcl CA
    go_wp2
    go_ret
    obtain ⟨v', hv', hnd⟩ := hdec.out
    exact ⟨_, rfl, by rw [hv'] at hnd; exact hnd, HB1.out⟩
  · have f10 : (k == 10) = false := by simp; omega
    obtain rfl : N = 0 := by rw [hN]; unfold ar; simp only; rw [if_neg h7, if_neg h9, if_neg h10]
    match xs, hl with
    | [], _ =>
      cases hD
      clear hN htl ho hk hA
      go_enter Tryz.func64, Tryz.ntmps64
      go_wp2
      go_ret
      exact ⟨_, rfl, .leaf ⟨k, v, n⟩, hB.out⟩
end Go.Proofs.YthobdaeglhdhnaaGreatDoor.Syn
