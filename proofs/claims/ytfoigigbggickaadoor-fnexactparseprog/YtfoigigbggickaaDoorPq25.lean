import Derived.Test.YtfoigigbggickaaDoorPq24
namespace Go.Proofs.YtfoigigbggickaaDoor.Par
open Go Go.RowKit Go.Proofs.YtfoigigbggickaaDoor.Mem Go.Proofs.YtfoigigbggickaaDoor.Syn Go.Proofs.YtfoigigbggickaaDoor.Parse
set_option linter.unusedVariables false
set_option linter.unusedSimpArgs false
attribute [local go_sem ↓] Go.wp_at_zero Go.wp_at_succ

/-! What is open or waits, as a row (the top last). -/
def Ent.cells (e : Ent) : List Value := [.int .i64 (e.k : Int), .int .i64 e.v, .int .i64 (e.l : Int)]
def stC (st : List Ent) : List Value := st.reverse.flatMap Ent.cells
def OwnE (B : Nat) (w : World) (v : Value) (st : List Ent) : Prop := w.ownsRow B 89 3 v st.length (stC st)
theorem stC_cons (e : Ent) (r : List Ent) : stC (e :: r) = stC r ++ e.cells := by unfold stC; rw [List.reverse_cons, List.flatMap_append]; simp
theorem stC_app (a b : List Ent) : stC (a ++ b) = stC b ++ stC a := by unfold stC; rw [List.reverse_append, List.flatMap_append]
theorem stC_len : ∀ st : List Ent, (stC st).length = st.length * 3
  | [] => rfl
  | e :: r => by rw [stC_cons, List.length_append, stC_len r]; simp [Ent.cells]; omega
theorem stC_at (pre r : List Ent) (e : Ent) (q : Nat) (hq : q < 3) : (stC (pre ++ e :: r))[r.length * 3 + q]? = e.cells[q]? := by
  rw [stC_app, stC_cons, List.append_assoc, List.getElem?_append_right (by rw [stC_len]; omega), stC_len, show r.length * 3 + q - r.length * 3 = q by omega, List.getElem?_append_left (by simp [Ent.cells]; omega)]
theorem OwnE.below {B : Nat} {w w' : World} {v : Value} {st : List Ent} (h : OwnE B w v st) (hb : Below w.heap.size w w') : OwnE B w' v st := row_below h hb
theorem OwnE.push {B : Nat} {w : World} {v : Value} {st : List Ent} {e : Ent} (h : w.ownsRow B 89 3 v (st.length + 1) (stC st ++ e.cells)) : OwnE B w v (e :: st) := by
  unfold OwnE; rw [stC_cons]; exact h
theorem OwnE.tail {B : Nat} {w : World} {a : Option Addr} {n c : Nat} {e : Ent} {st : List Ent} (h : OwnE B w (.slice a n c) (e :: st)) : OwnE B w (.slice a st.length c) st := by
  refine ⟨stC_len st, ?_⟩
  rcases h.2 with ⟨h1, h2⟩ | ⟨g, cap, cur, h1, h2, h3, h4, h5, h6, h7⟩
  · cases h2
  · injection h1 with e1 e2 e3
    right
    refine ⟨g, cap, cur, by rw [e1, e3], h2, h3, by simp at h4; omega, h5, h6, ?_⟩
    have : List.take (st.length * 3) cur.toList = (List.take ((e :: st).length * 3) cur.toList).take (st.length * 3) := by rw [List.take_take, Nat.min_eq_left (by simp; omega)]
    rw [this, h7, stC_cons, List.take_left' (stC_len st)]
theorem OwnE.blk {B : Nat} {w : World} {a : Option Addr} {n c : Nat} {st : List Ent} (h : OwnE B w (.slice a n c) st) (h0 : st ≠ []) : ∃ g, a = some ⟨g, 0, none⟩ ∧ n = st.length ∧ n ≤ c ∧ B ≤ g ∧ g < w.heap.size := by
  rcases h.2 with ⟨h1, h2⟩ | ⟨g, cap, cur, h1, h2, h3, h4, h5, h6, h7⟩
  · exact absurd (List.length_eq_zero_iff.1 h2) h0
  · injection h1 with e1 e2 e3
    exact ⟨g, e1, e2, by omega, h2, blk_lt h3⟩
theorem OwnE.at {B g : Nat} {w : World} {n c : Nat} {pre r : List Ent} {e : Ent} (h : OwnE B w (.slice (some ⟨g, 0, none⟩) n c) (pre ++ e :: r)) :
    w.cell? ⟨g, r.length * 3, none⟩ = some (.int .i64 (e.k : Int)) ∧ w.cell? ⟨g, r.length * 3 + 1, none⟩ = some (.int .i64 e.v) ∧ w.cell? ⟨g, r.length * 3 + 2, none⟩ = some (.int .i64 (e.l : Int)) := by
  have hn : n = (pre ++ e :: r).length := by obtain ⟨_, _, e2, _⟩ := h.blk (by simp); exact e2
  have hc : ∀ q, q < 3 → w.cell? ⟨g, r.length * 3 + q, none⟩ = e.cells[q]? := fun q hq => by
    rw [hn] at h
    rw [World.ownsRow.cellAt h (r.length * 3 + q) (by simp; omega), stC_at _ _ _ _ hq]
  exact ⟨hc 0 (by omega), hc 1 (by omega), hc 2 (by omega)⟩
theorem OwnE.shape {B : Nat} {w : World} {v : Value} {st : List Ent} (h : OwnE B w v st) : ∃ a c, v = .slice a st.length c := by
  rcases h.2 with ⟨h1, h2⟩ | ⟨g, cap, cur, h1, h2⟩
  · exact ⟨none, 0, by rw [h1, h2]⟩
  · exact ⟨_, _, h1⟩
theorem OwnE.gx {B B' : Nat} {w w' : World} {v ov ov' : Value} {st : List Ent} {out : List Po} (h : OwnE B w v st) (ho : OwnO B' w ov out) (g : Gx ov w ov' w') : OwnE B w' v st := by
  refine ⟨h.1, ?_⟩
  rcases h.2 with h1 | ⟨g0, cap, cur, h1, h2, h3, h4⟩
  · exact Or.inl h1
  · exact Or.inr ⟨g0, cap, cur, h1, h2, g.blk ho h3 (by decide), h4⟩
theorem OwnO.gb2 {B B' : Nat} {w w' : World} {sv ov : Value} {st : List Ent} {out : List Po} (h : OwnO B w ov out) (he : OwnE B' w sv st) (g : w.grownBy w' sv.ownBlock) : OwnO B w' ov out := by
  refine World.ownsRow.kept h g ?_
  cases hb : ov.ownBlock with
  | none => exact Or.inl rfl
  | some k =>
    right
    intro e
    obtain ⟨c1, f1, h1⟩ := row_kind h k hb
    obtain ⟨c2, f2, h2⟩ := row_kind he k e.symm
    rw [h1] at h2
    injection h2 with h2
    injection h2 with _ h2 _
    exact absurd h2 (by decide)
theorem infoE : (Tryd.prog.info? 89).map (fun i => (i.zero, i.size, i.bytes)) = some (some (.agg #[.int .i64 0, .int .i64 0, .int .i64 0]), 3, 24) := by kernel_rfl
theorem fillE (a b c : Int) : Instr.fill (fun i => some (i * 3, 3)) ((Array.range (1 * 3)).map ((Value.agg #[.int .i64 0, .int .i64 0, .int .i64 0]).cells[· % (Value.agg #[.int .i64 0, .int .i64 0, .int .i64 0]).cells.size]!)) [(0, .agg [Value.int .i64 a, .int .i64 b, .int .i64 c].toArray)] = some [Value.int .i64 a, .int .i64 b, .int .i64 c].toArray := by kernel_rfl
theorem oneE (e : Ent) : ∀ u ∈ e.cells, u.oneCell' = true := fun u hu => by simp [Ent.cells] at hu; rcases hu with rfl | rfl | rfl <;> rfl
theorem newsE (w : World) (e : Ent) (g : Nat) (hg : g = w.heap.size) : ∀ j u, e.cells[j]? = some u → (w.alloc (.cells e.cells.toArray 89)).cell? ((⟨g, 0, none⟩ : Addr).add j) = some u := fun j u hu => by
  subst hg; rw [Addr.add_lit, Nat.zero_add, blk_cell (blk_new w _) j]; simpa using hu

/-! l2EntOp, l2Open, l2Inner. -/
set_option maxHeartbeats 1600000 in
set_option maxRecDepth 1000000 in
theorem entOpS (e : Ent) (w : World) : Calls Tryd.prog 48 #[.agg #[.int .i64 (e.k : Int), .int .i64 e.v, .int .i64 (e.l : Int)]] w fun r w' => r = .returned (opA (eop e)) ∧ Below w.heap.size w w' := by
  unfold opA
  by_cases h1 : e.k = 1
  · have q1 : ((e.k : Int) == 1) = true := by simp; omega
    have hv : Hid (eop e = ⟨7, 0, []⟩) := by unfold Hid eop; rw [if_pos h1]
    rw [hv.out]
    clear h1
    go_enter Tryd.func48, Tryd.ntmps48
    go_wp2
    refine bodyPost_ret (by simp [results, Tryd.results48, go_sem]; try rfl) rfl ?_
    exact ⟨rfl, by go_grown⟩
  have q1 : ((e.k : Int) == 1) = false := by simp; omega
  by_cases h2 : e.k = 2
  · have q2 : ((e.k : Int) == 2) = true := by simp; omega
    have hv : Hid (eop e = ⟨8, 0, []⟩) := by unfold Hid eop; rw [if_neg h1, if_pos h2]
    rw [hv.out]
    clear h1 h2
    go_enter Tryd.func48, Tryd.ntmps48
    go_wp2
    refine bodyPost_ret (by simp [results, Tryd.results48, go_sem]; try rfl) rfl ?_
    exact ⟨rfl, by go_grown⟩
  have q2 : ((e.k : Int) == 2) = false := by simp; omega
  by_cases h3 : e.k = 3
  · have q3 : ((e.k : Int) == 3) = true := by simp; omega
    have hv : Hid (eop e = ⟨9, e.v, []⟩) := by unfold Hid eop; rw [if_neg h1, if_neg h2, if_pos h3]
    rw [hv.out]
    clear h1 h2 h3
    go_enter Tryd.func48, Tryd.ntmps48
    go_wp2
    refine bodyPost_ret (by simp [results, Tryd.results48, go_sem]; try rfl) rfl ?_
    exact ⟨rfl, by go_grown⟩
  · have q3 : ((e.k : Int) == 3) = false := by simp; omega
    have hv : Hid (eop e = ⟨10, e.v, []⟩) := by unfold Hid eop; rw [if_neg h1, if_neg h2, if_neg h3]
    rw [hv.out]
    clear h1 h2 h3
    go_enter Tryd.func48, Tryd.ntmps48
    go_wp2
    refine bodyPost_ret (by simp [results, Tryd.results48, go_sem]; try rfl) rfl ?_
    exact ⟨rfl, by go_grown⟩
set_option maxHeartbeats 1600000 in
set_option maxRecDepth 1000000 in
theorem openS (B : Nat) (a : Option Addr) (n c : Nat) (st : List Ent) (w : World) (hE : OwnE B w (.slice a n c) st) (hn : n = st.length) (hl : n ≤ 100000) :
    Calls Tryd.prog 44 #[.slice a n c] w fun r w' => r = .returned (.int .i64 (opens st : Int)) ∧ w' = w := by
  have HE := Hid.mk hE
  have HN := Hid.mk hn
  clear hE hn
  go_enter Tryd.func44, Tryd.ntmps44
  go_wp2_with fail
  go_loop [3, 4] (fun nv iv => ∃ k m : Nat, k ≤ n ∧ m ≤ k ∧ nv = .int .i64 (m : Int) ∧ iv = .int .i64 (k : Int) ∧ Hid (∃ pre r, st = pre ++ r ∧ k = r.length ∧ m = opens r)) (fun nv iv => n - (intOf iv).toNat)
  case atStart => exact ⟨0, 0, by omega, by omega, rfl, rfl, ⟨st, [], by simp, rfl, rfl⟩⟩
  case round =>
    obtain ⟨k, m, hk, hm, rfl, rfl, hs⟩ := hrel
    have k0 : (0 : Int) ≤ (k : Int) := by omega
    by_cases hlt : k < n
    · have k1 : (k : Int) < (n : Int) := by omega
      obtain ⟨e, hx, y0⟩ : ∃ e : Ent, Hid (∃ pre r, st = pre ++ e :: r ∧ k = r.length ∧ m = opens r) ∧ ∃ g, a = some ⟨g, 0, none⟩ ∧ w.cell? ⟨g, k * 3, none⟩ = some (.int .i64 (e.k : Int)) := by
        obtain ⟨pre, r, h1, h2, h3⟩ := hs.out
        have hp : pre ≠ [] := fun e => by rw [HN.out, h1, e] at hlt; simp at hlt; omega
        obtain ⟨pre', e, rfl⟩ : ∃ p e, pre = p ++ [e] := ⟨pre.dropLast, pre.getLast hp, (List.dropLast_concat_getLast hp).symm⟩
        have h4 : st = pre' ++ e :: r := by rw [h1]; simp
        obtain ⟨g, hg, -⟩ := HE.out.blk (by rw [h4]; simp)
        refine ⟨e, ⟨pre', r, h4, h2, h3⟩, g, hg, ?_⟩
        have := HE.out
        rw [hg, h4] at this
        rw [h2]; exact this.at.1
      obtain ⟨g, rfl, y0⟩ := y0
      have hg := lt_of_cell y0
      have e9 : IntKind.i64.wrap ((k : Int) + 1) = (k : Int) + 1 := by rw [IntKind.wrap_i64]; omega
      have e8 : IntKind.i64.wrap ((m : Int) + 1) = (m : Int) + 1 := by rw [IntKind.wrap_i64]; omega
      by_cases h3 : e.k = 3
      · have q3 : ((e.k : Int) != 3) = false := by simp; omega
        have hs2 : Hid (∃ pre r, st = pre ++ r ∧ k + 1 = r.length ∧ m = opens r) := by
          obtain ⟨pre, r, h1, h2, h4⟩ := hx.out
          exact ⟨pre, e :: r, h1, by simp [h2], by rw [opens, if_pos h3]; exact h4⟩
        clear hx hs h3
        go_wp2_with fail
        exact ⟨⟨k + 1, m, by omega, by omega, rfl, by go_num, hs2⟩, by simp [intOf]; omega⟩
      · have q3 : (e.k : Int) ≠ 3 := by omega
        have hs2 : Hid (∃ pre r, st = pre ++ r ∧ k + 1 = r.length ∧ m + 1 = opens r) := by
          obtain ⟨pre, r, h1, h2, h4⟩ := hx.out
          exact ⟨pre, e :: r, h1, by simp [h2], by rw [opens, if_neg h3, h4]⟩
        clear hx hs h3
        go_wp2_with fail
        exact ⟨⟨k + 1, m + 1, by omega, by omega, by go_num, by go_num, hs2⟩, by simp [intOf]; omega⟩
    · have k1 : decide ((k : Int) < (n : Int)) = false := by simp; omega
      have hv : Hid (m = opens st) := by
        obtain ⟨pre, r, h1, h2, h3⟩ := hs.out
        have hp : pre = [] := by
          have := HN.out
          rw [h1] at this
          simp at this
          exact List.length_eq_zero_iff.1 (by omega)
        rw [hp] at h1
        unfold Hid
        rw [h1]; exact h3
      go_wp2
      go_ret
      rw [← hv.out]
      exact ⟨rfl, rfl⟩
/-- Where the innermost open parenthesis lies, or -1. -/
def innI : List Ent → Int
  | [] => -1
  | e :: r => if 4 ≤ e.k then (r.length : Int) else innI r
set_option maxHeartbeats 1600000 in
set_option maxRecDepth 1000000 in
theorem innerS (B : Nat) (a : Option Addr) (n c : Nat) (st : List Ent) (w : World) (hE : OwnE B w (.slice a n c) st) (hn : n = st.length) (hl : n ≤ 100000) :
    Calls Tryd.prog 46 #[.slice a n c] w fun r w' => r = .returned (.int .i64 (innI st)) ∧ w' = w := by
  have HE := Hid.mk hE
  have HN := Hid.mk hn
  have e7 : IntKind.i64.wrap ((n : Int) - 1) = (n : Int) - 1 := by rw [IntKind.wrap_i64]; omega
  clear hE hn
  go_enter Tryd.func46, Tryd.ntmps46
  go_wp2_with fail
  go_loop [3] (fun iv => ∃ k : Nat, k ≤ n ∧ iv = .int .i64 ((k : Int) - 1) ∧ Hid (∃ pre r, st = pre ++ r ∧ k = r.length ∧ innI st = innI r)) (fun iv => (intOf iv + 1).toNat)
  case atStart => exact ⟨n, by omega, rfl, ⟨[], st, rfl, HN.out, rfl⟩⟩
  case round =>
    obtain ⟨k, hk, rfl, hs⟩ := hrel
    by_cases hlt : 0 < k
    · obtain ⟨j, rfl⟩ : ∃ j, k = j + 1 := ⟨k - 1, by omega⟩
      rw [show ((j + 1 : Nat) : Int) - 1 = (j : Int) by omega]
      have k0 : (0 : Int) ≤ (j : Int) := by omega
      have k1 : (j : Int) < (n : Int) := by omega
      obtain ⟨e, hx, y0⟩ : ∃ e : Ent, Hid (∃ pre r, st = pre ++ e :: r ∧ j = r.length ∧ innI st = innI (e :: r)) ∧ ∃ g, a = some ⟨g, 0, none⟩ ∧ w.cell? ⟨g, j * 3, none⟩ = some (.int .i64 (e.k : Int)) := by
        obtain ⟨pre, r, h1, h2, h3⟩ := hs.out
        cases r with
        | nil => simp at h2
        | cons e r =>
          obtain ⟨g, hg, -⟩ := HE.out.blk (by rw [h1]; simp)
          have h4 : j = r.length := by simpa using h2
          refine ⟨e, ⟨pre, r, h1, h4, h3⟩, g, hg, ?_⟩
          have := HE.out
          rw [hg, h1] at this
          rw [h4]; exact this.at.1
      obtain ⟨g, rfl, y0⟩ := y0
      have hg := lt_of_cell y0
      have e9 : IntKind.i64.wrap ((j : Int) - 1) = (j : Int) - 1 := by rw [IntKind.wrap_i64]; omega
      by_cases h4 : 4 ≤ e.k
      · have q3 : (4 : Int) ≤ (e.k : Int) := by omega
        have hv : Hid (innI st = (j : Int)) := by
          obtain ⟨pre, r, h1, h2, h3⟩ := hx.out
          unfold Hid
          rw [h3, innI, if_pos h4, h2]
        clear hx hs h4
        go_wp2
        go_ret
        rw [hv.out]
        exact ⟨rfl, rfl⟩
      · have q3 : decide ((4 : Int) ≤ (e.k : Int)) = false := by simp; omega
        have hs2 : Hid (∃ pre r, st = pre ++ r ∧ j = r.length ∧ innI st = innI r) := by
          obtain ⟨pre, r, h1, h2, h3⟩ := hx.out
          exact ⟨pre ++ [e], r, by rw [h1]; simp, h2, by rw [h3, innI, if_neg h4]⟩
        clear hx hs h4
        go_wp2_with fail
        exact ⟨⟨j, by omega, by first | rfl | go_num, hs2⟩, by simp [intOf]⟩
    · obtain rfl : k = 0 := by omega
      have hv : Hid (innI st = -1) := by
        obtain ⟨pre, r, h1, h2, h3⟩ := hs.out
        obtain rfl : r = [] := List.length_eq_zero_iff.1 h2.symm
        exact h3
      rw [show ((0 : Nat) : Int) - 1 = -1 from rfl]
      go_wp2
      go_ret
      rw [hv.out]
      exact ⟨rfl, rfl⟩
end Go.Proofs.YtfoigigbggickaaDoor.Par
