import Derived.Test.YthobdaeglhdhnaaGreatDoorPp14
import Derived.Deep.CutRange
import Derived.Deep.Cut
import Derived.Deep.DeepCutAuto
namespace Go.Proofs.YthobdaeglhdhnaaGreatDoor.Syn
open Go Go.RowKit Go.Proofs.YthobdaeglhdhnaaGreatDoor.Mem
set_option linter.unusedVariables false
set_option linter.unusedSimpArgs false
attribute [local go_sem ↓] Go.wp_at_zero Go.wp_at_succ

/-- The specification's value of a tree, without texts. -/
def vcells (t : Tr) : List Value := [.int .i64 t.str, .int .i64 t.nst, .slice none 0 0]
/-- The nesting of operand i with its parentheses. -/
def wn (o : Po) (ts : Nat → Tr) (i : Nat) : Int := if wrp o i (ts i).str = true then (ts i).nst + 1 else (ts i).nst
def mxw (o : Po) (ts : Nat → Tr) : Nat → Int
  | 0 => 0
  | n + 1 => if mxw o ts n < wn o ts n then wn o ts n else mxw o ts n
theorem wn_bd (o : Po) (ts : Nat → Tr) (i : Nat) (h : (ts i).sz ≤ 1000000) : 0 ≤ wn o ts i ∧ wn o ts i ≤ 2000001 := by
  have := nst_bd (ts i)
  unfold wn; split <;> omega
theorem mxw_bd (o : Po) (ts : Nat → Tr) (n : Nat) (h : ∀ i, i < n → (ts i).sz ≤ 1000000) : 0 ≤ mxw o ts n ∧ mxw o ts n ≤ 2000001 := by
  induction n with
  | zero => simp [mxw]
  | succ n ih =>
    have := ih (fun i hi => h i (by omega))
    have := wn_bd o ts n (h n (by omega))
    unfold mxw
    split <;> omega
/-- What the specification makes of an Op and its operands. -/
def apN (o : Po) (ts : Nat → Tr) (N : Nat) : Int := if N = 0 then 0 else if o.k = 9 then mxw o ts N else mxw o ts N + 1
theorem grown_oth {w w' : World} {g : Nat} {C : Array Value} {t e : TypeId} {fr : Nat × Nat} {v : Value} {B n s : Nat} {xs : List Value} (hg : w.grownBy w' v.ownBlock) (hrow : w.ownsRow B e s v n xs) (hb : w.heap[g]? = some (.cells C t fr)) (hne : t ≠ e) : w'.heap[g]? = some (.cells C t fr) := by
  rw [hg.block g (blk_lt hb) ?_]
  · exact hb
  · intro e1
    rcases hrow.2 with ⟨h0, -⟩ | ⟨g', cap, cur, h1, h2, h3, h4⟩
    · rw [h0] at e1; cases e1
    · rw [h1] at e1
      injection e1 with e1
      have e2 : g = g' := e1
      rw [e2, h3] at hb
      injection hb with hb
      injection hb with _ h5
      exact hne h5.symm

theorem row_set' {w : World} {B s n r i : Nat} {v u : Value} {e t : TypeId} {xs : List Value} {C : Array Value} {fr : Nat × Nat} (h : w.ownsRow B e s v n xs) (hx : w.heap[r]? = some (.cells C t fr)) (hne : e ≠ t) : (w.setCell ⟨r, i, none⟩ u).ownsRow B e s v n xs := by
  refine ⟨h.1, ?_⟩
  rcases h.2 with h0 | ⟨g, cap, cur, h1, h2, h3, h4⟩
  · exact Or.inl h0
  · refine Or.inr ⟨g, cap, cur, h1, h2, blk_set_other h3 ?_ _, h4⟩
    intro e1
    have e2 : g = r := e1
    rw [e2, hx] at h3
    injection h3 with h3
    injection h3 with _ h5
    exact hne h5.symm
theorem blk_store3 {w : World} {g : Nat} {x y z a b c : Value} {t : TypeId} (h : w.heap[g]? = some (.cells #[x, y, z] t)) : (((w.setCell ⟨g, 0, none⟩ a).setCell ⟨g, 1, none⟩ b).setCell ⟨g, 2, none⟩ c).heap[g]? = some (.cells #[a, b, c] t) := by
  have := blk_set (blk_set (blk_set h 0 a) 1 b) 2 c
  simpa using this
/-- A record of three cells as a result. -/
theorem ret_rec3 {w : World} {g : Nat} {x y z : Value} {t : TypeId} (h : w.heap[g]? = some (.cells #[x, y, z] t)) : w.cell? ⟨g, 0, none⟩ = some x ∧ w.cell? ⟨g, 1, none⟩ = some y ∧ w.cell? ⟨g, 2, none⟩ = some z := by
  have h0 := blk_cell h 0
  have h1 := blk_cell h 1
  have h2 := blk_cell h 2
  simp only [List.getElem?_toArray, List.getElem?_cons_zero, List.getElem?_cons_succ] at h0 h1 h2
  exact ⟨h0, h1, h2⟩
set_option maxHeartbeats 3200000 in
set_option maxRecDepth 100000 in
theorem applyS (o : Po) (ts : Nat → Tr) (N : Nat) (a : Option Addr) (c : Nat) (w : World) (hs : SliceAt w a N 3 (fun i => vcells (ts i))) (hN : N ≤ 3) (hsz : ∀ i, i < N → (ts i).sz ≤ 1000000) :
    Calls Tryz.prog 58 #[.agg #[.int .i64 o.k, .int .i64 o.v, .string ⟨o.n.toArray⟩], .slice a N c, .bool false] w fun e w' => e = .returned (.agg #[.int .i64 (pstr o), .int .i64 (apN o ts N), .slice none 0 0]) ∧ Below w.heap.size w w' := by
  obtain ⟨i0, hi, hz0, hz1, hz2⟩ := info_parts infoU8
  obtain ⟨i1, hi1, hy0, hy1, hy2⟩ := info_parts infoSl
  have H := Hid.mk hs
  have HZ := Hid.mk hsz
  clear hs hsz
  obtain ⟨S, hS⟩ : ∃ S, S = pstr o := ⟨_, rfl⟩
  have SC : Hid (∀ W : World, Calls Tryz.prog 74 #[.agg #[.int .i64 o.k, .int .i64 o.v, .string ⟨o.n.toArray⟩]] W fun e w' => e = .returned (.int .i64 S) ∧ Below W.heap.size W w') := fun W => by rw [hS]; exact strengthS o W
  rw [← hS]
  clear hS
  go_enter Tryz.func58, Tryz.ntmps58
  go_wp2_with fail
  refine (SC.out _).mono ?_
  rintro e w1 ⟨rfl, hb1⟩
  have HB1 := Hid.mk (below_then (w := w) (by go_grown) hb1)
  have P1 := Hid.mk (blk_below (blk_alloc (blk_new w _) _) hb1)
  have R1 := Hid.mk (blk_below (blk_new1 w _ _) hb1)
  clear hb1 SC
  have z1 := blk_lt R1.out
  by_cases h0 : N = 0
  · have hq : ((N : Int) == 0) = true := by simp [h0]
    have hv : Hid (apN o ts N = 0) := by unfold Hid apN; rw [if_pos h0]
    clear h0
    have r0 := blk_cell R1.out 0
    have r1 := blk_cell R1.out 1
    have r2 := blk_cell R1.out 2
    have q0 := blk_unfrozen R1.out 0
    have q1 := blk_unfrozen R1.out 1
    have q2 := blk_unfrozen R1.out 2
    simp only [List.getElem?_toArray, List.getElem?_cons_zero, List.getElem?_cons_succ] at r0 r1 r2
    go_wp2
    obtain ⟨Z, hZ⟩ : ∃ Z : World, Z = ((((w1.setCell ⟨w.heap.size + 1, 0, none⟩ (.int .i64 S)).setCell ⟨w.heap.size + 1, 1, none⟩ (.int .i64 0)).setCell ⟨w.heap.size + 1, 2, none⟩ (.slice none 0 0)).alloc (.cells #[.int .i64 S, .int .i64 0, .slice none 0 0] 73)) := ⟨_, rfl⟩
    rw [← hZ]
    obtain ⟨s0, s1, s2⟩ := ret_rec3 (show Z.heap[w.heap.size + 1]? = some (.cells #[.int .i64 S, .int .i64 0, .slice none 0 0] 73) by rw [hZ]; exact blk_alloc (blk_store3 R1.out) _)
    have HZB : Below w.heap.size w Z := by rw [hZ]; exact (below_set (below_set (below_set HB1.out _ (by simp) _) _ (by simp) _) _ (by simp) _).alloc (by have := HB1.out.size; simp [World.setCell]; omega) _
    clear hZ
    refine bodyPost_ret (v := .agg #[.int .i64 S, .int .i64 0, .slice none 0 0]) (by simp [results, Tryz.results58, go_sem, s0, s1, s2]; try rfl) rfl ⟨by rw [hv.out], HZB⟩
  have hq : ((N : Int) == 0) = false := by simp; omega
  have n0 : 0 < N := by omega
  go_wp2_with fail
  obtain ⟨z, hz⟩ : ∃ z, z = w1.heap.size := ⟨_, rfl⟩
  have h2 : Hid (∃ W, W = (w1.alloc (.cells #[.int .i64 S, .int .i64 0, .slice none 0 0] 73)).alloc (.cells #[] 26)) := ⟨_, rfl⟩
  obtain ⟨W, hW⟩ := h2.out
  have W1 : Hid (W.heap[w1.heap.size]? = some (.cells #[.int .i64 S, .int .i64 0, .slice none 0 0] 73)) := by unfold Hid; rw [hW]; exact blk_alloc (blk_new w1 _) _
  have W2 : Hid (W.ownsRow w.heap.size 26 1 (.slice (some ⟨w1.heap.size + 1, 0, none⟩) 0 0) 0 []) := by
    unfold Hid; rw [hW]
    have := World.ownsRow_made (w1.alloc (.cells #[.int .i64 S, .int .i64 0, .slice none 0 0] 73)) (base := w.heap.size) (e := 26) (size := 1) #[] 0 (by have := HB1.out.size; simp; omega) (by unfold maxLen; omega) (by simp)
    simpa using this
  have W3 := Hid.mk (show W.heap[w.heap.size]? = some (.cells #[.int .i64 o.k, .int .i64 o.v, .string ⟨o.n.toArray⟩] 91) by rw [hW]; exact blk_alloc (blk_alloc P1.out _) _)
  have W4 := Hid.mk (show W.heap[w.heap.size + 1]? = some (.cells #[.int .i64 0, .int .i64 0, .slice none 0 0] 73) by rw [hW]; exact blk_alloc (blk_alloc R1.out _) _)
  have W5 : Hid (Below w.heap.size w W) := by unfold Hid; rw [hW]; exact below_alloc' (below_alloc' HB1.out _) _
  rw [← hW]
  clear hW h2 hz HB1 P1 R1
  obtain ⟨z, hz⟩ : ∃ z, z = w1.heap.size := ⟨_, rfl⟩
  have hzw : w.heap.size + 1 < z := by rw [hz]; exact z1
  clear z1
  go_loopw [8, 9] (fun tv i wr => ∃ (j : Nat) (ys : List Value), j ≤ N ∧ i = .int .i64 (j : Int) ∧ Hid (wr.ownsRow w.heap.size 26 1 tv j ys) ∧ Hid (wr.heap[w1.heap.size]? = some (.cells #[.int .i64 S, .int .i64 (mxw o ts j), .slice none 0 0] 73)) ∧ Hid (wr.heap[w.heap.size]? = some (.cells #[.int .i64 o.k, .int .i64 o.v, .string ⟨o.n.toArray⟩] 91)) ∧ Hid (wr.heap[w.heap.size + 1]? = some (.cells #[.int .i64 0, .int .i64 0, .slice none 0 0] 73)) ∧ Hid (Below w.heap.size w wr)) (fun _ i _ => N - (intOf i).toNat)
  case atStart => exact ⟨0, [], Nat.zero_le _, rfl, W2, W1, W3, W4, W5⟩
  case round =>
    clear W1 W2 W3 W4 W5
    obtain ⟨j, ys, hj, rfl, ho, hout, hop, hres, hb⟩ := hrel
    by_cases hlt : j < N
    · rcases H.out with h0 | ⟨b, off, rfl, h0⟩
      · omega
      have hcl := rangeAt_below (h0 j hlt) hb.out
      have e0 : wr.cell? ⟨b, off + j * 3, none⟩ = some (.int .i64 (ts j).str) := hcl 0 _ rfl
      have e1 : wr.cell? ⟨b, off + j * 3 + 1, none⟩ = some (.int .i64 (ts j).nst) := hcl 1 _ rfl
      have e2 : wr.cell? ⟨b, off + j * 3 + 2, none⟩ = some (.slice none 0 0) := hcl 2 _ rfl
      clear hcl h0
      have k0 : (0 : Int) ≤ (j : Int) := by omega
      have k1 : (j : Int) < (N : Int) := by omega
      have p0 := blk_cell hop.out 0
      have p1 := blk_cell hop.out 1
      have p2 := blk_cell hop.out 2
      simp only [List.getElem?_toArray, List.getElem?_cons_zero, List.getElem?_cons_succ] at p0 p1 p2
      have hsz := HZ.out j hlt
      have hnb := nst_bd (ts j)
      have hmb := mxw_bd o ts j (fun i hi => HZ.out i (by omega))
      obtain ⟨n, hn⟩ : ∃ n, n = (ts j).nst := ⟨_, rfl⟩
      obtain ⟨u, hu⟩ : ∃ u, u = (ts j).str := ⟨_, rfl⟩
      obtain ⟨M, hM⟩ : ∃ M, M = mxw o ts j := ⟨_, rfl⟩
      have hwn : Hid (wn o ts j = if wrp o j u = true then n + 1 else n) := by unfold Hid wn; rw [hu, hn]
      have hmx : Hid (mxw o ts (j + 1) = if M < wn o ts j then wn o ts j else M) := by unfold Hid; rw [hM]; rfl
      rw [← hn] at e1 hnb
      rw [← hu] at e0
      rw [← hM] at hmb hout
      clear hn hu hM
      obtain ⟨nb0, nb1⟩ : 0 ≤ n ∧ n ≤ 2000000 := by omega
      obtain ⟨mb0, mb1⟩ := hmb
      clear hnb hsz
      go_wp2_with fail
      go_region_held3 (fun w' => w'.cell? ⟨w.heap.size, 0, none⟩ = some (.int .i64 o.k) ∧ w'.cell? ⟨w.heap.size, 1, none⟩ = some (.int .i64 o.v) ∧ w'.cell? ⟨w.heap.size, 2, none⟩ = some (.string ⟨o.n.toArray⟩) ∧ w'.cell? ⟨b, off + j * 3, none⟩ = some (.int .i64 u))
        (first | go_keep | ((repeat' constructor) <;> exact cell_keep hb2 (by first | assumption | (simp [*]; done))))
        ((go_at_call 76; refine (wrappedS o j u wr.drew (by omega)).mono ?_; rintro e w2 ⟨rfl, hb2⟩))
      have hbd := Hid.mk (below_then (Below.refl wr.heap.size wr).drew hb2)
      have B2 := Hid.mk (below_then hb.out hbd.out)
      have O2 := Hid.mk (row_kept ho.out hbd.out)
      have U2 := Hid.mk (blk_below hout.out hbd.out)
      have P2 := Hid.mk (blk_below hop.out hbd.out)
      have R2 := Hid.mk (blk_below hres.out hbd.out)
      clear hb2 hbd hb ho hout hop hres e0 e1 e2 p0 p1 p2
      obtain ⟨ta, tc, htv, htc⟩ := own_shape O2.out
      rw [htv] at O2
      rw [htv]
      clear htv
      have hwz := blk_lt P2.out
      go_upto_if 50 with fail
      go_cut [10, 11] (fun nv xv wx => ∃ (xa : Option Addr) (xn xc : Nat), nv = .int .i64 (wn o ts j) ∧ xv = .slice xa xn xc ∧ Hid (Below w2.heap.size w2 wx))
      case first =>
        cases hw : wrp o j u with
        | false =>
          have hv : Hid (wn o ts j = n) := by unfold Hid; rw [hwn.out, hw]; rfl
          go_wp2_with fail
          go_meet
          exact ⟨none, 0, 0, by rw [hv.out], rfl, Below.refl _ _⟩
        | true =>
          have hv : Hid (wn o ts j = n + 1) := by unfold Hid; rw [hwn.out, hw]; rfl
          have cv := run_conv (P := Tryz.prog) (w2.alloc (.cells #[.int .u8 40] 5)) 26 5 w2.heap.size #[.int .u8 40] (0, 0) 1 1 Tryz.underlying26 Tryz.underlying5 (blk_new _ _)
          obtain ⟨fr, hfr⟩ := blk_freeze (blk_new w2 (.cells #[.int .u8 40] 5)) ⟨w2.heap.size, 1, none⟩ 1
          have hbf : Hid (Below w2.heap.size w2 ((w2.alloc (.cells #[.int .u8 40] 5)).freeze ⟨w2.heap.size, 1, none⟩ 1)) := below_freeze ((Below.refl _ _).alloc (Nat.le_refl _) _) _ _ _ (Nat.le_refl _)
          have CS := Hid.mk (catS (some ⟨w2.heap.size, 0, none⟩) none 1 0 1 0 [.int .u8 40] [] ((w2.alloc (.cells #[.int .u8 40] 5)).freeze ⟨w2.heap.size, 1, none⟩ 1) rfl rfl (Or.inr ⟨w2.heap.size, 0, rfl, fun j u hu => by rw [Nat.zero_add, blk_cell hfr j]; simpa using hu⟩) (Or.inl ⟨rfl, rfl⟩) (by intro u hu; simp only [List.mem_singleton] at hu; rw [hu]; rfl) (by intro u hu; cases hu) (by omega) (by omega) (by intro h; cases h) (fun _ => rfl))
          clear hfr
          go_wp2_with fail
          refine CS.out.mono ?_
          rintro e w3 ⟨v3, rfl, ho3, hb3⟩
          obtain ⟨va, vc, rfl, hvc⟩ := own_shape ho3
          have O3 := Hid.mk ho3
          have B3 := Hid.mk (below_then hbf.out hb3)
          have hz3 := hb3.size
          rw [size_freeze, World.size_alloc] at hz3
          have O3' : Hid (w3.ownsRow w2.heap.size 5 1 (.slice va (1 + 0) vc) (1 + 0) ([.int .u8 40] ++ [])) := by
            refine ⟨ho3.1, ?_⟩
            rcases ho3.2 with h | ⟨g, cap, cur, q1, q2, q3⟩
            · exact Or.inl h
            · exact Or.inr ⟨g, cap, cur, q1, by rw [size_freeze, World.size_alloc] at q2; omega, q3⟩
          clear ho3 hb3 cv CS hbf O3
          go_wp2_with (at_builtin; refine wpList_append_own _ rfl _ _ 26 rfl w2.heap.size 5 i0 (.int .u8 0) 1 1 Tryz.underlying26 hi hz0 hz1 hz2 rfl (by decide) _ _ _ rfl (O3'.out.alloc _) ⟨w3.heap.size, 0, none⟩ 1 1 [.int .u8 41] rfl rfl (news_one w3 _ 5) (by intro u hu; simp only [List.mem_singleton] at hu; rw [hu]; rfl) (by unfold maxLen; omega) (by omega) (by simp; omega) ?_)
          intro v4 w4 hown4 hgrow4 _
          obtain ⟨xa, xc, rfl, -⟩ := own_shape hown4
          have B4 : Hid (Below w2.heap.size w2 w4) := (B3.out.alloc B3.out.size _).grown hgrow4 (by simp; omega) (fun k hk => (O3'.out.lt k hk).1)
          clear hown4 hgrow4 O3' B3
          refine Hid.out ?_
          refine Lib.hid ?_
          go_wp2_with fail
          go_meet
          exact ⟨xa, _, xc, by rw [hv.out], rfl, B4.out⟩
      case rest =>
        obtain ⟨xa, xn, xc, rfl, rfl, hbx⟩ := hcut
        have hq0 := wn_bd o ts j (HZ.out j hlt)
        obtain ⟨q, hq⟩ : ∃ q, q = wn o ts j := ⟨_, rfl⟩
        rw [← hq] at hmx hq0
        rw [← hq]
        obtain ⟨q0, q1⟩ := hq0
        clear hq hwn
        have B3 := Hid.mk (below_then B2.out hbx.out)
        have O3 := Hid.mk (row_kept O2.out hbx.out)
        have U3 := Hid.mk (blk_below U2.out hbx.out)
        have P3 := Hid.mk (blk_below P2.out hbx.out)
        have R3 := Hid.mk (blk_below R2.out hbx.out)
        clear hbx B2 O2 U2 P2 R2 hwz
        have x1 := blk_cell U3.out 1
        have y1 := blk_unfrozen U3.out 1
        simp only [List.getElem?_toArray, List.getElem?_cons_zero, List.getElem?_cons_succ] at x1
        by_cases hm : M < q
        · have hv : Hid (mxw o ts (j + 1) = q) := by unfold Hid; rw [hmx.out, if_pos hm]
          go_upto_region 17 with fail
          clear x1 y1
          obtain ⟨Z, hZ⟩ : ∃ Z : World, Z = wc.setCell ⟨w1.heap.size, 1, none⟩ (.int .i64 q) := ⟨_, rfl⟩
          rw [← hZ]
          have UZ : Hid (Z.heap[w1.heap.size]? = some (.cells #[.int .i64 S, .int .i64 (mxw o ts (j + 1)), .slice none 0 0] 73)) := by
            unfold Hid; rw [hZ, hv.out]; have := blk_set U3.out 1 (.int .i64 q); simpa using this
          have PZ : Hid (Z.heap[w.heap.size]? = some (.cells #[.int .i64 o.k, .int .i64 o.v, .string ⟨o.n.toArray⟩] 91)) := by
            unfold Hid; rw [hZ]; exact blk_set_other P3.out (by show w.heap.size ≠ w1.heap.size; omega) _
          have RZ : Hid (Z.heap[w.heap.size + 1]? = some (.cells #[.int .i64 0, .int .i64 0, .slice none 0 0] 73)) := by
            unfold Hid; rw [hZ]; exact blk_set_other R3.out (by show w.heap.size + 1 ≠ w1.heap.size; omega) _
          have OZ : Hid (Z.ownsRow w.heap.size 26 1 (.slice ta j tc) j ys) := by
            unfold Hid; rw [hZ]; exact row_set' O3.out U3.out (by decide)
          have BZ : Hid (Below w.heap.size w Z) := by unfold Hid; rw [hZ]; exact below_set B3.out _ (by show w.heap.size ≤ w1.heap.size; omega) _
          clear hZ U3 P3 R3 O3 B3 hv hmx
          go_wp2_with (at_builtin; refine wpList_append_own _ rfl _ _ 55 rfl w.heap.size 26 i1 (.slice none 0 0) 1 24 Tryz.underlying55 hi1 hy0 hy1 hy2 rfl (by decide) _ _ _ rfl (OZ.out.alloc _) ⟨Z.heap.size, 0, none⟩ 1 1 [.slice xa xn xc] rfl rfl (news_one Z _ 26) (by intro u hu; simp only [List.mem_singleton] at hu; rw [hu]; rfl) (by unfold maxLen; omega) (by omega) (by have := BZ.out.size; simp; omega) ?_)
          intro v4 w4 hown4 hgrow4 _
          have U4 := Hid.mk (grown_oth hgrow4 (OZ.out.alloc _) (blk_alloc UZ.out _) (by decide))
          have P4 := Hid.mk (grown_oth hgrow4 (OZ.out.alloc _) (blk_alloc PZ.out _) (by decide))
          have R4 := Hid.mk (grown_oth hgrow4 (OZ.out.alloc _) (blk_alloc RZ.out _) (by decide))
          have B4 : Hid (Below w.heap.size w w4) := (BZ.out.alloc BZ.out.size _).grown hgrow4 (by have := BZ.out.size; simp; omega) (fun k hk => (OZ.out.lt k hk).1)
          have O4 := Hid.mk hown4
          clear hown4 hgrow4 OZ UZ PZ RZ BZ
          refine Hid.out ?_
          refine Lib.hid ?_
          go_wp2
          exact ⟨⟨j + 1, _, by omega, by go_num, O4, U4, P4, R4, B4⟩, by simp [intOf]; omega⟩
        · have hv : Hid (mxw o ts (j + 1) = M) := by unfold Hid; rw [hmx.out, if_neg hm]
          have hmd : decide (M < q) = false := by simpa using hm
          go_upto_region 17 with fail
          clear x1 y1
          obtain ⟨Z, hZ⟩ : ∃ Z : World, Z = wc := ⟨_, rfl⟩
          rw [← hZ]
          have UZ : Hid (Z.heap[w1.heap.size]? = some (.cells #[.int .i64 S, .int .i64 (mxw o ts (j + 1)), .slice none 0 0] 73)) := by
            unfold Hid; rw [hZ, hv.out]; exact U3.out
          have PZ : Hid (Z.heap[w.heap.size]? = some (.cells #[.int .i64 o.k, .int .i64 o.v, .string ⟨o.n.toArray⟩] 91)) := by unfold Hid; rw [hZ]; exact P3.out
          have RZ : Hid (Z.heap[w.heap.size + 1]? = some (.cells #[.int .i64 0, .int .i64 0, .slice none 0 0] 73)) := by unfold Hid; rw [hZ]; exact R3.out
          have OZ : Hid (Z.ownsRow w.heap.size 26 1 (.slice ta j tc) j ys) := by unfold Hid; rw [hZ]; exact O3.out
          have BZ : Hid (Below w.heap.size w Z) := by unfold Hid; rw [hZ]; exact B3.out
          clear hZ U3 P3 R3 O3 B3 hv hmx
          go_wp2_with (at_builtin; refine wpList_append_own _ rfl _ _ 55 rfl w.heap.size 26 i1 (.slice none 0 0) 1 24 Tryz.underlying55 hi1 hy0 hy1 hy2 rfl (by decide) _ _ _ rfl (OZ.out.alloc _) ⟨Z.heap.size, 0, none⟩ 1 1 [.slice xa xn xc] rfl rfl (news_one Z _ 26) (by intro u hu; simp only [List.mem_singleton] at hu; rw [hu]; rfl) (by unfold maxLen; omega) (by omega) (by have := BZ.out.size; simp; omega) ?_)
          intro v4 w4 hown4 hgrow4 _
          have U4 := Hid.mk (grown_oth hgrow4 (OZ.out.alloc _) (blk_alloc UZ.out _) (by decide))
          have P4 := Hid.mk (grown_oth hgrow4 (OZ.out.alloc _) (blk_alloc PZ.out _) (by decide))
          have R4 := Hid.mk (grown_oth hgrow4 (OZ.out.alloc _) (blk_alloc RZ.out _) (by decide))
          have B4 : Hid (Below w.heap.size w w4) := (BZ.out.alloc BZ.out.size _).grown hgrow4 (by have := BZ.out.size; simp; omega) (fun k hk => (OZ.out.lt k hk).1)
          have O4 := Hid.mk hown4
          clear hown4 hgrow4 OZ UZ PZ RZ BZ
          refine Hid.out ?_
          refine Lib.hid ?_
          go_wp2
          exact ⟨⟨j + 1, _, by omega, by go_num, O4, U4, P4, R4, B4⟩, by simp [intOf]; omega⟩
    · obtain rfl : j = N := by omega
      have k1 : decide ((j : Int) < (j : Int)) = false := by simp
      have hmb := mxw_bd o ts j HZ.out
      obtain ⟨M, hM⟩ : ∃ M, M = mxw o ts j := ⟨_, rfl⟩
      have hap : Hid (apN o ts j = if o.k = 9 then M else M + 1) := by unfold Hid apN; rw [if_neg (by omega), hM]
      rw [← hM] at hout hmb
      clear hM
      obtain ⟨mb0, mb1⟩ := hmb
      have p0 := blk_cell hop.out 0
      have o0 := blk_cell hout.out 0
      have o1 := blk_cell hout.out 1
      have o2 := blk_cell hout.out 2
      have f1 := blk_unfrozen hout.out 1
      have r0 := blk_cell hres.out 0
      have r1 := blk_cell hres.out 1
      have r2 := blk_cell hres.out 2
      have g0 := blk_unfrozen hres.out 0
      have g1 := blk_unfrozen hres.out 1
      have g2 := blk_unfrozen hres.out 2
      simp only [List.getElem?_toArray, List.getElem?_cons_zero, List.getElem?_cons_succ] at p0 o0 o1 o2 r0 r1 r2
      by_cases h9 : o.k = 9
      · have hv : Hid (apN o ts j = M) := by unfold Hid; rw [hap.out, if_pos h9]
        have q9 : (o.k == 9) = true := by simpa using h9
        have q9' : (o.k != 9) = false := by simpa using h9
        clear h9 hap
        go_wp2
        obtain ⟨Z, hZ⟩ : ∃ Z : World, Z = ((wr.setCell ⟨w.heap.size + 1, 0, none⟩ (.int .i64 S)).setCell ⟨w.heap.size + 1, 1, none⟩ (.int .i64 M)).setCell ⟨w.heap.size + 1, 2, none⟩ (.slice none 0 0) := ⟨_, rfl⟩
        rw [← hZ]
        obtain ⟨s0, s1, s2⟩ := ret_rec3 (show Z.heap[w.heap.size + 1]? = some (.cells #[.int .i64 S, .int .i64 M, .slice none 0 0] 73) by rw [hZ]; exact blk_store3 hres.out)
        have HZB : Below w.heap.size w Z := by rw [hZ]; exact below_set (below_set (below_set hb.out _ (by simp) _) _ (by simp) _) _ (by simp) _
        clear hZ
        refine bodyPost_ret (v := .agg #[.int .i64 S, .int .i64 M, .slice none 0 0]) (by simp [results, Tryz.results58, go_sem, s0, s1, s2]; try rfl) rfl ⟨by rw [hv.out], HZB⟩
      · have hv : Hid (apN o ts j = M + 1) := by unfold Hid; rw [hap.out, if_neg h9]
        have q9 : (o.k == 9) = false := by simpa using h9
        have q9' : (o.k != 9) = true := by simpa using h9
        clear h9 hap
        go_upto_region 20 with fail
        clear p0 o0 o1 o2 f1 r0 r1 r2 g0 g1 g2
        obtain ⟨V, hV⟩ : ∃ V : World, V = wr.setCell ⟨w1.heap.size, 1, none⟩ (.int .i64 (M + 1)) := ⟨_, rfl⟩
        rw [← hV]
        have UV : Hid (V.heap[w1.heap.size]? = some (.cells #[.int .i64 S, .int .i64 (M + 1), .slice none 0 0] 73)) := by
          unfold Hid; rw [hV]; have := blk_set hout.out 1 (.int .i64 (M + 1)); simpa using this
        have RV : Hid (V.heap[w.heap.size + 1]? = some (.cells #[.int .i64 0, .int .i64 0, .slice none 0 0] 73)) := by
          unfold Hid; rw [hV]; exact blk_set_other hres.out (by show w.heap.size + 1 ≠ w1.heap.size; omega) _
        have BV : Hid (Below w.heap.size w V) := by unfold Hid; rw [hV]; exact below_set hb.out _ (by show w.heap.size ≤ w1.heap.size; omega) _
        clear hV hout hres hb
        have o0 := blk_cell UV.out 0
        have o1 := blk_cell UV.out 1
        have o2 := blk_cell UV.out 2
        have r0 := blk_cell RV.out 0
        have r1 := blk_cell RV.out 1
        have r2 := blk_cell RV.out 2
        have g0 := blk_unfrozen RV.out 0
        have g1 := blk_unfrozen RV.out 1
        have g2 := blk_unfrozen RV.out 2
        simp only [List.getElem?_toArray, List.getElem?_cons_zero, List.getElem?_cons_succ] at o0 o1 o2 r0 r1 r2
        go_wp2
        obtain ⟨Z, hZ⟩ : ∃ Z : World, Z = ((V.setCell ⟨w.heap.size + 1, 0, none⟩ (.int .i64 S)).setCell ⟨w.heap.size + 1, 1, none⟩ (.int .i64 (M + 1))).setCell ⟨w.heap.size + 1, 2, none⟩ (.slice none 0 0) := ⟨_, rfl⟩
        rw [← hZ]
        obtain ⟨s0, s1, s2⟩ := ret_rec3 (show Z.heap[w.heap.size + 1]? = some (.cells #[.int .i64 S, .int .i64 (M + 1), .slice none 0 0] 73) by rw [hZ]; exact blk_store3 RV.out)
        have HZB : Below w.heap.size w Z := by rw [hZ]; exact below_set (below_set (below_set BV.out _ (by simp) _) _ (by simp) _) _ (by simp) _
        clear hZ
        refine bodyPost_ret (v := .agg #[.int .i64 S, .int .i64 (M + 1), .slice none 0 0]) (by simp [results, Tryz.results58, go_sem, s0, s1, s2]; try rfl) rfl ⟨by rw [hv.out], HZB⟩
end Go.Proofs.YthobdaeglhdhnaaGreatDoor.Syn
