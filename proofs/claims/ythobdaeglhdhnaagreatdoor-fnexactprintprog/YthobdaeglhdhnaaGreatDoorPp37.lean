import Derived.Test.YthobdaeglhdhnaaGreatDoorPp36
namespace Go.Proofs.YthobdaeglhdhnaaGreatDoor.Syn
open Go Go.RowKit Go.Proofs.YthobdaeglhdhnaaGreatDoor Go.Proofs.YthobdaeglhdhnaaGreatDoor.Mem
open Go.Proofs.YthobdaeglhdhnaaGreatDoor.Print (Own infoB byteCells_one)
set_option linter.unusedVariables false
set_option linter.unusedSimpArgs false
attribute [local go_sem ↓] Go.wp_at_zero Go.wp_at_succ

/-- The text of operand i, in parentheses or bare. -/
def pt (o : Po) (ts : Nat → Tr) (i : Nat) : List UInt8 := par (wrp o i (ts i).str) (ts i).txt
/-- The text that the specification makes of an Op and its operands. -/
def apT (o : Po) (ts : Nat → Tr) : List UInt8 :=
  if o.k = 7 ∨ o.k = 8 then preT o ++ pt o ts 0
  else if o.k = 9 then pt o ts 0 ++ [32] ++ twAt (8 + o.v.toNat) ++ [32] ++ pt o ts 1
  else if o.v = 2 then twAt 27 ++ [40] ++ pt o ts 0 ++ [44, 32] ++ pt o ts 1 ++ [44, 32] ++ pt o ts 2 ++ [41]
  else twAt (25 + o.v.toNat) ++ [40] ++ pt o ts 0 ++ [44, 32] ++ pt o ts 1 ++ [41]
theorem pt_len (o : Po) (ts : Nat → Tr) (i : Nat) (h : (ts i).txt.length ≤ 40000000) : (pt o ts i).length ≤ 40000002 := by
  unfold pt
  have := par_len (wrp o i (ts i).str) (ts i).txt
  omega
/-- A call's text up to operand k. -/
def cT (h : List UInt8) (o : Po) (ts : Nat → Tr) : Nat → List UInt8
  | 0 => h ++ pt o ts 0
  | k + 1 => cT h o ts k ++ [44, 32] ++ pt o ts (k + 1)
theorem cT_len (h : List UInt8) (o : Po) (ts : Nat → Tr) (k : Nat) (hl : ∀ i, i ≤ k → (ts i).txt.length ≤ 40000000) : (cT h o ts k).length ≤ h.length + 50000000 * (k + 1) := by
  induction k with
  | zero =>
    have := pt_len o ts 0 (hl 0 (Nat.le_refl _))
    simp only [cT, List.length_append]
    omega
  | succ k ih =>
    have := pt_len o ts (k + 1) (hl _ (Nat.le_refl _))
    have := ih (fun i hi => hl i (by omega))
    simp only [cT, List.length_append, List.length_cons, List.length_nil]
    omega
theorem cT_len3 (h : List UInt8) (o : Po) (ts : Nat → Tr) (m : Nat) (hh : h.length ≤ 4) (h1 : 1 ≤ m) (hm : m ≤ 3) (hl : ∀ i, i ≤ m - 1 → (ts i).txt.length ≤ 40000000) : (cT h o ts (m - 1)).length ≤ 800000000 := by
  have h3 : 50000000 * (m - 1 + 1) ≤ 50000000 * 3 := Nat.mul_le_mul_left _ (by omega)
  exact Nat.le_trans (cT_len h o ts (m - 1) hl) (Nat.le_trans (Nat.add_le_add hh h3) (by decide))
theorem ext_rt {w : World} {o : Po} {ts : Nat → Tr} {j : Nat} {ys : List Value} {x : Value} (hl : ys.length = j * 1) (h : ∀ i, i < j → ∃ u, ys[i]? = some u ∧ Rt w u (pt o ts i)) (hx : Rt w x (pt o ts j)) : ∀ i, i < j + 1 → ∃ u, (ys ++ [x])[i]? = some u ∧ Rt w u (pt o ts i) := by
  intro i hi
  by_cases e : i = j
  · subst e
    exact ⟨x, by rw [List.getElem?_append_right (by omega)]; simp [hl], hx⟩
  · obtain ⟨u, h1, h2⟩ := h i (by omega)
    exact ⟨u, by rw [List.getElem?_append_left (by omega)]; exact h1, h2⟩
/-- A text stays where a row of slices grows. -/
theorem Rt.grow {w w' : World} {v y : Value} {bs : List UInt8} {B n : Nat} {xs : List Value} (h : Rt w v bs) (ho : w.ownsRow B 26 1 y n xs) (hg : w.grownBy w' y.ownBlock) : Rt w' v bs := by
  rcases ho.2 with ⟨e, -⟩ | ⟨g2, cap, cur, e, -, hb, -⟩
  · subst e
    obtain ⟨g', off, c, rfl, ⟨C', fr', hg'⟩, hc⟩ := h
    have e := hg.block g' (blk_lt hg') (by simp [Value.ownBlock])
    exact ⟨g', off, c, rfl, ⟨C', fr', by rw [e]; exact hg'⟩, fun j x hx => by rw [World.cell?_of_block (a := ⟨g', off + j, none⟩) e]; exact hc j x hx⟩
  · subst e
    exact h.other hb (by decide) fun k hk hne => hg.block k hk (by intro e; exact hne (Option.some.inj e))
set_option maxHeartbeats 3200000 in
set_option maxRecDepth 100000 in
theorem applyT (o : Po) (ts : Nat → Tr) (vs : Nat → Value) (N : Nat) (a : Option Addr) (c : Nat) (w : World) (hs : SliceAt w a N 3 (fun i => [.int .i64 (ts i).str, .int .i64 (ts i).nst, vs i])) (hT : ∀ i, i < N → Rt w (vs i) (ts i).txt) (hN : N ≤ 3) (n0 : 0 < N) (hsz : ∀ i, i < N → (ts i).sz ≤ 1000000) (htl : ∀ i, i < N → (ts i).txt.length ≤ 40000000) (hkd : ((o.k = 7 ∨ o.k = 8) ∧ N = 1) ∨ (o.k = 9 ∧ N = 2 ∧ 0 ≤ o.v ∧ o.v ≤ 7) ∨ (o.k = 10 ∧ ((o.v = 2 ∧ N = 3) ∨ ((o.v = 0 ∨ o.v = 1) ∧ N = 2)))) :
    Calls Tryz.prog 58 #[.agg #[.int .i64 o.k, .int .i64 o.v, .string ⟨o.n.toArray⟩], .slice a N c, .bool true] w fun e w' => ∃ v, e = .returned (.agg #[.int .i64 (pstr o), .int .i64 (apN o ts N), v]) ∧ Rt w' v (apT o ts) ∧ Below w.heap.size w w' := by
  obtain ⟨i0, hi, hz0, hz1, hz2⟩ := info_parts infoU8
  obtain ⟨i1, hi1, hy0, hy1, hy2⟩ := info_parts infoSl
  have H := Hid.mk hs
  have HZ := Hid.mk hsz
  have HT := Hid.mk hT
  have HTL := Hid.mk htl
  have HKD := Hid.mk hkd
  clear hs hsz hT htl hkd
  obtain ⟨S, hS⟩ : ∃ S, S = pstr o := ⟨_, rfl⟩
  have SC : Hid (∀ W : World, Calls Tryz.prog 74 #[.agg #[.int .i64 o.k, .int .i64 o.v, .string ⟨o.n.toArray⟩]] W fun e w' => e = .returned (.int .i64 S) ∧ Below W.heap.size W w') := fun W => by rw [hS]; exact strengthS o W
  rw [← hS]
  clear hS
  go_enter Tryz.func58, Tryz.ntmps58
  go_wp2_with fail
  refine (SC.out _).mono ?_
  rintro e w1 ⟨rfl, hb1⟩
  have HB1 := Hid.mk (below_then (w := w) (by go_grown) hb1)
  have P1 := Hid.mk (blk_below (blk_alloc (blk_new w _) _) hb1)
  have R1 := Hid.mk (blk_below (blk_new1 w _ _) hb1)
  clear hb1 SC
  have z1 := blk_lt R1.out
  have hq : ((N : Int) == 0) = false := by simp; omega
  go_wp2_with fail
  obtain ⟨z, hz⟩ : ∃ z, z = w1.heap.size := ⟨_, rfl⟩
  have h2 : Hid (∃ W, W = (w1.alloc (.cells #[.int .i64 S, .int .i64 0, .slice none 0 0] 73)).alloc (.cells #[] 26)) := ⟨_, rfl⟩
  obtain ⟨W, hW⟩ := h2.out
  have W1 : Hid (W.heap[w1.heap.size]? = some (.cells #[.int .i64 S, .int .i64 0, .slice none 0 0] 73)) := by unfold Hid; rw [hW]; exact blk_alloc (blk_new w1 _) _
  have W2 : Hid (W.ownsRow w.heap.size 26 1 (.slice (some ⟨w1.heap.size + 1, 0, none⟩) 0 0) 0 []) := by
    unfold Hid; rw [hW]
    have := World.ownsRow_made (w1.alloc (.cells #[.int .i64 S, .int .i64 0, .slice none 0 0] 73)) (base := w.heap.size) (e := 26) (size := 1) #[] 0 (by have := HB1.out.size; simp; omega) (by unfold maxLen; omega) (by simp)
    simpa using this
  have W3 := Hid.mk (show W.heap[w.heap.size]? = some (.cells #[.int .i64 o.k, .int .i64 o.v, .string ⟨o.n.toArray⟩] 91) by rw [hW]; exact blk_alloc (blk_alloc P1.out _) _)
  have W4 := Hid.mk (show W.heap[w.heap.size + 1]? = some (.cells #[.int .i64 0, .int .i64 0, .slice none 0 0] 73) by rw [hW]; exact blk_alloc (blk_alloc R1.out _) _)
  have W5 : Hid (Below w.heap.size w W) := by unfold Hid; rw [hW]; exact below_alloc' (below_alloc' HB1.out _) _
  rw [← hW]
  clear hW h2 hz HB1 P1 R1
  obtain ⟨z, hz⟩ : ∃ z, z = w1.heap.size := ⟨_, rfl⟩
  have hzw : w.heap.size + 1 < z := by rw [hz]; exact z1
  clear z1
  go_loopw [8, 9] (fun tv i wr => ∃ (j : Nat) (ys : List Value), j ≤ N ∧ i = .int .i64 (j : Int) ∧ Hid (∀ i, i < j → ∃ u, ys[i]? = some u ∧ Rt wr u (pt o ts i)) ∧ Hid (wr.ownsRow w.heap.size 26 1 tv j ys) ∧ Hid (wr.heap[w1.heap.size]? = some (.cells #[.int .i64 S, .int .i64 (mxw o ts j), .slice none 0 0] 73)) ∧ Hid (wr.heap[w.heap.size]? = some (.cells #[.int .i64 o.k, .int .i64 o.v, .string ⟨o.n.toArray⟩] 91)) ∧ Hid (wr.heap[w.heap.size + 1]? = some (.cells #[.int .i64 0, .int .i64 0, .slice none 0 0] 73)) ∧ Hid (Below w.heap.size w wr)) (fun _ i _ => N - (intOf i).toNat)
  case atStart => exact ⟨0, [], Nat.zero_le _, rfl, fun i hi => by omega, W2, W1, W3, W4, W5⟩
  case round =>
    clear W1 W2 W3 W4 W5
    obtain ⟨j, ys, hj, rfl, hys, ho, hout, hop, hres, hb⟩ := hrel
    by_cases hlt : j < N
    · rcases H.out with h0 | ⟨b, off, rfl, h0⟩
      · omega
      have hcl := rangeAt_below (h0 j hlt) hb.out
      have e0 : wr.cell? ⟨b, off + j * 3, none⟩ = some (.int .i64 (ts j).str) := hcl 0 _ rfl
      have e1 : wr.cell? ⟨b, off + j * 3 + 1, none⟩ = some (.int .i64 (ts j).nst) := hcl 1 _ rfl
      have e2 : wr.cell? ⟨b, off + j * 3 + 2, none⟩ = some (vs j) := hcl 2 _ rfl
      have hRj := (HT.out j hlt).below hb.out
      obtain ⟨xg, xo, xc0, hvj, hxg, hxc⟩ := hRj
      have HRJ : Hid (Rt wr (vs j) (ts j).txt) := (HT.out j hlt).below hb.out
      obtain ⟨TX, hTX⟩ : ∃ TX, TX = (ts j).txt := ⟨_, rfl⟩
      have hTL := HTL.out j hlt
      rw [hvj] at e2 HRJ
      rw [← hTX] at e2 HRJ hxc hTL
      have HPT : Hid (pt o ts j = par (wrp o j (ts j).str) TX) := by unfold Hid pt; rw [hTX]
      clear hvj hTX
      clear hcl h0
      have k0 : (0 : Int) ≤ (j : Int) := by omega
      have k1 : (j : Int) < (N : Int) := by omega
      have p0 := blk_cell hop.out 0
      have p1 := blk_cell hop.out 1
      have p2 := blk_cell hop.out 2
      simp only [List.getElem?_toArray, List.getElem?_cons_zero, List.getElem?_cons_succ] at p0 p1 p2
      have hsz := HZ.out j hlt
      have hnb := nst_bd (ts j)
      have hmb := mxw_bd o ts j (fun i hi => HZ.out i (by omega))
      obtain ⟨n, hn⟩ : ∃ n, n = (ts j).nst := ⟨_, rfl⟩
      obtain ⟨u, hu⟩ : ∃ u, u = (ts j).str := ⟨_, rfl⟩
      obtain ⟨M, hM⟩ : ∃ M, M = mxw o ts j := ⟨_, rfl⟩
      have hwn : Hid (wn o ts j = if wrp o j u = true then n + 1 else n) := by unfold Hid wn; rw [hu, hn]
      rw [← hu] at HPT
      have hmx : Hid (mxw o ts (j + 1) = if M < wn o ts j then wn o ts j else M) := by unfold Hid; rw [hM]; rfl
      rw [← hn] at e1 hnb
      rw [← hu] at e0
      rw [← hM] at hmb hout
      clear hn hu hM
      obtain ⟨nb0, nb1⟩ : 0 ≤ n ∧ n ≤ 2000000 := by omega
      obtain ⟨mb0, mb1⟩ := hmb
      clear hnb hsz
      go_wp2_with fail
      go_region_held3 (fun w' => w'.cell? ⟨w.heap.size, 0, none⟩ = some (.int .i64 o.k) ∧ w'.cell? ⟨w.heap.size, 1, none⟩ = some (.int .i64 o.v) ∧ w'.cell? ⟨w.heap.size, 2, none⟩ = some (.string ⟨o.n.toArray⟩) ∧ w'.cell? ⟨b, off + j * 3, none⟩ = some (.int .i64 u))
        (first | go_keep | ((repeat' constructor) <;> exact cell_keep hb2 (by first | assumption | (simp [*]; done))))
        ((go_at_call 76; refine (wrappedS o j u wr.drew (by omega)).mono ?_; rintro e w2 ⟨rfl, hb2⟩))
      have hbd := Hid.mk (below_then (Below.refl wr.heap.size wr).drew hb2)
      have B2 := Hid.mk (below_then hb.out hbd.out)
      have O2 := Hid.mk (row_kept ho.out hbd.out)
      have U2 := Hid.mk (blk_below hout.out hbd.out)
      have P2 := Hid.mk (blk_below hop.out hbd.out)
      have R2 := Hid.mk (blk_below hres.out hbd.out)
      have Y2 : Hid (∀ i, i < j → ∃ u, ys[i]? = some u ∧ Rt w2 u (pt o ts i)) := fun i hi => by obtain ⟨u, h1, h2⟩ := hys.out i hi; exact ⟨u, h1, h2.below hbd.out⟩
      have X2 := Hid.mk (HRJ.out.below hbd.out)
      clear hb2 hbd hb ho hout hop hres e0 e1 e2 p0 p1 p2 hys HRJ hxg hxc
      obtain ⟨ta, tc, htv, htc⟩ := own_shape O2.out
      rw [htv] at O2
      rw [htv]
      clear htv
      have hwz := blk_lt P2.out
      go_upto_if 50 with fail
      go_cut [10, 11] (fun nv xv wx => ∃ (xa : Option Addr) (xn xc : Nat), nv = .int .i64 (wn o ts j) ∧ xv = .slice xa xn xc ∧ Hid (Below w2.heap.size w2 wx) ∧ Hid (Rt wx (.slice xa xn xc) (pt o ts j)))
      case first =>
        cases hw : wrp o j u with
        | false =>
          have hv : Hid (wn o ts j = n) := by unfold Hid; rw [hwn.out, hw]; rfl
          go_wp2_with fail
          go_meet
          exact ⟨_, _, _, by rw [hv.out], rfl, Below.refl _ _, by have z := X2.out; rw [HPT.out, hw]; exact z⟩
        | true =>
          have hv : Hid (wn o ts j = n + 1) := by unfold Hid; rw [hwn.out, hw]; rfl
          have cv := run_conv (P := Tryz.prog) (w2.alloc (.cells #[.int .u8 40] 5)) 26 5 w2.heap.size #[.int .u8 40] (0, 0) 1 1 Tryz.underlying26 Tryz.underlying5 (blk_new _ _)
          obtain ⟨fr, hfr⟩ := blk_freeze (blk_new w2 (.cells #[.int .u8 40] 5)) ⟨w2.heap.size, 1, none⟩ 1
          have hbf : Hid (Below w2.heap.size w2 ((w2.alloc (.cells #[.int .u8 40] 5)).freeze ⟨w2.heap.size, 1, none⟩ 1)) := below_freeze ((Below.refl _ _).alloc (Nat.le_refl _) _) _ _ _ (Nat.le_refl _)
          have X3 := Hid.mk (X2.out.below hbf.out)
          obtain ⟨yg, yo, yc, hyv, hyg, hyc⟩ := X3.out
          injection hyv with hyv1 hyv2 hyv3
          have CS := Hid.mk (catS (some ⟨w2.heap.size, 0, none⟩) (some ⟨xg, xo, none⟩) 1 TX.length 1 xc0 [.int .u8 40] (Lib.byteCells TX) ((w2.alloc (.cells #[.int .u8 40] 5)).freeze ⟨w2.heap.size, 1, none⟩ 1) rfl (by rw [Lib.byteCells_length]) (Or.inr ⟨w2.heap.size, 0, rfl, fun j u hu => by rw [Nat.zero_add, blk_cell hfr j]; simpa using hu⟩) (Or.inr ⟨xg, xo, rfl, by injection hyv1 with hyv1; injection hyv1 with q1 q2; subst q1 q2; exact hyc⟩) (by intro u hu; simp only [List.mem_singleton] at hu; rw [hu]; rfl) (byteCells_one _) (by omega) (by omega) (by intro h; cases h) (by intro h; cases h))
          clear hyv1 hyv2 hyv3 hyg hyc
          clear hfr
          go_wp2_with fail
          refine CS.out.mono ?_
          rintro e w3 ⟨v3, rfl, ho3, hb3⟩
          obtain ⟨va, vc, rfl, hvc⟩ := own_shape ho3
          have O3 := Hid.mk ho3
          have B3 := Hid.mk (below_then hbf.out hb3)
          have hz3 := hb3.size
          rw [size_freeze, World.size_alloc] at hz3
          have O3' : Hid (w3.ownsRow w2.heap.size 5 1 (.slice va (1 + TX.length) vc) (1 + TX.length) ([.int .u8 40] ++ Lib.byteCells TX)) := by
            refine ⟨ho3.1, ?_⟩
            rcases ho3.2 with h | ⟨g, cap, cur, q1, q2, q3⟩
            · exact Or.inl h
            · exact Or.inr ⟨g, cap, cur, q1, by rw [size_freeze, World.size_alloc] at q2; omega, q3⟩
          clear ho3 hb3 cv CS hbf O3
          go_wp2_with (at_builtin; refine wpList_append_own _ rfl _ _ 26 rfl w2.heap.size 5 i0 (.int .u8 0) 1 1 Tryz.underlying26 hi hz0 hz1 hz2 rfl (by decide) _ _ _ rfl (O3'.out.alloc _) ⟨w3.heap.size, 0, none⟩ 1 1 [.int .u8 41] rfl rfl (news_one w3 _ 5) (by intro u hu; simp only [List.mem_singleton] at hu; rw [hu]; rfl) (by unfold maxLen; omega) (by omega) (by simp; omega) ?_)
          intro v4 w4 hown4 hgrow4 _
          have RX4 : Hid (Rt w4 v4 (pt o ts j)) := by
            have z : Own w2.heap.size w4 v4 ([40] ++ TX ++ [41]) := by
              unfold Own
              rw [show ([40] ++ TX ++ [41] : List UInt8).length = 1 + TX.length + 1 by simp only [List.length_append, List.length_cons, List.length_nil], Lib.byteCells_append, Lib.byteCells_append]
              exact hown4
            unfold Hid
            rw [HPT.out, hw]
            exact (show Rt w4 v4 ([40] ++ TX ++ [41]) from own_rt z (by simp))
          obtain ⟨xa, xc, rfl, -⟩ := own_shape hown4
          have B4 : Hid (Below w2.heap.size w2 w4) := (B3.out.alloc B3.out.size _).grown hgrow4 (by simp; omega) (fun k hk => (O3'.out.lt k hk).1)
          clear hown4 hgrow4 O3' B3
          refine Hid.out ?_
          refine Lib.hid ?_
          go_wp2_with fail
          go_meet
          exact ⟨xa, _, xc, by rw [hv.out], rfl, B4.out, RX4.out⟩
      case rest =>
        obtain ⟨xa, xn, xc, rfl, rfl, hbx, hRX⟩ := hcut
        have hq0 := wn_bd o ts j (HZ.out j hlt)
        obtain ⟨q, hq⟩ : ∃ q, q = wn o ts j := ⟨_, rfl⟩
        rw [← hq] at hmx hq0
        rw [← hq]
        obtain ⟨q0, q1⟩ := hq0
        clear hq hwn
        have B3 := Hid.mk (below_then B2.out hbx.out)
        have O3 := Hid.mk (row_kept O2.out hbx.out)
        have U3 := Hid.mk (blk_below U2.out hbx.out)
        have P3 := Hid.mk (blk_below P2.out hbx.out)
        have R3 := Hid.mk (blk_below R2.out hbx.out)
        have Y3 : Hid (∀ i, i < j → ∃ u, ys[i]? = some u ∧ Rt wc u (pt o ts i)) := fun i hi => by obtain ⟨u, h1, h2⟩ := Y2.out i hi; exact ⟨u, h1, h2.below hbx.out⟩
        clear hbx B2 O2 U2 P2 R2 hwz Y2 X2 HPT
        have x1 := blk_cell U3.out 1
        have y1 := blk_unfrozen U3.out 1
        simp only [List.getElem?_toArray, List.getElem?_cons_zero, List.getElem?_cons_succ] at x1
        by_cases hm : M < q
        · have hv : Hid (mxw o ts (j + 1) = q) := by unfold Hid; rw [hmx.out, if_pos hm]
          go_upto_region 17 with fail
          clear x1 y1
          obtain ⟨Z, hZ⟩ : ∃ Z : World, Z = wc.setCell ⟨w1.heap.size, 1, none⟩ (.int .i64 q) := ⟨_, rfl⟩
          rw [← hZ]
          have UZ : Hid (Z.heap[w1.heap.size]? = some (.cells #[.int .i64 S, .int .i64 (mxw o ts (j + 1)), .slice none 0 0] 73)) := by
            unfold Hid; rw [hZ, hv.out]; have := blk_set U3.out 1 (.int .i64 q); simpa using this
          have PZ : Hid (Z.heap[w.heap.size]? = some (.cells #[.int .i64 o.k, .int .i64 o.v, .string ⟨o.n.toArray⟩] 91)) := by
            unfold Hid; rw [hZ]; exact blk_set_other P3.out (by show w.heap.size ≠ w1.heap.size; omega) _
          have RZ : Hid (Z.heap[w.heap.size + 1]? = some (.cells #[.int .i64 0, .int .i64 0, .slice none 0 0] 73)) := by
            unfold Hid; rw [hZ]; exact blk_set_other R3.out (by show w.heap.size + 1 ≠ w1.heap.size; omega) _
          have OZ : Hid (Z.ownsRow w.heap.size 26 1 (.slice ta j tc) j ys) := by
            unfold Hid; rw [hZ]; exact row_set' O3.out U3.out (by decide)
          have YZ : Hid (∀ i, i < j + 1 → ∃ u, (ys ++ [.slice xa xn xc])[i]? = some u ∧ Rt Z u (pt o ts i)) := by
            unfold Hid; rw [hZ]; exact ext_rt O3.out.1 (fun i hi => by obtain ⟨u, h1, h2⟩ := Y3.out i hi; exact ⟨u, h1, h2.set U3.out (by decide)⟩) (hRX.out.set U3.out (by decide))
          have BZ : Hid (Below w.heap.size w Z) := by unfold Hid; rw [hZ]; exact below_set B3.out _ (by show w.heap.size ≤ w1.heap.size; omega) _
          clear hZ U3 P3 R3 O3 B3 hv hmx
          go_wp2_with (at_builtin; refine wpList_append_own _ rfl _ _ 55 rfl w.heap.size 26 i1 (.slice none 0 0) 1 24 Tryz.underlying55 hi1 hy0 hy1 hy2 rfl (by decide) _ _ _ rfl (OZ.out.alloc _) ⟨Z.heap.size, 0, none⟩ 1 1 [.slice xa xn xc] rfl rfl (news_one Z _ 26) (by intro u hu; simp only [List.mem_singleton] at hu; rw [hu]; rfl) (by unfold maxLen; omega) (by omega) (by have := BZ.out.size; simp; omega) ?_)
          intro v4 w4 hown4 hgrow4 _
          have U4 := Hid.mk (grown_oth hgrow4 (OZ.out.alloc _) (blk_alloc UZ.out _) (by decide))
          have P4 := Hid.mk (grown_oth hgrow4 (OZ.out.alloc _) (blk_alloc PZ.out _) (by decide))
          have R4 := Hid.mk (grown_oth hgrow4 (OZ.out.alloc _) (blk_alloc RZ.out _) (by decide))
          have B4 : Hid (Below w.heap.size w w4) := (BZ.out.alloc BZ.out.size _).grown hgrow4 (by have := BZ.out.size; simp; omega) (fun k hk => (OZ.out.lt k hk).1)
          have Y4 : Hid (∀ i, i < j + 1 → ∃ u, (ys ++ [.slice xa xn xc])[i]? = some u ∧ Rt w4 u (pt o ts i)) := fun i hi => by obtain ⟨u, h1, h2⟩ := YZ.out i hi; exact ⟨u, h1, Rt.grow (h2.below ((Below.refl _ _).alloc (Nat.le_refl _) _)) (OZ.out.alloc _) hgrow4⟩
          have O4 := Hid.mk hown4
          clear hown4 hgrow4 OZ UZ PZ RZ BZ
          refine Hid.out ?_
          refine Lib.hid ?_
          go_wp2
          exact ⟨⟨j + 1, _, by omega, by go_num, Y4, O4, U4, P4, R4, B4⟩, by simp [intOf]; omega⟩
        · have hv : Hid (mxw o ts (j + 1) = M) := by unfold Hid; rw [hmx.out, if_neg hm]
          have hmd : decide (M < q) = false := by simpa using hm
          go_upto_region 17 with fail
          clear x1 y1
          obtain ⟨Z, hZ⟩ : ∃ Z : World, Z = wc := ⟨_, rfl⟩
          rw [← hZ]
          have UZ : Hid (Z.heap[w1.heap.size]? = some (.cells #[.int .i64 S, .int .i64 (mxw o ts (j + 1)), .slice none 0 0] 73)) := by
            unfold Hid; rw [hZ, hv.out]; exact U3.out
          have PZ : Hid (Z.heap[w.heap.size]? = some (.cells #[.int .i64 o.k, .int .i64 o.v, .string ⟨o.n.toArray⟩] 91)) := by unfold Hid; rw [hZ]; exact P3.out
          have RZ : Hid (Z.heap[w.heap.size + 1]? = some (.cells #[.int .i64 0, .int .i64 0, .slice none 0 0] 73)) := by unfold Hid; rw [hZ]; exact R3.out
          have OZ : Hid (Z.ownsRow w.heap.size 26 1 (.slice ta j tc) j ys) := by unfold Hid; rw [hZ]; exact O3.out
          have YZ : Hid (∀ i, i < j + 1 → ∃ u, (ys ++ [.slice xa xn xc])[i]? = some u ∧ Rt Z u (pt o ts i)) := by
            unfold Hid; rw [hZ]; exact ext_rt O3.out.1 Y3.out hRX.out
          have BZ : Hid (Below w.heap.size w Z) := by unfold Hid; rw [hZ]; exact B3.out
          clear hZ U3 P3 R3 O3 B3 hv hmx
          go_wp2_with (at_builtin; refine wpList_append_own _ rfl _ _ 55 rfl w.heap.size 26 i1 (.slice none 0 0) 1 24 Tryz.underlying55 hi1 hy0 hy1 hy2 rfl (by decide) _ _ _ rfl (OZ.out.alloc _) ⟨Z.heap.size, 0, none⟩ 1 1 [.slice xa xn xc] rfl rfl (news_one Z _ 26) (by intro u hu; simp only [List.mem_singleton] at hu; rw [hu]; rfl) (by unfold maxLen; omega) (by omega) (by have := BZ.out.size; simp; omega) ?_)
          intro v4 w4 hown4 hgrow4 _
          have U4 := Hid.mk (grown_oth hgrow4 (OZ.out.alloc _) (blk_alloc UZ.out _) (by decide))
          have P4 := Hid.mk (grown_oth hgrow4 (OZ.out.alloc _) (blk_alloc PZ.out _) (by decide))
          have R4 := Hid.mk (grown_oth hgrow4 (OZ.out.alloc _) (blk_alloc RZ.out _) (by decide))
          have B4 : Hid (Below w.heap.size w w4) := (BZ.out.alloc BZ.out.size _).grown hgrow4 (by have := BZ.out.size; simp; omega) (fun k hk => (OZ.out.lt k hk).1)
          have Y4 : Hid (∀ i, i < j + 1 → ∃ u, (ys ++ [.slice xa xn xc])[i]? = some u ∧ Rt w4 u (pt o ts i)) := fun i hi => by obtain ⟨u, h1, h2⟩ := YZ.out i hi; exact ⟨u, h1, Rt.grow (h2.below ((Below.refl _ _).alloc (Nat.le_refl _) _)) (OZ.out.alloc _) hgrow4⟩
          have O4 := Hid.mk hown4
          clear hown4 hgrow4 OZ UZ PZ RZ BZ
          refine Hid.out ?_
          refine Lib.hid ?_
          go_wp2
          exact ⟨⟨j + 1, _, by omega, by go_num, Y4, O4, U4, P4, R4, B4⟩, by simp [intOf]; omega⟩
    · obtain rfl : j = N := by omega
      have k1 : decide ((j : Int) < (j : Int)) = false := by simp
      have hmb := mxw_bd o ts j HZ.out
      obtain ⟨M, hM⟩ : ∃ M, M = mxw o ts j := ⟨_, rfl⟩
      have hap : Hid (apN o ts j = if o.k = 9 then M else M + 1) := by unfold Hid apN; rw [if_neg (by omega), hM]
      rw [← hM] at hout hmb
      clear hM
      obtain ⟨mb0, mb1⟩ := hmb
      obtain ⟨ta, tc, htv, htc⟩ := own_shape ho.out
      rw [htv] at ho ⊢
      clear htv
      obtain ⟨g, hg⟩ := own_some1 ho.out n0
      rw [hg] at ho ⊢
      clear hg
      obtain ⟨A, hA⟩ : ∃ A, A = apN o ts j := ⟨_, rfl⟩
      have HA := Hid.mk hA
      clear hA
      have p0 := blk_cell hop.out 0
      have o1 := blk_cell hout.out 1
      have f1 := blk_unfrozen hout.out 1
      simp only [List.getElem?_toArray, List.getElem?_cons_zero, List.getElem?_cons_succ] at p0 o1
      go_upto_if 71 with fail
      go_cut [] (fun wx => Hid (wx.heap[w1.heap.size]? = some (.cells #[.int .i64 S, .int .i64 A, .slice none 0 0] 73)) ∧ Hid (wx.heap[w.heap.size]? = some (.cells #[.int .i64 o.k, .int .i64 o.v, .string ⟨o.n.toArray⟩] 91)) ∧ Hid (wx.heap[w.heap.size + 1]? = some (.cells #[.int .i64 0, .int .i64 0, .slice none 0 0] 73)) ∧ Hid (wx.ownsRow w.heap.size 26 1 (.slice (some ⟨g, 0, none⟩) j tc) j ys) ∧ Hid (∀ i, i < j → ∃ u, ys[i]? = some u ∧ Rt wx u (pt o ts i)) ∧ Hid (Below w.heap.size w wx))
      case first =>
        by_cases h9 : o.k = 9
        · have q9 : (o.k == 9) = true := by simpa using h9
          have q9' : (o.k != 9) = false := by simpa using h9
          have HU : Hid (wr.heap[w1.heap.size]? = some (.cells #[.int .i64 S, .int .i64 A, .slice none 0 0] 73)) := by unfold Hid; rw [HA.out, hap.out, if_pos h9]; exact hout.out
          clear h9
          go_wp2_with fail
          go_meet
          exact ⟨HU, hop, hres, ho, hys, hb⟩
        · have q9 : (o.k == 9) = false := by simpa using h9
          have q9' : (o.k != 9) = true := by simpa using h9
          have hv : Hid (A = M + 1) := by unfold Hid; rw [HA.out, hap.out, if_neg h9]
          clear h9
          go_wp2_with fail
          go_meet
          refine ⟨?_, blk_set_other hop.out (by show w.heap.size ≠ w1.heap.size; omega) _, blk_set_other hres.out (by show w.heap.size + 1 ≠ w1.heap.size; omega) _, row_set' ho.out hout.out (by decide), fun i hi => ?_, below_set hb.out _ (by show w.heap.size ≤ w1.heap.size; omega) _⟩
          · unfold Hid; rw [hv.out]; have := blk_set hout.out 1 (.int .i64 (M + 1)); simpa using this
          · obtain ⟨u, h1, h2⟩ := hys.out i hi
            exact ⟨u, h1, h2.set hout.out (by decide)⟩
      case rest =>
        obtain ⟨UV, PV, RV, OV, YV, BV⟩ := hcut
        clear p0 o1 f1 hop hout hres ho hys hb hap
        have p0 := blk_cell PV.out 0
        simp only [List.getElem?_toArray, List.getElem?_cons_zero, List.getElem?_cons_succ] at p0
        go_upto_if 81 with fail
        go_cut [] (fun wx => ∃ (xg xo xn xc : Nat), Hid (wx.heap[w1.heap.size]? = some (.cells #[.int .i64 S, .int .i64 A, .slice (some ⟨xg, xo, none⟩) xn xc] 73)) ∧ Hid (wx.heap[w.heap.size + 1]? = some (.cells #[.int .i64 0, .int .i64 0, .slice none 0 0] 73)) ∧ Hid (Rt wx (.slice (some ⟨xg, xo, none⟩) xn xc) (apT o ts)) ∧ Hid (Below w.heap.size w wx))
        case first =>
          have p1 := blk_cell PV.out 1
          simp only [List.getElem?_toArray, List.getElem?_cons_zero, List.getElem?_cons_succ] at p1
          have CP1 := Hid.mk p1
          obtain ⟨u0, hu0, R0⟩ := YV.out 0 (by omega)
          have t0 := own_cells1 OV.out 0 u0 hu0
          have HP0 := Hid.mk (pt_len o ts 0 (HTL.out 0 (by omega)))
          obtain ⟨T0, hT0⟩ : ∃ T0, T0 = pt o ts 0 := ⟨_, rfl⟩
          rw [← hT0] at R0 HP0
          have HT0 := Hid.mk hT0
          clear hT0
          have HU0 := Hid.mk hu0
          clear hu0
          have HR0 := Hid.mk R0
          obtain ⟨g0, o0, c0, hv0, -, -⟩ := R0
          rw [hv0] at t0 HR0 HU0
          clear hv0
          have CT0 := Hid.mk t0
          have hl0 := HP0.out
          rcases HKD.out with ⟨h78, hN1⟩ | ⟨e9, hN2, v0, v7⟩ | ⟨e10, hvN⟩
          · rcases h78 with e7 | e8
            · -- kind 7
              have q7 : (o.k == 7) = true := by simp [e7]
              have TE : Hid (apT o ts = [45] ++ T0) := by unfold Hid apT preT; rw [if_pos (Or.inl e7), if_pos e7, ← HT0.out]
              have b0 : (0 : Int) < (j : Int) := by omega
              clear e7 hN1
              have cv := run_conv (P := Tryz.prog) (wc.alloc (.cells #[.int .u8 45] 5)) 26 5 wc.heap.size #[.int .u8 45] (0, 0) 1 1 Tryz.underlying26 Tryz.underlying5 (blk_new _ _)
              obtain ⟨fr, hfr⟩ := blk_freeze (blk_new wc (.cells #[.int .u8 45] 5)) ⟨wc.heap.size, 1, none⟩ 1
              have hbf : Hid (Below wc.heap.size wc ((wc.alloc (.cells #[.int .u8 45] 5)).freeze ⟨wc.heap.size, 1, none⟩ 1)) := below_freeze ((Below.refl _ _).alloc (Nat.le_refl _) _) _ _ _ (Nat.le_refl _)
              have tf := cell_keep hbf.out t0
              have CS := Hid.mk (catR [45] T0 _ _ _ (lit_rt [45] 1 _ fr rfl hfr) (HR0.out.below hbf.out) (by simp) (by omega))
              clear hfr
              go_wp2_with fail
              clear p0 p1 tf t0 cv
              refine CS.out.mono ?_
              rintro e w3 ⟨v3, rfl, ho3, hb3⟩
              have U3 := Hid.mk (blk_below (blk_below UV.out hbf.out) hb3)
              have R3 := Hid.mk (blk_below (blk_below RV.out hbf.out) hb3)
              have B3 := Hid.mk (below_then BV.out (below_then hbf.out hb3))
              have T3 := Hid.mk (own_rt ho3 (by simp))
              obtain ⟨xg, xo, xc, hx, -, -⟩ := T3.out
              rw [hx] at T3 ⊢
              clear hx ho3 hb3 hbf CS
              have f2 := blk_unfrozen U3.out 2
              have f0 := blk_cell U3.out 2
              simp only [List.getElem?_toArray, List.getElem?_cons_zero, List.getElem?_cons_succ] at f0
              go_wp2_with fail
              go_meet
              obtain ⟨a1, a2, a3, a4⟩ := putT (by rw [← hz]; exact hzw) U3.out R3.out T3.out B3.out
              exact ⟨xg, xo, _, xc, a1, a2, by unfold Hid; rw [TE.out]; exact a3, a4⟩
            · -- kind 8
              have q7 : (o.k == 7) = false := by simp [e8]
              have q8 : (o.k == 8) = true := by simp [e8]
              have TE : Hid (apT o ts = [110, 111, 116, 32] ++ T0) := by unfold Hid apT preT; rw [if_pos (Or.inr e8), if_neg (by omega), ← HT0.out]
              have b0 : (0 : Int) < (j : Int) := by omega
              clear e8 hN1
              have cv := run_conv (P := Tryz.prog) (wc.alloc (.cells #[.int .u8 110, .int .u8 111, .int .u8 116, .int .u8 32] 5)) 26 5 wc.heap.size #[.int .u8 110, .int .u8 111, .int .u8 116, .int .u8 32] (0, 0) 4 4 Tryz.underlying26 Tryz.underlying5 (blk_new _ _)
              obtain ⟨fr, hfr⟩ := blk_freeze (blk_new wc (.cells #[.int .u8 110, .int .u8 111, .int .u8 116, .int .u8 32] 5)) ⟨wc.heap.size, 4, none⟩ 1
              have hbf : Hid (Below wc.heap.size wc ((wc.alloc (.cells #[.int .u8 110, .int .u8 111, .int .u8 116, .int .u8 32] 5)).freeze ⟨wc.heap.size, 4, none⟩ 1)) := below_freeze ((Below.refl _ _).alloc (Nat.le_refl _) _) _ _ _ (Nat.le_refl _)
              have tf := cell_keep hbf.out t0
              have CS := Hid.mk (catR [110, 111, 116, 32] T0 _ _ _ (lit_rt [110, 111, 116, 32] 4 _ fr rfl hfr) (HR0.out.below hbf.out) (by simp) (by omega))
              clear hfr
              go_wp2_with fail
              clear p0 p1 tf t0 cv
              refine CS.out.mono ?_
              rintro e w3 ⟨v3, rfl, ho3, hb3⟩
              have U3 := Hid.mk (blk_below (blk_below UV.out hbf.out) hb3)
              have R3 := Hid.mk (blk_below (blk_below RV.out hbf.out) hb3)
              have B3 := Hid.mk (below_then BV.out (below_then hbf.out hb3))
              have T3 := Hid.mk (own_rt ho3 (by simp))
              obtain ⟨xg, xo, xc, hx, -, -⟩ := T3.out
              rw [hx] at T3 ⊢
              clear hx ho3 hb3 hbf CS
              have f2 := blk_unfrozen U3.out 2
              have f0 := blk_cell U3.out 2
              simp only [List.getElem?_toArray, List.getElem?_cons_zero, List.getElem?_cons_succ] at f0
              go_wp2_with fail
              go_meet
              obtain ⟨a1, a2, a3, a4⟩ := putT (by rw [← hz]; exact hzw) U3.out R3.out T3.out B3.out
              exact ⟨xg, xo, _, xc, a1, a2, by unfold Hid; rw [TE.out]; exact a3, a4⟩
          · have TE : Hid (apT o ts = T0 ++ [32] ++ twAt (8 + o.v.toNat) ++ [32] ++ pt o ts 1) := by unfold Hid apT; rw [if_neg (by omega), if_pos e9, ← HT0.out]
            have q7 : (o.k == 7) = false := by simp [e9]
            have q8 : (o.k == 8) = false := by simp [e9]
            have q9 : (o.k == 9) = true := by simp [e9]
            obtain ⟨u1, hu1, R1⟩ := YV.out 1 (by omega)
            have t1 := own_cells1 OV.out 1 u1 hu1
            have HP1 := Hid.mk (pt_len o ts 1 (HTL.out 1 (by omega)))
            obtain ⟨T1, hT1⟩ : ∃ T1, T1 = pt o ts 1 := ⟨_, rfl⟩
            rw [← hT1] at R1 HP1 TE
            have HU1 := Hid.mk hu1
            clear hT1 hu1
            have HR1 := Hid.mk R1
            obtain ⟨g1, o1, c1, hv1, -, -⟩ := R1
            rw [hv1] at t1 HR1 HU1
            clear hv1
            have CT1 := Hid.mk t1
            have hl1 := HP1.out
            obtain ⟨TW, hTW⟩ : ∃ TW, TW = twAt (8 + o.v.toNat) := ⟨_, rfl⟩
            rw [← hTW] at TE
            have hlw : TW.length ≤ 6 := by rw [hTW]; exact tw_len _
            have HTW := Hid.mk hTW
            have b0 : (0 : Int) < (j : Int) := by omega
            have b1 : (1 : Int) < (j : Int) := by omega
            clear e9 hN2 hTW
            go_upto_region 27 with fail
            clear p0 p1 t0 t1
            obtain ⟨Wq, hWq, HB⟩ : ∃ X : World, X = wc.drew ∧ Hid (Below wc.heap.size wc X) := ⟨_, rfl, (Below.refl _ _).drew⟩
            refine wp_region_held_drew (S := (fun w' => w'.cell? ⟨w.heap.size, 1, none⟩ = some (.int .i64 o.v) ∧ w'.cell? ⟨g, 0, none⟩ = some (.slice (some ⟨g0, o0, none⟩) T0.length c0) ∧ w'.cell? ⟨g, 1, none⟩ = some (.slice (some ⟨g1, o1, none⟩) T1.length c1))) (by kernel_rfl) ?_ (fun hHeld => ?_)
            · rw [← hWq]; exact ⟨cell_keep HB.out CP1.out, cell_keep HB.out CT0.out, cell_keep HB.out CT1.out⟩
            rw [← hWq] at hHeld ⊢
            clear hWq
            refine wpAnyH_take (i := 0) (v := ?_) rfl (by kernel_rfl) (by kernel_rfl) (by kernel_rfl) (fun _ _ _ h => h) (Or.inl ⟨by rfl, ?_⟩) (by assumption) ?_
            rotate_left
            · intro w hSw; (try dsimp only at hSw); go_simp; (try with_reducible rfl)
            rotate_left
            simp only [Act.put, List.setIfInBounds_toArray, List.set_cons_zero, List.set_cons_succ, List.getElem_toArray, List.getElem_cons_zero, List.getElem_cons_succ]
            refine wpAnyH_take (i := 1) (v := ?_) rfl (by kernel_rfl) (by kernel_rfl) (by kernel_rfl) (fun _ _ _ h => h) (Or.inl ⟨by rfl, ?_⟩) (by assumption) ?_
            rotate_left
            · intro w hSw; (try dsimp only at hSw); go_simp; (try with_reducible rfl)
            rotate_left
            simp only [Act.put, List.setIfInBounds_toArray, List.set_cons_zero, List.set_cons_succ, List.getElem_toArray, List.getElem_cons_zero, List.getElem_cons_succ]
            refine wpAnyH_take (i := 2) (v := ?_) rfl (by kernel_rfl) (by kernel_rfl) (by kernel_rfl) (fun _ _ _ h => h) (Or.inl ⟨by rfl, ?_⟩) (by assumption) ?_
            rotate_left
            · intro w hSw; (try dsimp only at hSw); go_simp; (try with_reducible rfl)
            rotate_left
            simp only [Act.put, List.setIfInBounds_toArray, List.set_cons_zero, List.set_cons_succ, List.getElem_toArray, List.getElem_cons_zero, List.getElem_cons_succ]
            refine wpAnyH_take (i := 6) (v := ?_) rfl (by kernel_rfl) (by kernel_rfl) (by kernel_rfl) (fun _ _ _ h => h) (Or.inl ⟨by rfl, ?_⟩) (by assumption) ?_
            rotate_left
            · intro w hSw; (try dsimp only at hSw); go_simp; (try with_reducible rfl)
            rotate_left
            simp only [Act.put, List.setIfInBounds_toArray, List.set_cons_zero, List.set_cons_succ, List.getElem_toArray, List.getElem_cons_zero, List.getElem_cons_succ]
            refine wpAnyH_take (i := 7) (v := ?_) rfl (by kernel_rfl) (by kernel_rfl) (by kernel_rfl) (fun _ _ _ h => h) (Or.inl ⟨by rfl, ?_⟩) (by assumption) ?_
            rotate_left
            · intro w hSw; (try dsimp only at hSw); go_simp; (try with_reducible rfl)
            rotate_left
            simp only [Act.put, List.setIfInBounds_toArray, List.set_cons_zero, List.set_cons_succ, List.getElem_toArray, List.getElem_cons_zero, List.getElem_cons_succ]
            refine wpAnyH_take (i := 13) (v := ?_) rfl (by kernel_rfl) (by kernel_rfl) (by kernel_rfl) (fun _ _ _ h => h) (Or.inl ⟨by rfl, ?_⟩) (by assumption) ?_
            rotate_left
            · intro w hSw; (try dsimp only at hSw); go_simp; (try with_reducible rfl)
            rotate_left
            simp only [Act.put, List.setIfInBounds_toArray, List.set_cons_zero, List.set_cons_succ, List.getElem_toArray, List.getElem_cons_zero, List.getElem_cons_succ]
            refine wpAnyH_take (i := 14) (v := ?_) rfl (by kernel_rfl) (by kernel_rfl) (by kernel_rfl) (fun _ _ _ h => h) (Or.inl ⟨by rfl, ?_⟩) (by assumption) ?_
            rotate_left
            · intro w hSw; (try dsimp only at hSw); go_simp; (try with_reducible rfl)
            rotate_left
            simp only [Act.put, List.setIfInBounds_toArray, List.set_cons_zero, List.set_cons_succ, List.getElem_toArray, List.getElem_cons_zero, List.getElem_cons_succ]
            refine wpAnyH_take (i := 15) (v := ?_) rfl (by kernel_rfl) (by kernel_rfl) (by kernel_rfl) (fun _ _ _ h => h) (Or.inl ⟨by rfl, ?_⟩) (by assumption) ?_
            rotate_left
            · intro w hSw; (try dsimp only at hSw); go_simp; (try with_reducible rfl)
            rotate_left
            simp only [Act.put, List.setIfInBounds_toArray, List.set_cons_zero, List.set_cons_succ, List.getElem_toArray, List.getElem_cons_zero, List.getElem_cons_succ]
            refine wpAnyH_ready (rs := [3, 11]) (by kernel_rfl) (by simp) ?_
            refine AllReadyH.cons rfl (fun K hK => ?_) ?_
            · go_simp
              obtain ⟨Wq, G3, hWq, hG3, hCB, hn⟩ := new_lit Wq
              rw [← hWq, ← hG3]
              have CG := Hid.mk (show wc.heap.size ≤ G3 by rw [hG3]; exact HB.out.size)
              (try have SR := Hid.mk (SR.out.below hn))
              (try have CB := Hid.mk (blk_below CB.out hn))
              (try have CR := Hid.mk (CR.out.below hn))
              (try have DR := Hid.mk (DR.out.below hn))
              (try have HO := Hid.mk (own_bel' HO.out hn))
              have HB := Hid.mk (below_then HB.out hn)
              clear hn
              have CB := Hid.mk hCB
              clear hCB hWq hG3
              refine hK.out _ _ ?_ (fun hHeld => ?_)
              · exact ⟨cell_keep HB.out CP1.out, cell_keep HB.out CT0.out, cell_keep HB.out CT1.out⟩
              clear hK K
              (try simp only [Act.put, List.setIfInBounds_toArray, List.set_cons_zero, List.set_cons_succ, List.getElem_toArray, List.getElem_cons_zero, List.getElem_cons_succ])
              refine wpAnyH_ready (rs := [4, 11]) (by kernel_rfl) (by simp) ?_
              refine AllReadyH.cons rfl (fun K hK => ?_) ?_
              · obtain ⟨Wq, hcv, hCR, hHB, hRk⟩ := conv_lit HB.out CG.out CB.out
                go_simp
                (try have SR := Hid.mk (hRk _ _ SR.out))
                have CR := Hid.mk hCR
                have HB := Hid.mk hHB
                clear hcv hCR hHB hRk CB CG
                refine hK.out _ _ ?_ (fun hHeld => ?_)
                · exact ⟨cell_keep HB.out CP1.out, cell_keep HB.out CT0.out, cell_keep HB.out CT1.out⟩
                clear hK K
                (try simp only [Act.put, List.setIfInBounds_toArray, List.set_cons_zero, List.set_cons_succ, List.getElem_toArray, List.getElem_cons_zero, List.getElem_cons_succ])
                refine wpAnyH_ready (rs := [5, 11]) (by kernel_rfl) (by simp) ?_
                refine AllReadyH.cons rfl (fun K hK => ?_) ?_
                · go_simp
                  refine (catR T0 [32] _ _ _ (HR0.out.below HB.out) CR.out (by omega) (by simp)).mono ?_
                  rintro e w5 ⟨v5, rfl, h5, hn⟩
                  (try have SN := Hid.mk (apart_v h5 SR.out (Nat.le_refl _)))
                  obtain ⟨Wq, hWq⟩ : ∃ X : World, X = w5 := ⟨_, rfl⟩
                  rw [← hWq] at h5 hn ⊢
                  clear CR
                  have HO' := Hid.mk (own_up h5 HB.out.size)
                  (try have SR := Hid.mk (SR.out.below hn))
                  (try have CB := Hid.mk (blk_below CB.out hn))
                  (try have CR := Hid.mk (CR.out.below hn))
                  (try have DR := Hid.mk (DR.out.below hn))
                  (try have HO := Hid.mk (own_bel' HO.out hn))
                  have HB := Hid.mk (below_then HB.out hn)
                  clear hn
                  have HO := HO'
                  clear h5 HO' hWq
                  refine hK.out _ _ ?_ (fun hHeld => ?_)
                  · exact ⟨cell_keep HB.out CP1.out, cell_keep HB.out CT0.out, cell_keep HB.out CT1.out⟩
                  clear hK K
                  (try simp only [Act.put, List.setIfInBounds_toArray, List.set_cons_zero, List.set_cons_succ, List.getElem_toArray, List.getElem_cons_zero, List.getElem_cons_succ])
                  refine wpAnyH_ready (rs := [8, 11]) (by kernel_rfl) (by simp) ?_
                  refine AllReadyH.cons rfl (fun K hK => ?_) ?_
                  · go_simp
                    refine (binTS o.v _ v0 v7).mono ?_
                    rintro e w8 ⟨rfl, hw8⟩
                    rw [hw8, ← HTW.out]
                    clear hw8
                    refine hK.out _ _ ?_ (fun hHeld => ?_)
                    · exact ⟨cell_keep HB.out CP1.out, cell_keep HB.out CT0.out, cell_keep HB.out CT1.out⟩
                    clear hK K
                    (try simp only [Act.put, List.setIfInBounds_toArray, List.set_cons_zero, List.set_cons_succ, List.getElem_toArray, List.getElem_cons_zero, List.getElem_cons_succ])
                    refine wpAnyH_ready (rs := [9, 11]) (by kernel_rfl) (by simp) ?_
                    refine AllReadyH.cons rfl (fun K hK => ?_) ?_
                    · obtain ⟨Wq, G9, c9, hkb, hDR, hn⟩ := conv_str Wq TW
                      go_simp
                      (try have SR := Hid.mk (SR.out.below hn))
                      (try have CB := Hid.mk (blk_below CB.out hn))
                      (try have CR := Hid.mk (CR.out.below hn))
                      (try have DR := Hid.mk (DR.out.below hn))
                      (try have HO := Hid.mk (own_bel' HO.out hn))
                      have HB := Hid.mk (below_then HB.out hn)
                      clear hn
                      have DR := Hid.mk hDR
                      clear hDR hkb
                      refine hK.out _ _ ?_ (fun hHeld => ?_)
                      · exact ⟨cell_keep HB.out CP1.out, cell_keep HB.out CT0.out, cell_keep HB.out CT1.out⟩
                      clear hK K
                      (try simp only [Act.put, List.setIfInBounds_toArray, List.set_cons_zero, List.set_cons_succ, List.getElem_toArray, List.getElem_cons_zero, List.getElem_cons_succ])
                      refine wpAnyH_ready (rs := [10, 11]) (by kernel_rfl) (by simp) ?_
                      refine AllReadyH.cons rfl (fun K hK => ?_) ?_
                      · rw [if_pos (by rfl)]
                        refine wp_bytes _ _ rfl wc.heap.size _ _ rfl HO.out _ rfl TW DR.out HB.out.size (by simp only [List.length_append, List.length_cons, List.length_nil]; omega) ?_
                        intro v10 Wq h10 k10
                        (try have SN' := Hid.mk (SN.out.kb k10 SR.out))
                        (try have SR := Hid.mk (SR.out.kb k10 SN.out))
                        (try have SN := SN')
                        have HO := Hid.mk h10
                        have HB := Hid.mk (HB.out.trans k10.1)
                        clear h10 k10 DR
                        refine hK.out _ _ ?_ (fun hHeld => ?_)
                        · exact ⟨cell_keep HB.out CP1.out, cell_keep HB.out CT0.out, cell_keep HB.out CT1.out⟩
                        clear hK K
                        (try simp only [Act.put, List.setIfInBounds_toArray, List.set_cons_zero, List.set_cons_succ, List.getElem_toArray, List.getElem_cons_zero, List.getElem_cons_succ])
                        refine wpAnyH_ready (rs := [11]) (by kernel_rfl) (by simp) ?_
                        refine AllReadyH.cons rfl (fun K hK => ?_) ?_
                        · go_simp
                          obtain ⟨Wq, G11, hWq, hG11, hSB, hn⟩ := new_lit Wq
                          rw [← hWq, ← hG11]
                          (try have SN := Hid.mk (show Apart _ (.slice (some ⟨G11, 0, none⟩) 1 1) by rw [hG11]; exact apart_u HO.out 1 1))
                          (try have SR := Hid.mk (SR.out.below hn))
                          (try have CB := Hid.mk (blk_below CB.out hn))
                          (try have CR := Hid.mk (CR.out.below hn))
                          (try have DR := Hid.mk (DR.out.below hn))
                          (try have HO := Hid.mk (own_bel' HO.out hn))
                          have HB := Hid.mk (below_then HB.out hn)
                          clear hn
                          have SR := Hid.mk (lit_rt [32] 1 _ _ rfl hSB)
                          clear hSB hWq hG11
                          refine hK.out _ _ ?_ (fun hHeld => ?_)
                          · exact ⟨cell_keep HB.out CP1.out, cell_keep HB.out CT0.out, cell_keep HB.out CT1.out⟩
                          clear hK K
                          (try simp only [Act.put, List.setIfInBounds_toArray, List.set_cons_zero, List.set_cons_succ, List.getElem_toArray, List.getElem_cons_zero, List.getElem_cons_succ])
                          refine wpAnyH_ready (rs := [12]) (by kernel_rfl) (by simp) ?_
                          refine AllReadyH.cons rfl (fun K hK => ?_) ?_
                          · rw [if_pos (by rfl)]
                            refine wp_bytes _ _ rfl wc.heap.size _ _ rfl HO.out _ rfl [32] SR.out HB.out.size (by simp only [List.length_append, List.length_cons, List.length_nil]; omega) ?_
                            intro v12 Wq h12 k12
                            have HO := Hid.mk h12
                            have HB := Hid.mk (HB.out.trans k12.1)
                            clear h12 k12 SR SN
                            refine hK.out _ _ ?_ (fun hHeld => ?_)
                            · exact ⟨cell_keep HB.out CP1.out, cell_keep HB.out CT0.out, cell_keep HB.out CT1.out⟩
                            clear hK K
                            (try simp only [Act.put, List.setIfInBounds_toArray, List.set_cons_zero, List.set_cons_succ, List.getElem_toArray, List.getElem_cons_zero, List.getElem_cons_succ])
                            refine wpAnyH_ready (rs := [16]) (by kernel_rfl) (by simp) ?_
                            refine AllReadyH.cons rfl (fun K hK => ?_) ?_
                            · rw [if_pos (by rfl)]
                              refine wp_bytes _ _ rfl wc.heap.size _ _ rfl HO.out _ rfl T1 (HR1.out.below HB.out) HB.out.size (by simp only [List.length_append, List.length_cons, List.length_nil]; omega) ?_
                              intro v16 Wq h16 k16
                              have T2 := Hid.mk (own_rt h16 (by simp only [List.length_append, List.length_cons, List.length_nil]; omega))
                              obtain ⟨xg, xo, xc, hx, -, -⟩ := T2.out
                              obtain ⟨XL, hXL⟩ : ∃ XL, XL = (T0 ++ [32] ++ TW ++ [32] ++ T1).length := ⟨_, rfl⟩
                              rw [← hXL] at hx
                              subst hx
                              clear hXL
                              have HB := Hid.mk (HB.out.trans k16.1)
                              have U2 := Hid.mk (blk_below UV.out HB.out)
                              have R2 := Hid.mk (blk_below RV.out HB.out)
                              clear h16 k16 HO
                              refine hK.out _ _ ?_ (fun hHeld => ?_)
                              · exact ⟨cell_keep HB.out CP1.out, cell_keep HB.out CT0.out, cell_keep HB.out CT1.out⟩
                              clear hK K
                              (try simp only [Act.put, List.setIfInBounds_toArray, List.set_cons_zero, List.set_cons_succ, List.getElem_toArray, List.getElem_cons_zero, List.getElem_cons_succ])
                              refine wpAnyH_take (i := 17) (v := ?_) rfl (by kernel_rfl) (by kernel_rfl) (by kernel_rfl) (fun _ _ _ h => h) (Or.inl ⟨by rfl, ?_⟩) (by assumption) ?_
                              rotate_left
                              · intro w hSw; (try dsimp only at hSw); go_simp; (try with_reducible rfl)
                              rotate_left
                              simp only [Act.put, List.setIfInBounds_toArray, List.set_cons_zero, List.set_cons_succ, List.getElem_toArray, List.getElem_cons_zero, List.getElem_cons_succ]
                              refine wpAnyH_ready (rs := [18]) (by kernel_rfl) (by simp) ?_
                              refine AllReadyH.cons rfl (fun K hK => ?_) ?_
                              · have f2 := blk_unfrozen U2.out 2
                                have f0 := blk_cell U2.out 2
                                simp only [List.getElem?_toArray, List.getElem?_cons_zero, List.getElem?_cons_succ] at f0
                                go_simp
                                refine hK.out _ _ ?_ (fun hHeld => ?_)
                                · exact ⟨(blk_cell (blk_set_other (blk_below PV.out HB.out) (by show w.heap.size ≠ w1.heap.size; omega) _) 1).trans rfl, own_cells1 (row_set' (row_kept OV.out HB.out) U2.out (by decide)) 0 _ HU0.out, own_cells1 (row_set' (row_kept OV.out HB.out) U2.out (by decide)) 1 _ HU1.out⟩
                                clear hK K
                                (try simp only [Act.put, List.setIfInBounds_toArray, List.set_cons_zero, List.set_cons_succ, List.getElem_toArray, List.getElem_cons_zero, List.getElem_cons_succ])
                                refine wpAnyH_done (by kernel_rfl) ?_ _
                                go_wp2_with fail
                                go_meet
                                obtain ⟨a1, a2, a3, a4⟩ := putT (by rw [← hz]; exact hzw) U2.out R2.out T2.out (below_then BV.out HB.out)
                                exact ⟨xg, xo, _, xc, a1, a2, by unfold Hid; rw [TE.out]; exact a3, a4⟩
                              exact AllReadyH.nil
                            exact AllReadyH.nil
                          exact AllReadyH.nil
                        exact AllReadyH.nil
                      refine AllReadyH.cons rfl (fun K hK => ?_) ?_
                      · go_simp
                        obtain ⟨Wq, G11, hWq, hG11, hSB, hn⟩ := new_lit Wq
                        rw [← hWq, ← hG11]
                        (try have SN := Hid.mk (show Apart _ (.slice (some ⟨G11, 0, none⟩) 1 1) by rw [hG11]; exact apart_u HO.out 1 1))
                        (try have SR := Hid.mk (SR.out.below hn))
                        (try have CB := Hid.mk (blk_below CB.out hn))
                        (try have CR := Hid.mk (CR.out.below hn))
                        (try have DR := Hid.mk (DR.out.below hn))
                        (try have HO := Hid.mk (own_bel' HO.out hn))
                        have HB := Hid.mk (below_then HB.out hn)
                        clear hn
                        have SR := Hid.mk (lit_rt [32] 1 _ _ rfl hSB)
                        clear hSB hWq hG11
                        refine hK.out _ _ ?_ (fun hHeld => ?_)
                        · exact ⟨cell_keep HB.out CP1.out, cell_keep HB.out CT0.out, cell_keep HB.out CT1.out⟩
                        clear hK K
                        (try simp only [Act.put, List.setIfInBounds_toArray, List.set_cons_zero, List.set_cons_succ, List.getElem_toArray, List.getElem_cons_zero, List.getElem_cons_succ])
                        refine wpAnyH_ready (rs := [10]) (by kernel_rfl) (by simp) ?_
                        refine AllReadyH.cons rfl (fun K hK => ?_) ?_
                        · rw [if_pos (by rfl)]
                          refine wp_bytes _ _ rfl wc.heap.size _ _ rfl HO.out _ rfl TW DR.out HB.out.size (by simp only [List.length_append, List.length_cons, List.length_nil]; omega) ?_
                          intro v10 Wq h10 k10
                          (try have SN' := Hid.mk (SN.out.kb k10 SR.out))
                          (try have SR := Hid.mk (SR.out.kb k10 SN.out))
                          (try have SN := SN')
                          have HO := Hid.mk h10
                          have HB := Hid.mk (HB.out.trans k10.1)
                          clear h10 k10 DR
                          refine hK.out _ _ ?_ (fun hHeld => ?_)
                          · exact ⟨cell_keep HB.out CP1.out, cell_keep HB.out CT0.out, cell_keep HB.out CT1.out⟩
                          clear hK K
                          (try simp only [Act.put, List.setIfInBounds_toArray, List.set_cons_zero, List.set_cons_succ, List.getElem_toArray, List.getElem_cons_zero, List.getElem_cons_succ])
                          refine wpAnyH_ready (rs := [12]) (by kernel_rfl) (by simp) ?_
                          refine AllReadyH.cons rfl (fun K hK => ?_) ?_
                          · rw [if_pos (by rfl)]
                            refine wp_bytes _ _ rfl wc.heap.size _ _ rfl HO.out _ rfl [32] SR.out HB.out.size (by simp only [List.length_append, List.length_cons, List.length_nil]; omega) ?_
                            intro v12 Wq h12 k12
                            have HO := Hid.mk h12
                            have HB := Hid.mk (HB.out.trans k12.1)
                            clear h12 k12 SR SN
                            refine hK.out _ _ ?_ (fun hHeld => ?_)
                            · exact ⟨cell_keep HB.out CP1.out, cell_keep HB.out CT0.out, cell_keep HB.out CT1.out⟩
                            clear hK K
                            (try simp only [Act.put, List.setIfInBounds_toArray, List.set_cons_zero, List.set_cons_succ, List.getElem_toArray, List.getElem_cons_zero, List.getElem_cons_succ])
                            refine wpAnyH_ready (rs := [16]) (by kernel_rfl) (by simp) ?_
                            refine AllReadyH.cons rfl (fun K hK => ?_) ?_
                            · rw [if_pos (by rfl)]
                              refine wp_bytes _ _ rfl wc.heap.size _ _ rfl HO.out _ rfl T1 (HR1.out.below HB.out) HB.out.size (by simp only [List.length_append, List.length_cons, List.length_nil]; omega) ?_
                              intro v16 Wq h16 k16
                              have T2 := Hid.mk (own_rt h16 (by simp only [List.length_append, List.length_cons, List.length_nil]; omega))
                              obtain ⟨xg, xo, xc, hx, -, -⟩ := T2.out
                              obtain ⟨XL, hXL⟩ : ∃ XL, XL = (T0 ++ [32] ++ TW ++ [32] ++ T1).length := ⟨_, rfl⟩
                              rw [← hXL] at hx
                              subst hx
                              clear hXL
                              have HB := Hid.mk (HB.out.trans k16.1)
                              have U2 := Hid.mk (blk_below UV.out HB.out)
                              have R2 := Hid.mk (blk_below RV.out HB.out)
                              clear h16 k16 HO
                              refine hK.out _ _ ?_ (fun hHeld => ?_)
                              · exact ⟨cell_keep HB.out CP1.out, cell_keep HB.out CT0.out, cell_keep HB.out CT1.out⟩
                              clear hK K
                              (try simp only [Act.put, List.setIfInBounds_toArray, List.set_cons_zero, List.set_cons_succ, List.getElem_toArray, List.getElem_cons_zero, List.getElem_cons_succ])
                              refine wpAnyH_take (i := 17) (v := ?_) rfl (by kernel_rfl) (by kernel_rfl) (by kernel_rfl) (fun _ _ _ h => h) (Or.inl ⟨by rfl, ?_⟩) (by assumption) ?_
                              rotate_left
                              · intro w hSw; (try dsimp only at hSw); go_simp; (try with_reducible rfl)
                              rotate_left
                              simp only [Act.put, List.setIfInBounds_toArray, List.set_cons_zero, List.set_cons_succ, List.getElem_toArray, List.getElem_cons_zero, List.getElem_cons_succ]
                              refine wpAnyH_ready (rs := [18]) (by kernel_rfl) (by simp) ?_
                              refine AllReadyH.cons rfl (fun K hK => ?_) ?_
                              · have f2 := blk_unfrozen U2.out 2
                                have f0 := blk_cell U2.out 2
                                simp only [List.getElem?_toArray, List.getElem?_cons_zero, List.getElem?_cons_succ] at f0
                                go_simp
                                refine hK.out _ _ ?_ (fun hHeld => ?_)
                                · exact ⟨(blk_cell (blk_set_other (blk_below PV.out HB.out) (by show w.heap.size ≠ w1.heap.size; omega) _) 1).trans rfl, own_cells1 (row_set' (row_kept OV.out HB.out) U2.out (by decide)) 0 _ HU0.out, own_cells1 (row_set' (row_kept OV.out HB.out) U2.out (by decide)) 1 _ HU1.out⟩
                                clear hK K
                                (try simp only [Act.put, List.setIfInBounds_toArray, List.set_cons_zero, List.set_cons_succ, List.getElem_toArray, List.getElem_cons_zero, List.getElem_cons_succ])
                                refine wpAnyH_done (by kernel_rfl) ?_ _
                                go_wp2_with fail
                                go_meet
                                obtain ⟨a1, a2, a3, a4⟩ := putT (by rw [← hz]; exact hzw) U2.out R2.out T2.out (below_then BV.out HB.out)
                                exact ⟨xg, xo, _, xc, a1, a2, by unfold Hid; rw [TE.out]; exact a3, a4⟩
                              exact AllReadyH.nil
                            exact AllReadyH.nil
                          exact AllReadyH.nil
                        exact AllReadyH.nil
                      exact AllReadyH.nil
                    refine AllReadyH.cons rfl (fun K hK => ?_) ?_
                    · go_simp
                      obtain ⟨Wq, G11, hWq, hG11, hSB, hn⟩ := new_lit Wq
                      rw [← hWq, ← hG11]
                      (try have SN := Hid.mk (show Apart _ (.slice (some ⟨G11, 0, none⟩) 1 1) by rw [hG11]; exact apart_u HO.out 1 1))
                      (try have SR := Hid.mk (SR.out.below hn))
                      (try have CB := Hid.mk (blk_below CB.out hn))
                      (try have CR := Hid.mk (CR.out.below hn))
                      (try have DR := Hid.mk (DR.out.below hn))
                      (try have HO := Hid.mk (own_bel' HO.out hn))
                      have HB := Hid.mk (below_then HB.out hn)
                      clear hn
                      have SR := Hid.mk (lit_rt [32] 1 _ _ rfl hSB)
                      clear hSB hWq hG11
                      refine hK.out _ _ ?_ (fun hHeld => ?_)
                      · exact ⟨cell_keep HB.out CP1.out, cell_keep HB.out CT0.out, cell_keep HB.out CT1.out⟩
                      clear hK K
                      (try simp only [Act.put, List.setIfInBounds_toArray, List.set_cons_zero, List.set_cons_succ, List.getElem_toArray, List.getElem_cons_zero, List.getElem_cons_succ])
                      refine wpAnyH_ready (rs := [9]) (by kernel_rfl) (by simp) ?_
                      refine AllReadyH.cons rfl (fun K hK => ?_) ?_
                      · obtain ⟨Wq, G9, c9, hkb, hDR, hn⟩ := conv_str Wq TW
                        go_simp
                        (try have SR := Hid.mk (SR.out.below hn))
                        (try have CB := Hid.mk (blk_below CB.out hn))
                        (try have CR := Hid.mk (CR.out.below hn))
                        (try have DR := Hid.mk (DR.out.below hn))
                        (try have HO := Hid.mk (own_bel' HO.out hn))
                        have HB := Hid.mk (below_then HB.out hn)
                        clear hn
                        have DR := Hid.mk hDR
                        clear hDR hkb
                        refine hK.out _ _ ?_ (fun hHeld => ?_)
                        · exact ⟨cell_keep HB.out CP1.out, cell_keep HB.out CT0.out, cell_keep HB.out CT1.out⟩
                        clear hK K
                        (try simp only [Act.put, List.setIfInBounds_toArray, List.set_cons_zero, List.set_cons_succ, List.getElem_toArray, List.getElem_cons_zero, List.getElem_cons_succ])
                        refine wpAnyH_ready (rs := [10]) (by kernel_rfl) (by simp) ?_
                        refine AllReadyH.cons rfl (fun K hK => ?_) ?_
                        · rw [if_pos (by rfl)]
                          refine wp_bytes _ _ rfl wc.heap.size _ _ rfl HO.out _ rfl TW DR.out HB.out.size (by simp only [List.length_append, List.length_cons, List.length_nil]; omega) ?_
                          intro v10 Wq h10 k10
                          (try have SN' := Hid.mk (SN.out.kb k10 SR.out))
                          (try have SR := Hid.mk (SR.out.kb k10 SN.out))
                          (try have SN := SN')
                          have HO := Hid.mk h10
                          have HB := Hid.mk (HB.out.trans k10.1)
                          clear h10 k10 DR
                          refine hK.out _ _ ?_ (fun hHeld => ?_)
                          · exact ⟨cell_keep HB.out CP1.out, cell_keep HB.out CT0.out, cell_keep HB.out CT1.out⟩
                          clear hK K
                          (try simp only [Act.put, List.setIfInBounds_toArray, List.set_cons_zero, List.set_cons_succ, List.getElem_toArray, List.getElem_cons_zero, List.getElem_cons_succ])
                          refine wpAnyH_ready (rs := [12]) (by kernel_rfl) (by simp) ?_
                          refine AllReadyH.cons rfl (fun K hK => ?_) ?_
                          · rw [if_pos (by rfl)]
                            refine wp_bytes _ _ rfl wc.heap.size _ _ rfl HO.out _ rfl [32] SR.out HB.out.size (by simp only [List.length_append, List.length_cons, List.length_nil]; omega) ?_
                            intro v12 Wq h12 k12
                            have HO := Hid.mk h12
                            have HB := Hid.mk (HB.out.trans k12.1)
                            clear h12 k12 SR SN
                            refine hK.out _ _ ?_ (fun hHeld => ?_)
                            · exact ⟨cell_keep HB.out CP1.out, cell_keep HB.out CT0.out, cell_keep HB.out CT1.out⟩
                            clear hK K
                            (try simp only [Act.put, List.setIfInBounds_toArray, List.set_cons_zero, List.set_cons_succ, List.getElem_toArray, List.getElem_cons_zero, List.getElem_cons_succ])
                            refine wpAnyH_ready (rs := [16]) (by kernel_rfl) (by simp) ?_
                            refine AllReadyH.cons rfl (fun K hK => ?_) ?_
                            · rw [if_pos (by rfl)]
                              refine wp_bytes _ _ rfl wc.heap.size _ _ rfl HO.out _ rfl T1 (HR1.out.below HB.out) HB.out.size (by simp only [List.length_append, List.length_cons, List.length_nil]; omega) ?_
                              intro v16 Wq h16 k16
                              have T2 := Hid.mk (own_rt h16 (by simp only [List.length_append, List.length_cons, List.length_nil]; omega))
                              obtain ⟨xg, xo, xc, hx, -, -⟩ := T2.out
                              obtain ⟨XL, hXL⟩ : ∃ XL, XL = (T0 ++ [32] ++ TW ++ [32] ++ T1).length := ⟨_, rfl⟩
                              rw [← hXL] at hx
                              subst hx
                              clear hXL
                              have HB := Hid.mk (HB.out.trans k16.1)
                              have U2 := Hid.mk (blk_below UV.out HB.out)
                              have R2 := Hid.mk (blk_below RV.out HB.out)
                              clear h16 k16 HO
                              refine hK.out _ _ ?_ (fun hHeld => ?_)
                              · exact ⟨cell_keep HB.out CP1.out, cell_keep HB.out CT0.out, cell_keep HB.out CT1.out⟩
                              clear hK K
                              (try simp only [Act.put, List.setIfInBounds_toArray, List.set_cons_zero, List.set_cons_succ, List.getElem_toArray, List.getElem_cons_zero, List.getElem_cons_succ])
                              refine wpAnyH_take (i := 17) (v := ?_) rfl (by kernel_rfl) (by kernel_rfl) (by kernel_rfl) (fun _ _ _ h => h) (Or.inl ⟨by rfl, ?_⟩) (by assumption) ?_
                              rotate_left
                              · intro w hSw; (try dsimp only at hSw); go_simp; (try with_reducible rfl)
                              rotate_left
                              simp only [Act.put, List.setIfInBounds_toArray, List.set_cons_zero, List.set_cons_succ, List.getElem_toArray, List.getElem_cons_zero, List.getElem_cons_succ]
                              refine wpAnyH_ready (rs := [18]) (by kernel_rfl) (by simp) ?_
                              refine AllReadyH.cons rfl (fun K hK => ?_) ?_
                              · have f2 := blk_unfrozen U2.out 2
                                have f0 := blk_cell U2.out 2
                                simp only [List.getElem?_toArray, List.getElem?_cons_zero, List.getElem?_cons_succ] at f0
                                go_simp
                                refine hK.out _ _ ?_ (fun hHeld => ?_)
                                · exact ⟨(blk_cell (blk_set_other (blk_below PV.out HB.out) (by show w.heap.size ≠ w1.heap.size; omega) _) 1).trans rfl, own_cells1 (row_set' (row_kept OV.out HB.out) U2.out (by decide)) 0 _ HU0.out, own_cells1 (row_set' (row_kept OV.out HB.out) U2.out (by decide)) 1 _ HU1.out⟩
                                clear hK K
                                (try simp only [Act.put, List.setIfInBounds_toArray, List.set_cons_zero, List.set_cons_succ, List.getElem_toArray, List.getElem_cons_zero, List.getElem_cons_succ])
                                refine wpAnyH_done (by kernel_rfl) ?_ _
                                go_wp2_with fail
                                go_meet
                                obtain ⟨a1, a2, a3, a4⟩ := putT (by rw [← hz]; exact hzw) U2.out R2.out T2.out (below_then BV.out HB.out)
                                exact ⟨xg, xo, _, xc, a1, a2, by unfold Hid; rw [TE.out]; exact a3, a4⟩
                              exact AllReadyH.nil
                            exact AllReadyH.nil
                          exact AllReadyH.nil
                        exact AllReadyH.nil
                      exact AllReadyH.nil
                    exact AllReadyH.nil
                  refine AllReadyH.cons rfl (fun K hK => ?_) ?_
                  · go_simp
                    obtain ⟨Wq, G11, hWq, hG11, hSB, hn⟩ := new_lit Wq
                    rw [← hWq, ← hG11]
                    (try have SN := Hid.mk (show Apart _ (.slice (some ⟨G11, 0, none⟩) 1 1) by rw [hG11]; exact apart_u HO.out 1 1))
                    (try have SR := Hid.mk (SR.out.below hn))
                    (try have CB := Hid.mk (blk_below CB.out hn))
                    (try have CR := Hid.mk (CR.out.below hn))
                    (try have DR := Hid.mk (DR.out.below hn))
                    (try have HO := Hid.mk (own_bel' HO.out hn))
                    have HB := Hid.mk (below_then HB.out hn)
                    clear hn
                    have SR := Hid.mk (lit_rt [32] 1 _ _ rfl hSB)
                    clear hSB hWq hG11
                    refine hK.out _ _ ?_ (fun hHeld => ?_)
                    · exact ⟨cell_keep HB.out CP1.out, cell_keep HB.out CT0.out, cell_keep HB.out CT1.out⟩
                    clear hK K
                    (try simp only [Act.put, List.setIfInBounds_toArray, List.set_cons_zero, List.set_cons_succ, List.getElem_toArray, List.getElem_cons_zero, List.getElem_cons_succ])
                    refine wpAnyH_ready (rs := [8]) (by kernel_rfl) (by simp) ?_
                    refine AllReadyH.cons rfl (fun K hK => ?_) ?_
                    · go_simp
                      refine (binTS o.v _ v0 v7).mono ?_
                      rintro e w8 ⟨rfl, hw8⟩
                      rw [hw8, ← HTW.out]
                      clear hw8
                      refine hK.out _ _ ?_ (fun hHeld => ?_)
                      · exact ⟨cell_keep HB.out CP1.out, cell_keep HB.out CT0.out, cell_keep HB.out CT1.out⟩
                      clear hK K
                      (try simp only [Act.put, List.setIfInBounds_toArray, List.set_cons_zero, List.set_cons_succ, List.getElem_toArray, List.getElem_cons_zero, List.getElem_cons_succ])
                      refine wpAnyH_ready (rs := [9]) (by kernel_rfl) (by simp) ?_
                      refine AllReadyH.cons rfl (fun K hK => ?_) ?_
                      · obtain ⟨Wq, G9, c9, hkb, hDR, hn⟩ := conv_str Wq TW
                        go_simp
                        (try have SR := Hid.mk (SR.out.below hn))
                        (try have CB := Hid.mk (blk_below CB.out hn))
                        (try have CR := Hid.mk (CR.out.below hn))
                        (try have DR := Hid.mk (DR.out.below hn))
                        (try have HO := Hid.mk (own_bel' HO.out hn))
                        have HB := Hid.mk (below_then HB.out hn)
                        clear hn
                        have DR := Hid.mk hDR
                        clear hDR hkb
                        refine hK.out _ _ ?_ (fun hHeld => ?_)
                        · exact ⟨cell_keep HB.out CP1.out, cell_keep HB.out CT0.out, cell_keep HB.out CT1.out⟩
                        clear hK K
                        (try simp only [Act.put, List.setIfInBounds_toArray, List.set_cons_zero, List.set_cons_succ, List.getElem_toArray, List.getElem_cons_zero, List.getElem_cons_succ])
                        refine wpAnyH_ready (rs := [10]) (by kernel_rfl) (by simp) ?_
                        refine AllReadyH.cons rfl (fun K hK => ?_) ?_
                        · rw [if_pos (by rfl)]
                          refine wp_bytes _ _ rfl wc.heap.size _ _ rfl HO.out _ rfl TW DR.out HB.out.size (by simp only [List.length_append, List.length_cons, List.length_nil]; omega) ?_
                          intro v10 Wq h10 k10
                          (try have SN' := Hid.mk (SN.out.kb k10 SR.out))
                          (try have SR := Hid.mk (SR.out.kb k10 SN.out))
                          (try have SN := SN')
                          have HO := Hid.mk h10
                          have HB := Hid.mk (HB.out.trans k10.1)
                          clear h10 k10 DR
                          refine hK.out _ _ ?_ (fun hHeld => ?_)
                          · exact ⟨cell_keep HB.out CP1.out, cell_keep HB.out CT0.out, cell_keep HB.out CT1.out⟩
                          clear hK K
                          (try simp only [Act.put, List.setIfInBounds_toArray, List.set_cons_zero, List.set_cons_succ, List.getElem_toArray, List.getElem_cons_zero, List.getElem_cons_succ])
                          refine wpAnyH_ready (rs := [12]) (by kernel_rfl) (by simp) ?_
                          refine AllReadyH.cons rfl (fun K hK => ?_) ?_
                          · rw [if_pos (by rfl)]
                            refine wp_bytes _ _ rfl wc.heap.size _ _ rfl HO.out _ rfl [32] SR.out HB.out.size (by simp only [List.length_append, List.length_cons, List.length_nil]; omega) ?_
                            intro v12 Wq h12 k12
                            have HO := Hid.mk h12
                            have HB := Hid.mk (HB.out.trans k12.1)
                            clear h12 k12 SR SN
                            refine hK.out _ _ ?_ (fun hHeld => ?_)
                            · exact ⟨cell_keep HB.out CP1.out, cell_keep HB.out CT0.out, cell_keep HB.out CT1.out⟩
                            clear hK K
                            (try simp only [Act.put, List.setIfInBounds_toArray, List.set_cons_zero, List.set_cons_succ, List.getElem_toArray, List.getElem_cons_zero, List.getElem_cons_succ])
                            refine wpAnyH_ready (rs := [16]) (by kernel_rfl) (by simp) ?_
                            refine AllReadyH.cons rfl (fun K hK => ?_) ?_
                            · rw [if_pos (by rfl)]
                              refine wp_bytes _ _ rfl wc.heap.size _ _ rfl HO.out _ rfl T1 (HR1.out.below HB.out) HB.out.size (by simp only [List.length_append, List.length_cons, List.length_nil]; omega) ?_
                              intro v16 Wq h16 k16
                              have T2 := Hid.mk (own_rt h16 (by simp only [List.length_append, List.length_cons, List.length_nil]; omega))
                              obtain ⟨xg, xo, xc, hx, -, -⟩ := T2.out
                              obtain ⟨XL, hXL⟩ : ∃ XL, XL = (T0 ++ [32] ++ TW ++ [32] ++ T1).length := ⟨_, rfl⟩
                              rw [← hXL] at hx
                              subst hx
                              clear hXL
                              have HB := Hid.mk (HB.out.trans k16.1)
                              have U2 := Hid.mk (blk_below UV.out HB.out)
                              have R2 := Hid.mk (blk_below RV.out HB.out)
                              clear h16 k16 HO
                              refine hK.out _ _ ?_ (fun hHeld => ?_)
                              · exact ⟨cell_keep HB.out CP1.out, cell_keep HB.out CT0.out, cell_keep HB.out CT1.out⟩
                              clear hK K
                              (try simp only [Act.put, List.setIfInBounds_toArray, List.set_cons_zero, List.set_cons_succ, List.getElem_toArray, List.getElem_cons_zero, List.getElem_cons_succ])
                              refine wpAnyH_take (i := 17) (v := ?_) rfl (by kernel_rfl) (by kernel_rfl) (by kernel_rfl) (fun _ _ _ h => h) (Or.inl ⟨by rfl, ?_⟩) (by assumption) ?_
                              rotate_left
                              · intro w hSw; (try dsimp only at hSw); go_simp; (try with_reducible rfl)
                              rotate_left
                              simp only [Act.put, List.setIfInBounds_toArray, List.set_cons_zero, List.set_cons_succ, List.getElem_toArray, List.getElem_cons_zero, List.getElem_cons_succ]
                              refine wpAnyH_ready (rs := [18]) (by kernel_rfl) (by simp) ?_
                              refine AllReadyH.cons rfl (fun K hK => ?_) ?_
                              · have f2 := blk_unfrozen U2.out 2
                                have f0 := blk_cell U2.out 2
                                simp only [List.getElem?_toArray, List.getElem?_cons_zero, List.getElem?_cons_succ] at f0
                                go_simp
                                refine hK.out _ _ ?_ (fun hHeld => ?_)
                                · exact ⟨(blk_cell (blk_set_other (blk_below PV.out HB.out) (by show w.heap.size ≠ w1.heap.size; omega) _) 1).trans rfl, own_cells1 (row_set' (row_kept OV.out HB.out) U2.out (by decide)) 0 _ HU0.out, own_cells1 (row_set' (row_kept OV.out HB.out) U2.out (by decide)) 1 _ HU1.out⟩
                                clear hK K
                                (try simp only [Act.put, List.setIfInBounds_toArray, List.set_cons_zero, List.set_cons_succ, List.getElem_toArray, List.getElem_cons_zero, List.getElem_cons_succ])
                                refine wpAnyH_done (by kernel_rfl) ?_ _
                                go_wp2_with fail
                                go_meet
                                obtain ⟨a1, a2, a3, a4⟩ := putT (by rw [← hz]; exact hzw) U2.out R2.out T2.out (below_then BV.out HB.out)
                                exact ⟨xg, xo, _, xc, a1, a2, by unfold Hid; rw [TE.out]; exact a3, a4⟩
                              exact AllReadyH.nil
                            exact AllReadyH.nil
                          exact AllReadyH.nil
                        exact AllReadyH.nil
                      exact AllReadyH.nil
                    exact AllReadyH.nil
                  exact AllReadyH.nil
                refine AllReadyH.cons rfl (fun K hK => ?_) ?_
                · go_simp
                  obtain ⟨Wq, G11, hWq, hG11, hSB, hn⟩ := new_lit Wq
                  rw [← hWq, ← hG11]
                  (try have SN := Hid.mk (show Apart _ (.slice (some ⟨G11, 0, none⟩) 1 1) by rw [hG11]; exact apart_u HO.out 1 1))
                  (try have SR := Hid.mk (SR.out.below hn))
                  (try have CB := Hid.mk (blk_below CB.out hn))
                  (try have CR := Hid.mk (CR.out.below hn))
                  (try have DR := Hid.mk (DR.out.below hn))
                  (try have HO := Hid.mk (own_bel' HO.out hn))
                  have HB := Hid.mk (below_then HB.out hn)
                  clear hn
                  have SR := Hid.mk (lit_rt [32] 1 _ _ rfl hSB)
                  clear hSB hWq hG11
                  refine hK.out _ _ ?_ (fun hHeld => ?_)
                  · exact ⟨cell_keep HB.out CP1.out, cell_keep HB.out CT0.out, cell_keep HB.out CT1.out⟩
                  clear hK K
                  (try simp only [Act.put, List.setIfInBounds_toArray, List.set_cons_zero, List.set_cons_succ, List.getElem_toArray, List.getElem_cons_zero, List.getElem_cons_succ])
                  refine wpAnyH_ready (rs := [5]) (by kernel_rfl) (by simp) ?_
                  refine AllReadyH.cons rfl (fun K hK => ?_) ?_
                  · go_simp
                    refine (catR T0 [32] _ _ _ (HR0.out.below HB.out) CR.out (by omega) (by simp)).mono ?_
                    rintro e w5 ⟨v5, rfl, h5, hn⟩
                    (try have SN := Hid.mk (apart_v h5 SR.out (Nat.le_refl _)))
                    obtain ⟨Wq, hWq⟩ : ∃ X : World, X = w5 := ⟨_, rfl⟩
                    rw [← hWq] at h5 hn ⊢
                    clear CR
                    have HO' := Hid.mk (own_up h5 HB.out.size)
                    (try have SR := Hid.mk (SR.out.below hn))
                    (try have CB := Hid.mk (blk_below CB.out hn))
                    (try have CR := Hid.mk (CR.out.below hn))
                    (try have DR := Hid.mk (DR.out.below hn))
                    (try have HO := Hid.mk (own_bel' HO.out hn))
                    have HB := Hid.mk (below_then HB.out hn)
                    clear hn
                    have HO := HO'
                    clear h5 HO' hWq
                    refine hK.out _ _ ?_ (fun hHeld => ?_)
                    · exact ⟨cell_keep HB.out CP1.out, cell_keep HB.out CT0.out, cell_keep HB.out CT1.out⟩
                    clear hK K
                    (try simp only [Act.put, List.setIfInBounds_toArray, List.set_cons_zero, List.set_cons_succ, List.getElem_toArray, List.getElem_cons_zero, List.getElem_cons_succ])
                    refine wpAnyH_ready (rs := [8]) (by kernel_rfl) (by simp) ?_
                    refine AllReadyH.cons rfl (fun K hK => ?_) ?_
                    · go_simp
                      refine (binTS o.v _ v0 v7).mono ?_
                      rintro e w8 ⟨rfl, hw8⟩
                      rw [hw8, ← HTW.out]
                      clear hw8
                      refine hK.out _ _ ?_ (fun hHeld => ?_)
                      · exact ⟨cell_keep HB.out CP1.out, cell_keep HB.out CT0.out, cell_keep HB.out CT1.out⟩
                      clear hK K
                      (try simp only [Act.put, List.setIfInBounds_toArray, List.set_cons_zero, List.set_cons_succ, List.getElem_toArray, List.getElem_cons_zero, List.getElem_cons_succ])
                      refine wpAnyH_ready (rs := [9]) (by kernel_rfl) (by simp) ?_
                      refine AllReadyH.cons rfl (fun K hK => ?_) ?_
                      · obtain ⟨Wq, G9, c9, hkb, hDR, hn⟩ := conv_str Wq TW
                        go_simp
                        (try have SR := Hid.mk (SR.out.below hn))
                        (try have CB := Hid.mk (blk_below CB.out hn))
                        (try have CR := Hid.mk (CR.out.below hn))
                        (try have DR := Hid.mk (DR.out.below hn))
                        (try have HO := Hid.mk (own_bel' HO.out hn))
                        have HB := Hid.mk (below_then HB.out hn)
                        clear hn
                        have DR := Hid.mk hDR
                        clear hDR hkb
                        refine hK.out _ _ ?_ (fun hHeld => ?_)
                        · exact ⟨cell_keep HB.out CP1.out, cell_keep HB.out CT0.out, cell_keep HB.out CT1.out⟩
                        clear hK K
                        (try simp only [Act.put, List.setIfInBounds_toArray, List.set_cons_zero, List.set_cons_succ, List.getElem_toArray, List.getElem_cons_zero, List.getElem_cons_succ])
                        refine wpAnyH_ready (rs := [10]) (by kernel_rfl) (by simp) ?_
                        refine AllReadyH.cons rfl (fun K hK => ?_) ?_
                        · rw [if_pos (by rfl)]
                          refine wp_bytes _ _ rfl wc.heap.size _ _ rfl HO.out _ rfl TW DR.out HB.out.size (by simp only [List.length_append, List.length_cons, List.length_nil]; omega) ?_
                          intro v10 Wq h10 k10
                          (try have SN' := Hid.mk (SN.out.kb k10 SR.out))
                          (try have SR := Hid.mk (SR.out.kb k10 SN.out))
                          (try have SN := SN')
                          have HO := Hid.mk h10
                          have HB := Hid.mk (HB.out.trans k10.1)
                          clear h10 k10 DR
                          refine hK.out _ _ ?_ (fun hHeld => ?_)
                          · exact ⟨cell_keep HB.out CP1.out, cell_keep HB.out CT0.out, cell_keep HB.out CT1.out⟩
                          clear hK K
                          (try simp only [Act.put, List.setIfInBounds_toArray, List.set_cons_zero, List.set_cons_succ, List.getElem_toArray, List.getElem_cons_zero, List.getElem_cons_succ])
                          refine wpAnyH_ready (rs := [12]) (by kernel_rfl) (by simp) ?_
                          refine AllReadyH.cons rfl (fun K hK => ?_) ?_
                          · rw [if_pos (by rfl)]
                            refine wp_bytes _ _ rfl wc.heap.size _ _ rfl HO.out _ rfl [32] SR.out HB.out.size (by simp only [List.length_append, List.length_cons, List.length_nil]; omega) ?_
                            intro v12 Wq h12 k12
                            have HO := Hid.mk h12
                            have HB := Hid.mk (HB.out.trans k12.1)
                            clear h12 k12 SR SN
                            refine hK.out _ _ ?_ (fun hHeld => ?_)
                            · exact ⟨cell_keep HB.out CP1.out, cell_keep HB.out CT0.out, cell_keep HB.out CT1.out⟩
                            clear hK K
                            (try simp only [Act.put, List.setIfInBounds_toArray, List.set_cons_zero, List.set_cons_succ, List.getElem_toArray, List.getElem_cons_zero, List.getElem_cons_succ])
                            refine wpAnyH_ready (rs := [16]) (by kernel_rfl) (by simp) ?_
                            refine AllReadyH.cons rfl (fun K hK => ?_) ?_
                            · rw [if_pos (by rfl)]
                              refine wp_bytes _ _ rfl wc.heap.size _ _ rfl HO.out _ rfl T1 (HR1.out.below HB.out) HB.out.size (by simp only [List.length_append, List.length_cons, List.length_nil]; omega) ?_
                              intro v16 Wq h16 k16
                              have T2 := Hid.mk (own_rt h16 (by simp only [List.length_append, List.length_cons, List.length_nil]; omega))
                              obtain ⟨xg, xo, xc, hx, -, -⟩ := T2.out
                              obtain ⟨XL, hXL⟩ : ∃ XL, XL = (T0 ++ [32] ++ TW ++ [32] ++ T1).length := ⟨_, rfl⟩
                              rw [← hXL] at hx
                              subst hx
                              clear hXL
                              have HB := Hid.mk (HB.out.trans k16.1)
                              have U2 := Hid.mk (blk_below UV.out HB.out)
                              have R2 := Hid.mk (blk_below RV.out HB.out)
                              clear h16 k16 HO
                              refine hK.out _ _ ?_ (fun hHeld => ?_)
                              · exact ⟨cell_keep HB.out CP1.out, cell_keep HB.out CT0.out, cell_keep HB.out CT1.out⟩
                              clear hK K
                              (try simp only [Act.put, List.setIfInBounds_toArray, List.set_cons_zero, List.set_cons_succ, List.getElem_toArray, List.getElem_cons_zero, List.getElem_cons_succ])
                              refine wpAnyH_take (i := 17) (v := ?_) rfl (by kernel_rfl) (by kernel_rfl) (by kernel_rfl) (fun _ _ _ h => h) (Or.inl ⟨by rfl, ?_⟩) (by assumption) ?_
                              rotate_left
                              · intro w hSw; (try dsimp only at hSw); go_simp; (try with_reducible rfl)
                              rotate_left
                              simp only [Act.put, List.setIfInBounds_toArray, List.set_cons_zero, List.set_cons_succ, List.getElem_toArray, List.getElem_cons_zero, List.getElem_cons_succ]
                              refine wpAnyH_ready (rs := [18]) (by kernel_rfl) (by simp) ?_
                              refine AllReadyH.cons rfl (fun K hK => ?_) ?_
                              · have f2 := blk_unfrozen U2.out 2
                                have f0 := blk_cell U2.out 2
                                simp only [List.getElem?_toArray, List.getElem?_cons_zero, List.getElem?_cons_succ] at f0
                                go_simp
                                refine hK.out _ _ ?_ (fun hHeld => ?_)
                                · exact ⟨(blk_cell (blk_set_other (blk_below PV.out HB.out) (by show w.heap.size ≠ w1.heap.size; omega) _) 1).trans rfl, own_cells1 (row_set' (row_kept OV.out HB.out) U2.out (by decide)) 0 _ HU0.out, own_cells1 (row_set' (row_kept OV.out HB.out) U2.out (by decide)) 1 _ HU1.out⟩
                                clear hK K
                                (try simp only [Act.put, List.setIfInBounds_toArray, List.set_cons_zero, List.set_cons_succ, List.getElem_toArray, List.getElem_cons_zero, List.getElem_cons_succ])
                                refine wpAnyH_done (by kernel_rfl) ?_ _
                                go_wp2_with fail
                                go_meet
                                obtain ⟨a1, a2, a3, a4⟩ := putT (by rw [← hz]; exact hzw) U2.out R2.out T2.out (below_then BV.out HB.out)
                                exact ⟨xg, xo, _, xc, a1, a2, by unfold Hid; rw [TE.out]; exact a3, a4⟩
                              exact AllReadyH.nil
                            exact AllReadyH.nil
                          exact AllReadyH.nil
                        exact AllReadyH.nil
                      exact AllReadyH.nil
                    exact AllReadyH.nil
                  exact AllReadyH.nil
                exact AllReadyH.nil
              refine AllReadyH.cons rfl (fun K hK => ?_) ?_
              · go_simp
                obtain ⟨Wq, G11, hWq, hG11, hSB, hn⟩ := new_lit Wq
                rw [← hWq, ← hG11]
                (try have SN := Hid.mk (show Apart _ (.slice (some ⟨G11, 0, none⟩) 1 1) by rw [hG11]; exact apart_u HO.out 1 1))
                (try have SR := Hid.mk (SR.out.below hn))
                (try have CB := Hid.mk (blk_below CB.out hn))
                (try have CR := Hid.mk (CR.out.below hn))
                (try have DR := Hid.mk (DR.out.below hn))
                (try have HO := Hid.mk (own_bel' HO.out hn))
                have HB := Hid.mk (below_then HB.out hn)
                clear hn
                have SR := Hid.mk (lit_rt [32] 1 _ _ rfl hSB)
                clear hSB hWq hG11
                refine hK.out _ _ ?_ (fun hHeld => ?_)
                · exact ⟨cell_keep HB.out CP1.out, cell_keep HB.out CT0.out, cell_keep HB.out CT1.out⟩
                clear hK K
                (try simp only [Act.put, List.setIfInBounds_toArray, List.set_cons_zero, List.set_cons_succ, List.getElem_toArray, List.getElem_cons_zero, List.getElem_cons_succ])
                refine wpAnyH_ready (rs := [4]) (by kernel_rfl) (by simp) ?_
                refine AllReadyH.cons rfl (fun K hK => ?_) ?_
                · obtain ⟨Wq, hcv, hCR, hHB, hRk⟩ := conv_lit HB.out CG.out CB.out
                  go_simp
                  (try have SR := Hid.mk (hRk _ _ SR.out))
                  have CR := Hid.mk hCR
                  have HB := Hid.mk hHB
                  clear hcv hCR hHB hRk CB CG
                  refine hK.out _ _ ?_ (fun hHeld => ?_)
                  · exact ⟨cell_keep HB.out CP1.out, cell_keep HB.out CT0.out, cell_keep HB.out CT1.out⟩
                  clear hK K
                  (try simp only [Act.put, List.setIfInBounds_toArray, List.set_cons_zero, List.set_cons_succ, List.getElem_toArray, List.getElem_cons_zero, List.getElem_cons_succ])
                  refine wpAnyH_ready (rs := [5]) (by kernel_rfl) (by simp) ?_
                  refine AllReadyH.cons rfl (fun K hK => ?_) ?_
                  · go_simp
                    refine (catR T0 [32] _ _ _ (HR0.out.below HB.out) CR.out (by omega) (by simp)).mono ?_
                    rintro e w5 ⟨v5, rfl, h5, hn⟩
                    (try have SN := Hid.mk (apart_v h5 SR.out (Nat.le_refl _)))
                    obtain ⟨Wq, hWq⟩ : ∃ X : World, X = w5 := ⟨_, rfl⟩
                    rw [← hWq] at h5 hn ⊢
                    clear CR
                    have HO' := Hid.mk (own_up h5 HB.out.size)
                    (try have SR := Hid.mk (SR.out.below hn))
                    (try have CB := Hid.mk (blk_below CB.out hn))
                    (try have CR := Hid.mk (CR.out.below hn))
                    (try have DR := Hid.mk (DR.out.below hn))
                    (try have HO := Hid.mk (own_bel' HO.out hn))
                    have HB := Hid.mk (below_then HB.out hn)
                    clear hn
                    have HO := HO'
                    clear h5 HO' hWq
                    refine hK.out _ _ ?_ (fun hHeld => ?_)
                    · exact ⟨cell_keep HB.out CP1.out, cell_keep HB.out CT0.out, cell_keep HB.out CT1.out⟩
                    clear hK K
                    (try simp only [Act.put, List.setIfInBounds_toArray, List.set_cons_zero, List.set_cons_succ, List.getElem_toArray, List.getElem_cons_zero, List.getElem_cons_succ])
                    refine wpAnyH_ready (rs := [8]) (by kernel_rfl) (by simp) ?_
                    refine AllReadyH.cons rfl (fun K hK => ?_) ?_
                    · go_simp
                      refine (binTS o.v _ v0 v7).mono ?_
                      rintro e w8 ⟨rfl, hw8⟩
                      rw [hw8, ← HTW.out]
                      clear hw8
                      refine hK.out _ _ ?_ (fun hHeld => ?_)
                      · exact ⟨cell_keep HB.out CP1.out, cell_keep HB.out CT0.out, cell_keep HB.out CT1.out⟩
                      clear hK K
                      (try simp only [Act.put, List.setIfInBounds_toArray, List.set_cons_zero, List.set_cons_succ, List.getElem_toArray, List.getElem_cons_zero, List.getElem_cons_succ])
                      refine wpAnyH_ready (rs := [9]) (by kernel_rfl) (by simp) ?_
                      refine AllReadyH.cons rfl (fun K hK => ?_) ?_
                      · obtain ⟨Wq, G9, c9, hkb, hDR, hn⟩ := conv_str Wq TW
                        go_simp
                        (try have SR := Hid.mk (SR.out.below hn))
                        (try have CB := Hid.mk (blk_below CB.out hn))
                        (try have CR := Hid.mk (CR.out.below hn))
                        (try have DR := Hid.mk (DR.out.below hn))
                        (try have HO := Hid.mk (own_bel' HO.out hn))
                        have HB := Hid.mk (below_then HB.out hn)
                        clear hn
                        have DR := Hid.mk hDR
                        clear hDR hkb
                        refine hK.out _ _ ?_ (fun hHeld => ?_)
                        · exact ⟨cell_keep HB.out CP1.out, cell_keep HB.out CT0.out, cell_keep HB.out CT1.out⟩
                        clear hK K
                        (try simp only [Act.put, List.setIfInBounds_toArray, List.set_cons_zero, List.set_cons_succ, List.getElem_toArray, List.getElem_cons_zero, List.getElem_cons_succ])
                        refine wpAnyH_ready (rs := [10]) (by kernel_rfl) (by simp) ?_
                        refine AllReadyH.cons rfl (fun K hK => ?_) ?_
                        · rw [if_pos (by rfl)]
                          refine wp_bytes _ _ rfl wc.heap.size _ _ rfl HO.out _ rfl TW DR.out HB.out.size (by simp only [List.length_append, List.length_cons, List.length_nil]; omega) ?_
                          intro v10 Wq h10 k10
                          (try have SN' := Hid.mk (SN.out.kb k10 SR.out))
                          (try have SR := Hid.mk (SR.out.kb k10 SN.out))
                          (try have SN := SN')
                          have HO := Hid.mk h10
                          have HB := Hid.mk (HB.out.trans k10.1)
                          clear h10 k10 DR
                          refine hK.out _ _ ?_ (fun hHeld => ?_)
                          · exact ⟨cell_keep HB.out CP1.out, cell_keep HB.out CT0.out, cell_keep HB.out CT1.out⟩
                          clear hK K
                          (try simp only [Act.put, List.setIfInBounds_toArray, List.set_cons_zero, List.set_cons_succ, List.getElem_toArray, List.getElem_cons_zero, List.getElem_cons_succ])
                          refine wpAnyH_ready (rs := [12]) (by kernel_rfl) (by simp) ?_
                          refine AllReadyH.cons rfl (fun K hK => ?_) ?_
                          · rw [if_pos (by rfl)]
                            refine wp_bytes _ _ rfl wc.heap.size _ _ rfl HO.out _ rfl [32] SR.out HB.out.size (by simp only [List.length_append, List.length_cons, List.length_nil]; omega) ?_
                            intro v12 Wq h12 k12
                            have HO := Hid.mk h12
                            have HB := Hid.mk (HB.out.trans k12.1)
                            clear h12 k12 SR SN
                            refine hK.out _ _ ?_ (fun hHeld => ?_)
                            · exact ⟨cell_keep HB.out CP1.out, cell_keep HB.out CT0.out, cell_keep HB.out CT1.out⟩
                            clear hK K
                            (try simp only [Act.put, List.setIfInBounds_toArray, List.set_cons_zero, List.set_cons_succ, List.getElem_toArray, List.getElem_cons_zero, List.getElem_cons_succ])
                            refine wpAnyH_ready (rs := [16]) (by kernel_rfl) (by simp) ?_
                            refine AllReadyH.cons rfl (fun K hK => ?_) ?_
                            · rw [if_pos (by rfl)]
                              refine wp_bytes _ _ rfl wc.heap.size _ _ rfl HO.out _ rfl T1 (HR1.out.below HB.out) HB.out.size (by simp only [List.length_append, List.length_cons, List.length_nil]; omega) ?_
                              intro v16 Wq h16 k16
                              have T2 := Hid.mk (own_rt h16 (by simp only [List.length_append, List.length_cons, List.length_nil]; omega))
                              obtain ⟨xg, xo, xc, hx, -, -⟩ := T2.out
                              obtain ⟨XL, hXL⟩ : ∃ XL, XL = (T0 ++ [32] ++ TW ++ [32] ++ T1).length := ⟨_, rfl⟩
                              rw [← hXL] at hx
                              subst hx
                              clear hXL
                              have HB := Hid.mk (HB.out.trans k16.1)
                              have U2 := Hid.mk (blk_below UV.out HB.out)
                              have R2 := Hid.mk (blk_below RV.out HB.out)
                              clear h16 k16 HO
                              refine hK.out _ _ ?_ (fun hHeld => ?_)
                              · exact ⟨cell_keep HB.out CP1.out, cell_keep HB.out CT0.out, cell_keep HB.out CT1.out⟩
                              clear hK K
                              (try simp only [Act.put, List.setIfInBounds_toArray, List.set_cons_zero, List.set_cons_succ, List.getElem_toArray, List.getElem_cons_zero, List.getElem_cons_succ])
                              refine wpAnyH_take (i := 17) (v := ?_) rfl (by kernel_rfl) (by kernel_rfl) (by kernel_rfl) (fun _ _ _ h => h) (Or.inl ⟨by rfl, ?_⟩) (by assumption) ?_
                              rotate_left
                              · intro w hSw; (try dsimp only at hSw); go_simp; (try with_reducible rfl)
                              rotate_left
                              simp only [Act.put, List.setIfInBounds_toArray, List.set_cons_zero, List.set_cons_succ, List.getElem_toArray, List.getElem_cons_zero, List.getElem_cons_succ]
                              refine wpAnyH_ready (rs := [18]) (by kernel_rfl) (by simp) ?_
                              refine AllReadyH.cons rfl (fun K hK => ?_) ?_
                              · have f2 := blk_unfrozen U2.out 2
                                have f0 := blk_cell U2.out 2
                                simp only [List.getElem?_toArray, List.getElem?_cons_zero, List.getElem?_cons_succ] at f0
                                go_simp
                                refine hK.out _ _ ?_ (fun hHeld => ?_)
                                · exact ⟨(blk_cell (blk_set_other (blk_below PV.out HB.out) (by show w.heap.size ≠ w1.heap.size; omega) _) 1).trans rfl, own_cells1 (row_set' (row_kept OV.out HB.out) U2.out (by decide)) 0 _ HU0.out, own_cells1 (row_set' (row_kept OV.out HB.out) U2.out (by decide)) 1 _ HU1.out⟩
                                clear hK K
                                (try simp only [Act.put, List.setIfInBounds_toArray, List.set_cons_zero, List.set_cons_succ, List.getElem_toArray, List.getElem_cons_zero, List.getElem_cons_succ])
                                refine wpAnyH_done (by kernel_rfl) ?_ _
                                go_wp2_with fail
                                go_meet
                                obtain ⟨a1, a2, a3, a4⟩ := putT (by rw [← hz]; exact hzw) U2.out R2.out T2.out (below_then BV.out HB.out)
                                exact ⟨xg, xo, _, xc, a1, a2, by unfold Hid; rw [TE.out]; exact a3, a4⟩
                              exact AllReadyH.nil
                            exact AllReadyH.nil
                          exact AllReadyH.nil
                        exact AllReadyH.nil
                      exact AllReadyH.nil
                    exact AllReadyH.nil
                  exact AllReadyH.nil
                exact AllReadyH.nil
              exact AllReadyH.nil
            refine AllReadyH.cons rfl (fun K hK => ?_) ?_
            · go_simp
              obtain ⟨Wq, G11, hWq, hG11, hSB, hn⟩ := new_lit Wq
              rw [← hWq, ← hG11]
              (try have SN := Hid.mk (show Apart _ (.slice (some ⟨G11, 0, none⟩) 1 1) by rw [hG11]; exact apart_u HO.out 1 1))
              (try have SR := Hid.mk (SR.out.below hn))
              (try have CB := Hid.mk (blk_below CB.out hn))
              (try have CR := Hid.mk (CR.out.below hn))
              (try have DR := Hid.mk (DR.out.below hn))
              (try have HO := Hid.mk (own_bel' HO.out hn))
              have HB := Hid.mk (below_then HB.out hn)
              clear hn
              have SR := Hid.mk (lit_rt [32] 1 _ _ rfl hSB)
              clear hSB hWq hG11
              refine hK.out _ _ ?_ (fun hHeld => ?_)
              · exact ⟨cell_keep HB.out CP1.out, cell_keep HB.out CT0.out, cell_keep HB.out CT1.out⟩
              clear hK K
              (try simp only [Act.put, List.setIfInBounds_toArray, List.set_cons_zero, List.set_cons_succ, List.getElem_toArray, List.getElem_cons_zero, List.getElem_cons_succ])
              refine wpAnyH_ready (rs := [3]) (by kernel_rfl) (by simp) ?_
              refine AllReadyH.cons rfl (fun K hK => ?_) ?_
              · go_simp
                obtain ⟨Wq, G3, hWq, hG3, hCB, hn⟩ := new_lit Wq
                rw [← hWq, ← hG3]
                have CG := Hid.mk (show wc.heap.size ≤ G3 by rw [hG3]; exact HB.out.size)
                (try have SR := Hid.mk (SR.out.below hn))
                (try have CB := Hid.mk (blk_below CB.out hn))
                (try have CR := Hid.mk (CR.out.below hn))
                (try have DR := Hid.mk (DR.out.below hn))
                (try have HO := Hid.mk (own_bel' HO.out hn))
                have HB := Hid.mk (below_then HB.out hn)
                clear hn
                have CB := Hid.mk hCB
                clear hCB hWq hG3
                refine hK.out _ _ ?_ (fun hHeld => ?_)
                · exact ⟨cell_keep HB.out CP1.out, cell_keep HB.out CT0.out, cell_keep HB.out CT1.out⟩
                clear hK K
                (try simp only [Act.put, List.setIfInBounds_toArray, List.set_cons_zero, List.set_cons_succ, List.getElem_toArray, List.getElem_cons_zero, List.getElem_cons_succ])
                refine wpAnyH_ready (rs := [4]) (by kernel_rfl) (by simp) ?_
                refine AllReadyH.cons rfl (fun K hK => ?_) ?_
                · obtain ⟨Wq, hcv, hCR, hHB, hRk⟩ := conv_lit HB.out CG.out CB.out
                  go_simp
                  (try have SR := Hid.mk (hRk _ _ SR.out))
                  have CR := Hid.mk hCR
                  have HB := Hid.mk hHB
                  clear hcv hCR hHB hRk CB CG
                  refine hK.out _ _ ?_ (fun hHeld => ?_)
                  · exact ⟨cell_keep HB.out CP1.out, cell_keep HB.out CT0.out, cell_keep HB.out CT1.out⟩
                  clear hK K
                  (try simp only [Act.put, List.setIfInBounds_toArray, List.set_cons_zero, List.set_cons_succ, List.getElem_toArray, List.getElem_cons_zero, List.getElem_cons_succ])
                  refine wpAnyH_ready (rs := [5]) (by kernel_rfl) (by simp) ?_
                  refine AllReadyH.cons rfl (fun K hK => ?_) ?_
                  · go_simp
                    refine (catR T0 [32] _ _ _ (HR0.out.below HB.out) CR.out (by omega) (by simp)).mono ?_
                    rintro e w5 ⟨v5, rfl, h5, hn⟩
                    (try have SN := Hid.mk (apart_v h5 SR.out (Nat.le_refl _)))
                    obtain ⟨Wq, hWq⟩ : ∃ X : World, X = w5 := ⟨_, rfl⟩
                    rw [← hWq] at h5 hn ⊢
                    clear CR
                    have HO' := Hid.mk (own_up h5 HB.out.size)
                    (try have SR := Hid.mk (SR.out.below hn))
                    (try have CB := Hid.mk (blk_below CB.out hn))
                    (try have CR := Hid.mk (CR.out.below hn))
                    (try have DR := Hid.mk (DR.out.below hn))
                    (try have HO := Hid.mk (own_bel' HO.out hn))
                    have HB := Hid.mk (below_then HB.out hn)
                    clear hn
                    have HO := HO'
                    clear h5 HO' hWq
                    refine hK.out _ _ ?_ (fun hHeld => ?_)
                    · exact ⟨cell_keep HB.out CP1.out, cell_keep HB.out CT0.out, cell_keep HB.out CT1.out⟩
                    clear hK K
                    (try simp only [Act.put, List.setIfInBounds_toArray, List.set_cons_zero, List.set_cons_succ, List.getElem_toArray, List.getElem_cons_zero, List.getElem_cons_succ])
                    refine wpAnyH_ready (rs := [8]) (by kernel_rfl) (by simp) ?_
                    refine AllReadyH.cons rfl (fun K hK => ?_) ?_
                    · go_simp
                      refine (binTS o.v _ v0 v7).mono ?_
                      rintro e w8 ⟨rfl, hw8⟩
                      rw [hw8, ← HTW.out]
                      clear hw8
                      refine hK.out _ _ ?_ (fun hHeld => ?_)
                      · exact ⟨cell_keep HB.out CP1.out, cell_keep HB.out CT0.out, cell_keep HB.out CT1.out⟩
                      clear hK K
                      (try simp only [Act.put, List.setIfInBounds_toArray, List.set_cons_zero, List.set_cons_succ, List.getElem_toArray, List.getElem_cons_zero, List.getElem_cons_succ])
                      refine wpAnyH_ready (rs := [9]) (by kernel_rfl) (by simp) ?_
                      refine AllReadyH.cons rfl (fun K hK => ?_) ?_
                      · obtain ⟨Wq, G9, c9, hkb, hDR, hn⟩ := conv_str Wq TW
                        go_simp
                        (try have SR := Hid.mk (SR.out.below hn))
                        (try have CB := Hid.mk (blk_below CB.out hn))
                        (try have CR := Hid.mk (CR.out.below hn))
                        (try have DR := Hid.mk (DR.out.below hn))
                        (try have HO := Hid.mk (own_bel' HO.out hn))
                        have HB := Hid.mk (below_then HB.out hn)
                        clear hn
                        have DR := Hid.mk hDR
                        clear hDR hkb
                        refine hK.out _ _ ?_ (fun hHeld => ?_)
                        · exact ⟨cell_keep HB.out CP1.out, cell_keep HB.out CT0.out, cell_keep HB.out CT1.out⟩
                        clear hK K
                        (try simp only [Act.put, List.setIfInBounds_toArray, List.set_cons_zero, List.set_cons_succ, List.getElem_toArray, List.getElem_cons_zero, List.getElem_cons_succ])
                        refine wpAnyH_ready (rs := [10]) (by kernel_rfl) (by simp) ?_
                        refine AllReadyH.cons rfl (fun K hK => ?_) ?_
                        · rw [if_pos (by rfl)]
                          refine wp_bytes _ _ rfl wc.heap.size _ _ rfl HO.out _ rfl TW DR.out HB.out.size (by simp only [List.length_append, List.length_cons, List.length_nil]; omega) ?_
                          intro v10 Wq h10 k10
                          (try have SN' := Hid.mk (SN.out.kb k10 SR.out))
                          (try have SR := Hid.mk (SR.out.kb k10 SN.out))
                          (try have SN := SN')
                          have HO := Hid.mk h10
                          have HB := Hid.mk (HB.out.trans k10.1)
                          clear h10 k10 DR
                          refine hK.out _ _ ?_ (fun hHeld => ?_)
                          · exact ⟨cell_keep HB.out CP1.out, cell_keep HB.out CT0.out, cell_keep HB.out CT1.out⟩
                          clear hK K
                          (try simp only [Act.put, List.setIfInBounds_toArray, List.set_cons_zero, List.set_cons_succ, List.getElem_toArray, List.getElem_cons_zero, List.getElem_cons_succ])
                          refine wpAnyH_ready (rs := [12]) (by kernel_rfl) (by simp) ?_
                          refine AllReadyH.cons rfl (fun K hK => ?_) ?_
                          · rw [if_pos (by rfl)]
                            refine wp_bytes _ _ rfl wc.heap.size _ _ rfl HO.out _ rfl [32] SR.out HB.out.size (by simp only [List.length_append, List.length_cons, List.length_nil]; omega) ?_
                            intro v12 Wq h12 k12
                            have HO := Hid.mk h12
                            have HB := Hid.mk (HB.out.trans k12.1)
                            clear h12 k12 SR SN
                            refine hK.out _ _ ?_ (fun hHeld => ?_)
                            · exact ⟨cell_keep HB.out CP1.out, cell_keep HB.out CT0.out, cell_keep HB.out CT1.out⟩
                            clear hK K
                            (try simp only [Act.put, List.setIfInBounds_toArray, List.set_cons_zero, List.set_cons_succ, List.getElem_toArray, List.getElem_cons_zero, List.getElem_cons_succ])
                            refine wpAnyH_ready (rs := [16]) (by kernel_rfl) (by simp) ?_
                            refine AllReadyH.cons rfl (fun K hK => ?_) ?_
                            · rw [if_pos (by rfl)]
                              refine wp_bytes _ _ rfl wc.heap.size _ _ rfl HO.out _ rfl T1 (HR1.out.below HB.out) HB.out.size (by simp only [List.length_append, List.length_cons, List.length_nil]; omega) ?_
                              intro v16 Wq h16 k16
                              have T2 := Hid.mk (own_rt h16 (by simp only [List.length_append, List.length_cons, List.length_nil]; omega))
                              obtain ⟨xg, xo, xc, hx, -, -⟩ := T2.out
                              obtain ⟨XL, hXL⟩ : ∃ XL, XL = (T0 ++ [32] ++ TW ++ [32] ++ T1).length := ⟨_, rfl⟩
                              rw [← hXL] at hx
                              subst hx
                              clear hXL
                              have HB := Hid.mk (HB.out.trans k16.1)
                              have U2 := Hid.mk (blk_below UV.out HB.out)
                              have R2 := Hid.mk (blk_below RV.out HB.out)
                              clear h16 k16 HO
                              refine hK.out _ _ ?_ (fun hHeld => ?_)
                              · exact ⟨cell_keep HB.out CP1.out, cell_keep HB.out CT0.out, cell_keep HB.out CT1.out⟩
                              clear hK K
                              (try simp only [Act.put, List.setIfInBounds_toArray, List.set_cons_zero, List.set_cons_succ, List.getElem_toArray, List.getElem_cons_zero, List.getElem_cons_succ])
                              refine wpAnyH_take (i := 17) (v := ?_) rfl (by kernel_rfl) (by kernel_rfl) (by kernel_rfl) (fun _ _ _ h => h) (Or.inl ⟨by rfl, ?_⟩) (by assumption) ?_
                              rotate_left
                              · intro w hSw; (try dsimp only at hSw); go_simp; (try with_reducible rfl)
                              rotate_left
                              simp only [Act.put, List.setIfInBounds_toArray, List.set_cons_zero, List.set_cons_succ, List.getElem_toArray, List.getElem_cons_zero, List.getElem_cons_succ]
                              refine wpAnyH_ready (rs := [18]) (by kernel_rfl) (by simp) ?_
                              refine AllReadyH.cons rfl (fun K hK => ?_) ?_
                              · have f2 := blk_unfrozen U2.out 2
                                have f0 := blk_cell U2.out 2
                                simp only [List.getElem?_toArray, List.getElem?_cons_zero, List.getElem?_cons_succ] at f0
                                go_simp
                                refine hK.out _ _ ?_ (fun hHeld => ?_)
                                · exact ⟨(blk_cell (blk_set_other (blk_below PV.out HB.out) (by show w.heap.size ≠ w1.heap.size; omega) _) 1).trans rfl, own_cells1 (row_set' (row_kept OV.out HB.out) U2.out (by decide)) 0 _ HU0.out, own_cells1 (row_set' (row_kept OV.out HB.out) U2.out (by decide)) 1 _ HU1.out⟩
                                clear hK K
                                (try simp only [Act.put, List.setIfInBounds_toArray, List.set_cons_zero, List.set_cons_succ, List.getElem_toArray, List.getElem_cons_zero, List.getElem_cons_succ])
                                refine wpAnyH_done (by kernel_rfl) ?_ _
                                go_wp2_with fail
                                go_meet
                                obtain ⟨a1, a2, a3, a4⟩ := putT (by rw [← hz]; exact hzw) U2.out R2.out T2.out (below_then BV.out HB.out)
                                exact ⟨xg, xo, _, xc, a1, a2, by unfold Hid; rw [TE.out]; exact a3, a4⟩
                              exact AllReadyH.nil
                            exact AllReadyH.nil
                          exact AllReadyH.nil
                        exact AllReadyH.nil
                      exact AllReadyH.nil
                    exact AllReadyH.nil
                  exact AllReadyH.nil
                exact AllReadyH.nil
              exact AllReadyH.nil
            exact AllReadyH.nil
          · have q7 : (o.k == 7) = false := by simp [e10]
            have q8 : (o.k == 8) = false := by simp [e10]
            have q9 : (o.k == 9) = false := by simp [e10]
            have hq : (o.v = 0 ∧ j = 2) ∨ (o.v = 1 ∧ j = 2) ∨ (o.v = 2 ∧ j = 3) := by omega
            clear hvN
            rcases hq with ⟨hv, hj⟩ | ⟨hv, hj⟩ | ⟨hv, hj⟩
            · have q1 : (o.v == 1) = false := by simp [hv]
              have q2 : (o.v == 2) = false := by simp [hv]
              have TE : Hid (apT o ts = cT [109, 105, 110, 40] o ts 1 ++ [41]) := by unfold Hid apT; rw [if_neg (by omega), if_neg (by omega), if_neg (by omega), hv]; simp [cT, twAt, tw]
              have b0 : (0 : Int) < (j : Int) := by omega
              have HJ := Hid.mk hj
              have hj3 : j ≤ 3 := by omega
              clear hv hj e10
              obtain ⟨Wn, G, cG, hkb, hDR, hn⟩ := conv_str wc [109, 105, 110, 40]
              have HDR := Hid.mk hDR
              have Hn := Hid.mk hn
              have tf := cell_keep hn t0
              clear hDR hn
              go_wp2_with fail
              clear p0 p1 tf t0 hkb
              refine (catR [109, 105, 110, 40] T0 _ _ _ HDR.out (HR0.out.below Hn.out) (by simp) (by omega)).mono ?_
              rintro e w3 ⟨v3, rfl, h3, hb3⟩
              have HB := Hid.mk (below_then Hn.out hb3)
              have HO := Hid.mk (own_up h3 Hn.out.size)
              rw [HT0.out] at HO
              clear h3 hb3 HDR Hn
              go_wp2_with fail
              go_loopw [13, 14] (fun bv i wx => ∃ m : Nat, 1 ≤ m ∧ m ≤ j ∧ i = .int .i64 (m : Int) ∧ Hid (Own wc.heap.size wx bv (cT [109, 105, 110, 40] o ts (m - 1))) ∧ Hid (Below wc.heap.size wc wx)) (fun _ i _ => j - (intOf i).toNat)
              case atStart => exact ⟨1, Nat.le_refl _, n0, rfl, HO, HB⟩
              case round =>
                clear HO HB
                obtain ⟨m, hm1, hmj, rfl, HO, HB⟩ := hrel
                have hcl2 := cT_len3 [109, 105, 110, 40] o ts m (by decide) hm1 (Nat.le_trans hmj hj3) (fun i hi => HTL.out i (by omega))
                obtain ⟨CTm, hCT⟩ : ∃ C, C = cT [109, 105, 110, 40] o ts (m - 1) := ⟨_, rfl⟩
                rw [← hCT] at HO hcl2
                by_cases hlt : m < j
                · obtain ⟨uk, huk, Rk⟩ := YV.out m hlt
                  have tk := own_cells1 OV.out m uk huk
                  have hlk := pt_len o ts m (HTL.out m hlt)
                  have HCT : Hid (cT [109, 105, 110, 40] o ts (m + 1 - 1) = CTm ++ [44, 32] ++ pt o ts m) := by
                    unfold Hid
                    obtain ⟨q, rfl⟩ : ∃ q, m = q + 1 := ⟨m - 1, by omega⟩
                    rw [hCT]
                    rfl
                  obtain ⟨TK, hTK⟩ : ∃ TK, TK = pt o ts m := ⟨_, rfl⟩
                  rw [← hTK] at Rk hlk HCT
                  have RK := Hid.mk Rk
                  obtain ⟨gk, ok, ck, hvk, -, -⟩ := Rk
                  rw [hvk] at tk RK
                  have CK := Hid.mk tk
                  clear hvk hTK huk hCT
                  have k0 : (0 : Int) ≤ (m : Int) := by omega
                  have k1 : (m : Int) < (j : Int) := by omega
                  go_upto_region 37 with fail
                  clear tk
                  obtain ⟨Wq, hWq, HB, HO⟩ : ∃ X : World, X = wr.drew ∧ Hid (Below wc.heap.size wc X) ∧ Hid (Own wc.heap.size X _ CTm) := ⟨_, rfl, HB.out.drew, own_bel' HO.out (Below.refl _ _).drew⟩
                  refine wp_region_held_drew (S := (fun w' => w'.cell? ⟨g, m, none⟩ = some (.slice (some ⟨gk, ok, none⟩) TK.length ck))) (by kernel_rfl) ?_ (fun hHeld => ?_)
                  · rw [← hWq]; exact cell_keep HB.out CK.out
                  rw [← hWq] at hHeld ⊢
                  clear hWq
                  refine wpAnyH_take (i := 0) (v := ?_) rfl (by kernel_rfl) (by kernel_rfl) (by kernel_rfl) (fun _ _ _ h => h) (Or.inl ⟨by rfl, ?_⟩) (by assumption) ?_
                  rotate_left
                  · intro w hSw; (try dsimp only at hSw); go_simp; (try with_reducible rfl)
                  rotate_left
                  simp only [Act.put, List.setIfInBounds_toArray, List.set_cons_zero, List.set_cons_succ, List.getElem_toArray, List.getElem_cons_zero, List.getElem_cons_succ]
                  refine wpAnyH_take (i := 3) (v := ?_) rfl (by kernel_rfl) (by kernel_rfl) (by kernel_rfl) (fun _ _ _ h => h) (Or.inl ⟨by rfl, ?_⟩) (by assumption) ?_
                  rotate_left
                  · intro w hSw; (try dsimp only at hSw); go_simp; (try with_reducible rfl)
                  rotate_left
                  simp only [Act.put, List.setIfInBounds_toArray, List.set_cons_zero, List.set_cons_succ, List.getElem_toArray, List.getElem_cons_zero, List.getElem_cons_succ]
                  refine wpAnyH_take (i := 4) (v := ?_) rfl (by kernel_rfl) (by kernel_rfl) (by kernel_rfl) (fun _ _ _ h => h) (Or.inl ⟨by rfl, ?_⟩) (by assumption) ?_
                  rotate_left
                  · intro w hSw; (try dsimp only at hSw); go_simp; (try with_reducible rfl)
                  rotate_left
                  simp only [Act.put, List.setIfInBounds_toArray, List.set_cons_zero, List.set_cons_succ, List.getElem_toArray, List.getElem_cons_zero, List.getElem_cons_succ]
                  refine wpAnyH_take (i := 5) (v := ?_) rfl (by kernel_rfl) (by kernel_rfl) (by kernel_rfl) (fun _ _ _ h => h) (Or.inl ⟨by rfl, ?_⟩) (by assumption) ?_
                  rotate_left
                  · intro w hSw; (try dsimp only at hSw); go_simp; (try with_reducible rfl)
                  rotate_left
                  simp only [Act.put, List.setIfInBounds_toArray, List.set_cons_zero, List.set_cons_succ, List.getElem_toArray, List.getElem_cons_zero, List.getElem_cons_succ]
                  refine wpAnyH_take (i := 6) (v := ?_) rfl (by kernel_rfl) (by kernel_rfl) (by kernel_rfl) (fun _ _ _ h => h) (Or.inl ⟨by rfl, ?_⟩) (by assumption) ?_
                  rotate_left
                  · intro w hSw; (try dsimp only at hSw); go_simp; (try with_reducible rfl)
                  rotate_left
                  simp only [Act.put, List.setIfInBounds_toArray, List.set_cons_zero, List.set_cons_succ, List.getElem_toArray, List.getElem_cons_zero, List.getElem_cons_succ]
                  refine wpAnyH_ready (rs := [1]) (by kernel_rfl) (by simp) ?_
                  refine AllReadyH.cons rfl (fun K hK => ?_) ?_
                  · go_simp
                    obtain ⟨Wq, G3, hWq, hG3, hCB, hn⟩ := new_lit2 Wq
                    rw [← hWq, ← hG3]
                    have HO := Hid.mk (own_bel' HO.out hn)
                    have HB := Hid.mk (below_then HB.out hn)
                    clear hn
                    have SR := Hid.mk (lit_rt [44, 32] 2 _ _ rfl hCB)
                    clear hCB hWq hG3
                    refine hK.out _ _ ?_ (fun hHeld => ?_)
                    · exact cell_keep HB.out CK.out
                    clear hK K
                    (try simp only [Act.put, List.setIfInBounds_toArray, List.set_cons_zero, List.set_cons_succ, List.getElem_toArray, List.getElem_cons_zero, List.getElem_cons_succ])
                    refine wpAnyH_ready (rs := [2]) (by kernel_rfl) (by simp) ?_
                    refine AllReadyH.cons rfl (fun K hK => ?_) ?_
                    · rw [if_pos (by rfl)]
                      refine wp_bytes _ _ rfl wc.heap.size _ _ rfl HO.out _ rfl [44, 32] SR.out HB.out.size (by simp only [List.length_append, List.length_cons, List.length_nil]; omega) ?_
                      intro v10 Wq h10 k10
                      have HO := Hid.mk h10
                      have HB := Hid.mk (HB.out.trans k10.1)
                      clear h10 k10 SR
                      refine hK.out _ _ ?_ (fun hHeld => ?_)
                      · exact cell_keep HB.out CK.out
                      clear hK K
                      (try simp only [Act.put, List.setIfInBounds_toArray, List.set_cons_zero, List.set_cons_succ, List.getElem_toArray, List.getElem_cons_zero, List.getElem_cons_succ])
                      refine wpAnyH_ready (rs := [7]) (by kernel_rfl) (by simp) ?_
                      refine AllReadyH.cons rfl (fun K hK => ?_) ?_
                      · rw [if_pos (by rfl)]
                        refine wp_bytes _ _ rfl wc.heap.size _ _ rfl HO.out _ rfl TK (RK.out.below HB.out) HB.out.size (by simp only [List.length_append, List.length_cons, List.length_nil]; omega) ?_
                        intro v16 Wq h16 k16
                        have HO := Hid.mk h16
                        have HB := Hid.mk (HB.out.trans k16.1)
                        clear h16 k16
                        refine hK.out _ _ ?_ (fun hHeld => ?_)
                        · exact cell_keep HB.out CK.out
                        clear hK K
                        (try simp only [Act.put, List.setIfInBounds_toArray, List.set_cons_zero, List.set_cons_succ, List.getElem_toArray, List.getElem_cons_zero, List.getElem_cons_succ])
                        refine wpAnyH_take (i := 8) (v := ?_) rfl (by kernel_rfl) (by kernel_rfl) (by kernel_rfl) (fun _ _ _ h => h) (Or.inl ⟨by rfl, ?_⟩) (by assumption) ?_
                        rotate_left
                        · intro w hSw; (try dsimp only at hSw); go_simp; (try with_reducible rfl)
                        rotate_left
                        simp only [Act.put, List.setIfInBounds_toArray, List.set_cons_zero, List.set_cons_succ, List.getElem_toArray, List.getElem_cons_zero, List.getElem_cons_succ]
                        refine wpAnyH_done (by kernel_rfl) ?_ _
                        go_wp2
                        exact ⟨⟨m + 1, by omega, by omega, by go_num, by unfold Hid; rw [HCT.out]; exact HO.out, HB⟩, by simp [intOf]; omega⟩
                      exact AllReadyH.nil
                    exact AllReadyH.nil
                  exact AllReadyH.nil
                · have k1 : decide ((m : Int) < (j : Int)) = false := by simp; omega
                  have HE : Hid (apT o ts = CTm ++ [41]) := by
                    unfold Hid
                    rw [TE.out, hCT, show m - 1 = 1 by have := HJ.out; omega]
                  clear hCT
                  have hsz : wc.heap.size ≤ wr.heap.size + 1 := Nat.le_succ_of_le HB.out.size
                  go_wp2_with (at_builtin; refine wpList_byte rfl _ _ rfl wc.heap.size _ CTm rfl (own_bel' HO.out (below_alloc' (Below.refl _ _) _)) _ _ rfl 41 (blk_cell (blk_new _ _) 0) (by rw [World.size_alloc]; exact hsz) (Nat.le_trans hcl2 (by decide)) ?_)
                  intro v4 w4 h4 k4
                  have T2 := Hid.mk (own_rt h4 (by simp only [List.length_append, List.length_cons, List.length_nil]; omega))
                  obtain ⟨xg, xo, xc, hx, -, -⟩ := T2.out
                  obtain ⟨XL, hXL⟩ : ∃ XL, XL = (CTm ++ [41]).length := ⟨_, rfl⟩
                  rw [← hXL] at hx
                  subst hx
                  clear hXL
                  have HB := Hid.mk ((below_alloc' HB.out _).trans k4.1)
                  have U2 := Hid.mk (blk_below UV.out HB.out)
                  have R2 := Hid.mk (blk_below RV.out HB.out)
                  clear h4 k4 HO
                  have f2 := blk_unfrozen U2.out 2
                  have f0 := blk_cell U2.out 2
                  simp only [List.getElem?_toArray, List.getElem?_cons_zero, List.getElem?_cons_succ] at f0
                  refine Hid.out ?_
                  refine Lib.hid ?_
                  go_wp2_with fail
                  go_meet
                  obtain ⟨a1, a2, a3, a4⟩ := putT (by rw [← hz]; exact hzw) U2.out R2.out T2.out (below_then BV.out HB.out)
                  exact ⟨xg, xo, _, xc, a1, a2, by unfold Hid; rw [HE.out]; exact a3, a4⟩
            · have q1 : (o.v == 1) = true := by simp [hv]
              have q2 : (o.v == 2) = false := by simp [hv]
              have TE : Hid (apT o ts = cT [109, 97, 120, 40] o ts 1 ++ [41]) := by unfold Hid apT; rw [if_neg (by omega), if_neg (by omega), if_neg (by omega), hv]; simp [cT, twAt, tw]
              have b0 : (0 : Int) < (j : Int) := by omega
              have HJ := Hid.mk hj
              have hj3 : j ≤ 3 := by omega
              clear hv hj e10
              obtain ⟨Wn, G, cG, hkb, hDR, hn⟩ := conv_str wc [109, 97, 120, 40]
              have HDR := Hid.mk hDR
              have Hn := Hid.mk hn
              have tf := cell_keep hn t0
              clear hDR hn
              go_wp2_with fail
              clear p0 p1 tf t0 hkb
              refine (catR [109, 97, 120, 40] T0 _ _ _ HDR.out (HR0.out.below Hn.out) (by simp) (by omega)).mono ?_
              rintro e w3 ⟨v3, rfl, h3, hb3⟩
              have HB := Hid.mk (below_then Hn.out hb3)
              have HO := Hid.mk (own_up h3 Hn.out.size)
              rw [HT0.out] at HO
              clear h3 hb3 HDR Hn
              go_wp2_with fail
              go_loopw [13, 14] (fun bv i wx => ∃ m : Nat, 1 ≤ m ∧ m ≤ j ∧ i = .int .i64 (m : Int) ∧ Hid (Own wc.heap.size wx bv (cT [109, 97, 120, 40] o ts (m - 1))) ∧ Hid (Below wc.heap.size wc wx)) (fun _ i _ => j - (intOf i).toNat)
              case atStart => exact ⟨1, Nat.le_refl _, n0, rfl, HO, HB⟩
              case round =>
                clear HO HB
                obtain ⟨m, hm1, hmj, rfl, HO, HB⟩ := hrel
                have hcl2 := cT_len3 [109, 97, 120, 40] o ts m (by decide) hm1 (Nat.le_trans hmj hj3) (fun i hi => HTL.out i (by omega))
                obtain ⟨CTm, hCT⟩ : ∃ C, C = cT [109, 97, 120, 40] o ts (m - 1) := ⟨_, rfl⟩
                rw [← hCT] at HO hcl2
                by_cases hlt : m < j
                · obtain ⟨uk, huk, Rk⟩ := YV.out m hlt
                  have tk := own_cells1 OV.out m uk huk
                  have hlk := pt_len o ts m (HTL.out m hlt)
                  have HCT : Hid (cT [109, 97, 120, 40] o ts (m + 1 - 1) = CTm ++ [44, 32] ++ pt o ts m) := by
                    unfold Hid
                    obtain ⟨q, rfl⟩ : ∃ q, m = q + 1 := ⟨m - 1, by omega⟩
                    rw [hCT]
                    rfl
                  obtain ⟨TK, hTK⟩ : ∃ TK, TK = pt o ts m := ⟨_, rfl⟩
                  rw [← hTK] at Rk hlk HCT
                  have RK := Hid.mk Rk
                  obtain ⟨gk, ok, ck, hvk, -, -⟩ := Rk
                  rw [hvk] at tk RK
                  have CK := Hid.mk tk
                  clear hvk hTK huk hCT
                  have k0 : (0 : Int) ≤ (m : Int) := by omega
                  have k1 : (m : Int) < (j : Int) := by omega
                  go_upto_region 37 with fail
                  clear tk
                  obtain ⟨Wq, hWq, HB, HO⟩ : ∃ X : World, X = wr.drew ∧ Hid (Below wc.heap.size wc X) ∧ Hid (Own wc.heap.size X _ CTm) := ⟨_, rfl, HB.out.drew, own_bel' HO.out (Below.refl _ _).drew⟩
                  refine wp_region_held_drew (S := (fun w' => w'.cell? ⟨g, m, none⟩ = some (.slice (some ⟨gk, ok, none⟩) TK.length ck))) (by kernel_rfl) ?_ (fun hHeld => ?_)
                  · rw [← hWq]; exact cell_keep HB.out CK.out
                  rw [← hWq] at hHeld ⊢
                  clear hWq
                  refine wpAnyH_take (i := 0) (v := ?_) rfl (by kernel_rfl) (by kernel_rfl) (by kernel_rfl) (fun _ _ _ h => h) (Or.inl ⟨by rfl, ?_⟩) (by assumption) ?_
                  rotate_left
                  · intro w hSw; (try dsimp only at hSw); go_simp; (try with_reducible rfl)
                  rotate_left
                  simp only [Act.put, List.setIfInBounds_toArray, List.set_cons_zero, List.set_cons_succ, List.getElem_toArray, List.getElem_cons_zero, List.getElem_cons_succ]
                  refine wpAnyH_take (i := 3) (v := ?_) rfl (by kernel_rfl) (by kernel_rfl) (by kernel_rfl) (fun _ _ _ h => h) (Or.inl ⟨by rfl, ?_⟩) (by assumption) ?_
                  rotate_left
                  · intro w hSw; (try dsimp only at hSw); go_simp; (try with_reducible rfl)
                  rotate_left
                  simp only [Act.put, List.setIfInBounds_toArray, List.set_cons_zero, List.set_cons_succ, List.getElem_toArray, List.getElem_cons_zero, List.getElem_cons_succ]
                  refine wpAnyH_take (i := 4) (v := ?_) rfl (by kernel_rfl) (by kernel_rfl) (by kernel_rfl) (fun _ _ _ h => h) (Or.inl ⟨by rfl, ?_⟩) (by assumption) ?_
                  rotate_left
                  · intro w hSw; (try dsimp only at hSw); go_simp; (try with_reducible rfl)
                  rotate_left
                  simp only [Act.put, List.setIfInBounds_toArray, List.set_cons_zero, List.set_cons_succ, List.getElem_toArray, List.getElem_cons_zero, List.getElem_cons_succ]
                  refine wpAnyH_take (i := 5) (v := ?_) rfl (by kernel_rfl) (by kernel_rfl) (by kernel_rfl) (fun _ _ _ h => h) (Or.inl ⟨by rfl, ?_⟩) (by assumption) ?_
                  rotate_left
                  · intro w hSw; (try dsimp only at hSw); go_simp; (try with_reducible rfl)
                  rotate_left
                  simp only [Act.put, List.setIfInBounds_toArray, List.set_cons_zero, List.set_cons_succ, List.getElem_toArray, List.getElem_cons_zero, List.getElem_cons_succ]
                  refine wpAnyH_take (i := 6) (v := ?_) rfl (by kernel_rfl) (by kernel_rfl) (by kernel_rfl) (fun _ _ _ h => h) (Or.inl ⟨by rfl, ?_⟩) (by assumption) ?_
                  rotate_left
                  · intro w hSw; (try dsimp only at hSw); go_simp; (try with_reducible rfl)
                  rotate_left
                  simp only [Act.put, List.setIfInBounds_toArray, List.set_cons_zero, List.set_cons_succ, List.getElem_toArray, List.getElem_cons_zero, List.getElem_cons_succ]
                  refine wpAnyH_ready (rs := [1]) (by kernel_rfl) (by simp) ?_
                  refine AllReadyH.cons rfl (fun K hK => ?_) ?_
                  · go_simp
                    obtain ⟨Wq, G3, hWq, hG3, hCB, hn⟩ := new_lit2 Wq
                    rw [← hWq, ← hG3]
                    have HO := Hid.mk (own_bel' HO.out hn)
                    have HB := Hid.mk (below_then HB.out hn)
                    clear hn
                    have SR := Hid.mk (lit_rt [44, 32] 2 _ _ rfl hCB)
                    clear hCB hWq hG3
                    refine hK.out _ _ ?_ (fun hHeld => ?_)
                    · exact cell_keep HB.out CK.out
                    clear hK K
                    (try simp only [Act.put, List.setIfInBounds_toArray, List.set_cons_zero, List.set_cons_succ, List.getElem_toArray, List.getElem_cons_zero, List.getElem_cons_succ])
                    refine wpAnyH_ready (rs := [2]) (by kernel_rfl) (by simp) ?_
                    refine AllReadyH.cons rfl (fun K hK => ?_) ?_
                    · rw [if_pos (by rfl)]
                      refine wp_bytes _ _ rfl wc.heap.size _ _ rfl HO.out _ rfl [44, 32] SR.out HB.out.size (by simp only [List.length_append, List.length_cons, List.length_nil]; omega) ?_
                      intro v10 Wq h10 k10
                      have HO := Hid.mk h10
                      have HB := Hid.mk (HB.out.trans k10.1)
                      clear h10 k10 SR
                      refine hK.out _ _ ?_ (fun hHeld => ?_)
                      · exact cell_keep HB.out CK.out
                      clear hK K
                      (try simp only [Act.put, List.setIfInBounds_toArray, List.set_cons_zero, List.set_cons_succ, List.getElem_toArray, List.getElem_cons_zero, List.getElem_cons_succ])
                      refine wpAnyH_ready (rs := [7]) (by kernel_rfl) (by simp) ?_
                      refine AllReadyH.cons rfl (fun K hK => ?_) ?_
                      · rw [if_pos (by rfl)]
                        refine wp_bytes _ _ rfl wc.heap.size _ _ rfl HO.out _ rfl TK (RK.out.below HB.out) HB.out.size (by simp only [List.length_append, List.length_cons, List.length_nil]; omega) ?_
                        intro v16 Wq h16 k16
                        have HO := Hid.mk h16
                        have HB := Hid.mk (HB.out.trans k16.1)
                        clear h16 k16
                        refine hK.out _ _ ?_ (fun hHeld => ?_)
                        · exact cell_keep HB.out CK.out
                        clear hK K
                        (try simp only [Act.put, List.setIfInBounds_toArray, List.set_cons_zero, List.set_cons_succ, List.getElem_toArray, List.getElem_cons_zero, List.getElem_cons_succ])
                        refine wpAnyH_take (i := 8) (v := ?_) rfl (by kernel_rfl) (by kernel_rfl) (by kernel_rfl) (fun _ _ _ h => h) (Or.inl ⟨by rfl, ?_⟩) (by assumption) ?_
                        rotate_left
                        · intro w hSw; (try dsimp only at hSw); go_simp; (try with_reducible rfl)
                        rotate_left
                        simp only [Act.put, List.setIfInBounds_toArray, List.set_cons_zero, List.set_cons_succ, List.getElem_toArray, List.getElem_cons_zero, List.getElem_cons_succ]
                        refine wpAnyH_done (by kernel_rfl) ?_ _
                        go_wp2
                        exact ⟨⟨m + 1, by omega, by omega, by go_num, by unfold Hid; rw [HCT.out]; exact HO.out, HB⟩, by simp [intOf]; omega⟩
                      exact AllReadyH.nil
                    exact AllReadyH.nil
                  exact AllReadyH.nil
                · have k1 : decide ((m : Int) < (j : Int)) = false := by simp; omega
                  have HE : Hid (apT o ts = CTm ++ [41]) := by
                    unfold Hid
                    rw [TE.out, hCT, show m - 1 = 1 by have := HJ.out; omega]
                  clear hCT
                  have hsz : wc.heap.size ≤ wr.heap.size + 1 := Nat.le_succ_of_le HB.out.size
                  go_wp2_with (at_builtin; refine wpList_byte rfl _ _ rfl wc.heap.size _ CTm rfl (own_bel' HO.out (below_alloc' (Below.refl _ _) _)) _ _ rfl 41 (blk_cell (blk_new _ _) 0) (by rw [World.size_alloc]; exact hsz) (Nat.le_trans hcl2 (by decide)) ?_)
                  intro v4 w4 h4 k4
                  have T2 := Hid.mk (own_rt h4 (by simp only [List.length_append, List.length_cons, List.length_nil]; omega))
                  obtain ⟨xg, xo, xc, hx, -, -⟩ := T2.out
                  obtain ⟨XL, hXL⟩ : ∃ XL, XL = (CTm ++ [41]).length := ⟨_, rfl⟩
                  rw [← hXL] at hx
                  subst hx
                  clear hXL
                  have HB := Hid.mk ((below_alloc' HB.out _).trans k4.1)
                  have U2 := Hid.mk (blk_below UV.out HB.out)
                  have R2 := Hid.mk (blk_below RV.out HB.out)
                  clear h4 k4 HO
                  have f2 := blk_unfrozen U2.out 2
                  have f0 := blk_cell U2.out 2
                  simp only [List.getElem?_toArray, List.getElem?_cons_zero, List.getElem?_cons_succ] at f0
                  refine Hid.out ?_
                  refine Lib.hid ?_
                  go_wp2_with fail
                  go_meet
                  obtain ⟨a1, a2, a3, a4⟩ := putT (by rw [← hz]; exact hzw) U2.out R2.out T2.out (below_then BV.out HB.out)
                  exact ⟨xg, xo, _, xc, a1, a2, by unfold Hid; rw [HE.out]; exact a3, a4⟩
            · have q1 : (o.v == 1) = false := by simp [hv]
              have q2 : (o.v == 2) = true := by simp [hv]
              have TE : Hid (apT o ts = cT [105, 102, 40] o ts 2 ++ [41]) := by unfold Hid apT; rw [if_neg (by omega), if_neg (by omega), if_pos hv]; simp [cT, twAt, tw]
              have b0 : (0 : Int) < (j : Int) := by omega
              have HJ := Hid.mk hj
              have hj3 : j ≤ 3 := by omega
              clear hv hj e10
              obtain ⟨Wn, G, cG, hkb, hDR, hn⟩ := conv_str wc [105, 102, 40]
              have HDR := Hid.mk hDR
              have Hn := Hid.mk hn
              have tf := cell_keep hn t0
              clear hDR hn
              go_wp2_with fail
              clear p0 p1 tf t0 hkb
              refine (catR [105, 102, 40] T0 _ _ _ HDR.out (HR0.out.below Hn.out) (by simp) (by omega)).mono ?_
              rintro e w3 ⟨v3, rfl, h3, hb3⟩
              have HB := Hid.mk (below_then Hn.out hb3)
              have HO := Hid.mk (own_up h3 Hn.out.size)
              rw [HT0.out] at HO
              clear h3 hb3 HDR Hn
              go_wp2_with fail
              go_loopw [13, 14] (fun bv i wx => ∃ m : Nat, 1 ≤ m ∧ m ≤ j ∧ i = .int .i64 (m : Int) ∧ Hid (Own wc.heap.size wx bv (cT [105, 102, 40] o ts (m - 1))) ∧ Hid (Below wc.heap.size wc wx)) (fun _ i _ => j - (intOf i).toNat)
              case atStart => exact ⟨1, Nat.le_refl _, n0, rfl, HO, HB⟩
              case round =>
                clear HO HB
                obtain ⟨m, hm1, hmj, rfl, HO, HB⟩ := hrel
                have hcl2 := cT_len3 [105, 102, 40] o ts m (by decide) hm1 (Nat.le_trans hmj hj3) (fun i hi => HTL.out i (by omega))
                obtain ⟨CTm, hCT⟩ : ∃ C, C = cT [105, 102, 40] o ts (m - 1) := ⟨_, rfl⟩
                rw [← hCT] at HO hcl2
                by_cases hlt : m < j
                · obtain ⟨uk, huk, Rk⟩ := YV.out m hlt
                  have tk := own_cells1 OV.out m uk huk
                  have hlk := pt_len o ts m (HTL.out m hlt)
                  have HCT : Hid (cT [105, 102, 40] o ts (m + 1 - 1) = CTm ++ [44, 32] ++ pt o ts m) := by
                    unfold Hid
                    obtain ⟨q, rfl⟩ : ∃ q, m = q + 1 := ⟨m - 1, by omega⟩
                    rw [hCT]
                    rfl
                  obtain ⟨TK, hTK⟩ : ∃ TK, TK = pt o ts m := ⟨_, rfl⟩
                  rw [← hTK] at Rk hlk HCT
                  have RK := Hid.mk Rk
                  obtain ⟨gk, ok, ck, hvk, -, -⟩ := Rk
                  rw [hvk] at tk RK
                  have CK := Hid.mk tk
                  clear hvk hTK huk hCT
                  have k0 : (0 : Int) ≤ (m : Int) := by omega
                  have k1 : (m : Int) < (j : Int) := by omega
                  go_upto_region 37 with fail
                  clear tk
                  obtain ⟨Wq, hWq, HB, HO⟩ : ∃ X : World, X = wr.drew ∧ Hid (Below wc.heap.size wc X) ∧ Hid (Own wc.heap.size X _ CTm) := ⟨_, rfl, HB.out.drew, own_bel' HO.out (Below.refl _ _).drew⟩
                  refine wp_region_held_drew (S := (fun w' => w'.cell? ⟨g, m, none⟩ = some (.slice (some ⟨gk, ok, none⟩) TK.length ck))) (by kernel_rfl) ?_ (fun hHeld => ?_)
                  · rw [← hWq]; exact cell_keep HB.out CK.out
                  rw [← hWq] at hHeld ⊢
                  clear hWq
                  refine wpAnyH_take (i := 0) (v := ?_) rfl (by kernel_rfl) (by kernel_rfl) (by kernel_rfl) (fun _ _ _ h => h) (Or.inl ⟨by rfl, ?_⟩) (by assumption) ?_
                  rotate_left
                  · intro w hSw; (try dsimp only at hSw); go_simp; (try with_reducible rfl)
                  rotate_left
                  simp only [Act.put, List.setIfInBounds_toArray, List.set_cons_zero, List.set_cons_succ, List.getElem_toArray, List.getElem_cons_zero, List.getElem_cons_succ]
                  refine wpAnyH_take (i := 3) (v := ?_) rfl (by kernel_rfl) (by kernel_rfl) (by kernel_rfl) (fun _ _ _ h => h) (Or.inl ⟨by rfl, ?_⟩) (by assumption) ?_
                  rotate_left
                  · intro w hSw; (try dsimp only at hSw); go_simp; (try with_reducible rfl)
                  rotate_left
                  simp only [Act.put, List.setIfInBounds_toArray, List.set_cons_zero, List.set_cons_succ, List.getElem_toArray, List.getElem_cons_zero, List.getElem_cons_succ]
                  refine wpAnyH_take (i := 4) (v := ?_) rfl (by kernel_rfl) (by kernel_rfl) (by kernel_rfl) (fun _ _ _ h => h) (Or.inl ⟨by rfl, ?_⟩) (by assumption) ?_
                  rotate_left
                  · intro w hSw; (try dsimp only at hSw); go_simp; (try with_reducible rfl)
                  rotate_left
                  simp only [Act.put, List.setIfInBounds_toArray, List.set_cons_zero, List.set_cons_succ, List.getElem_toArray, List.getElem_cons_zero, List.getElem_cons_succ]
                  refine wpAnyH_take (i := 5) (v := ?_) rfl (by kernel_rfl) (by kernel_rfl) (by kernel_rfl) (fun _ _ _ h => h) (Or.inl ⟨by rfl, ?_⟩) (by assumption) ?_
                  rotate_left
                  · intro w hSw; (try dsimp only at hSw); go_simp; (try with_reducible rfl)
                  rotate_left
                  simp only [Act.put, List.setIfInBounds_toArray, List.set_cons_zero, List.set_cons_succ, List.getElem_toArray, List.getElem_cons_zero, List.getElem_cons_succ]
                  refine wpAnyH_take (i := 6) (v := ?_) rfl (by kernel_rfl) (by kernel_rfl) (by kernel_rfl) (fun _ _ _ h => h) (Or.inl ⟨by rfl, ?_⟩) (by assumption) ?_
                  rotate_left
                  · intro w hSw; (try dsimp only at hSw); go_simp; (try with_reducible rfl)
                  rotate_left
                  simp only [Act.put, List.setIfInBounds_toArray, List.set_cons_zero, List.set_cons_succ, List.getElem_toArray, List.getElem_cons_zero, List.getElem_cons_succ]
                  refine wpAnyH_ready (rs := [1]) (by kernel_rfl) (by simp) ?_
                  refine AllReadyH.cons rfl (fun K hK => ?_) ?_
                  · go_simp
                    obtain ⟨Wq, G3, hWq, hG3, hCB, hn⟩ := new_lit2 Wq
                    rw [← hWq, ← hG3]
                    have HO := Hid.mk (own_bel' HO.out hn)
                    have HB := Hid.mk (below_then HB.out hn)
                    clear hn
                    have SR := Hid.mk (lit_rt [44, 32] 2 _ _ rfl hCB)
                    clear hCB hWq hG3
                    refine hK.out _ _ ?_ (fun hHeld => ?_)
                    · exact cell_keep HB.out CK.out
                    clear hK K
                    (try simp only [Act.put, List.setIfInBounds_toArray, List.set_cons_zero, List.set_cons_succ, List.getElem_toArray, List.getElem_cons_zero, List.getElem_cons_succ])
                    refine wpAnyH_ready (rs := [2]) (by kernel_rfl) (by simp) ?_
                    refine AllReadyH.cons rfl (fun K hK => ?_) ?_
                    · rw [if_pos (by rfl)]
                      refine wp_bytes _ _ rfl wc.heap.size _ _ rfl HO.out _ rfl [44, 32] SR.out HB.out.size (by simp only [List.length_append, List.length_cons, List.length_nil]; omega) ?_
                      intro v10 Wq h10 k10
                      have HO := Hid.mk h10
                      have HB := Hid.mk (HB.out.trans k10.1)
                      clear h10 k10 SR
                      refine hK.out _ _ ?_ (fun hHeld => ?_)
                      · exact cell_keep HB.out CK.out
                      clear hK K
                      (try simp only [Act.put, List.setIfInBounds_toArray, List.set_cons_zero, List.set_cons_succ, List.getElem_toArray, List.getElem_cons_zero, List.getElem_cons_succ])
                      refine wpAnyH_ready (rs := [7]) (by kernel_rfl) (by simp) ?_
                      refine AllReadyH.cons rfl (fun K hK => ?_) ?_
                      · rw [if_pos (by rfl)]
                        refine wp_bytes _ _ rfl wc.heap.size _ _ rfl HO.out _ rfl TK (RK.out.below HB.out) HB.out.size (by simp only [List.length_append, List.length_cons, List.length_nil]; omega) ?_
                        intro v16 Wq h16 k16
                        have HO := Hid.mk h16
                        have HB := Hid.mk (HB.out.trans k16.1)
                        clear h16 k16
                        refine hK.out _ _ ?_ (fun hHeld => ?_)
                        · exact cell_keep HB.out CK.out
                        clear hK K
                        (try simp only [Act.put, List.setIfInBounds_toArray, List.set_cons_zero, List.set_cons_succ, List.getElem_toArray, List.getElem_cons_zero, List.getElem_cons_succ])
                        refine wpAnyH_take (i := 8) (v := ?_) rfl (by kernel_rfl) (by kernel_rfl) (by kernel_rfl) (fun _ _ _ h => h) (Or.inl ⟨by rfl, ?_⟩) (by assumption) ?_
                        rotate_left
                        · intro w hSw; (try dsimp only at hSw); go_simp; (try with_reducible rfl)
                        rotate_left
                        simp only [Act.put, List.setIfInBounds_toArray, List.set_cons_zero, List.set_cons_succ, List.getElem_toArray, List.getElem_cons_zero, List.getElem_cons_succ]
                        refine wpAnyH_done (by kernel_rfl) ?_ _
                        go_wp2
                        exact ⟨⟨m + 1, by omega, by omega, by go_num, by unfold Hid; rw [HCT.out]; exact HO.out, HB⟩, by simp [intOf]; omega⟩
                      exact AllReadyH.nil
                    exact AllReadyH.nil
                  exact AllReadyH.nil
                · have k1 : decide ((m : Int) < (j : Int)) = false := by simp; omega
                  have HE : Hid (apT o ts = CTm ++ [41]) := by
                    unfold Hid
                    rw [TE.out, hCT, show m - 1 = 2 by have := HJ.out; omega]
                  clear hCT
                  have hsz : wc.heap.size ≤ wr.heap.size + 1 := Nat.le_succ_of_le HB.out.size
                  go_wp2_with (at_builtin; refine wpList_byte rfl _ _ rfl wc.heap.size _ CTm rfl (own_bel' HO.out (below_alloc' (Below.refl _ _) _)) _ _ rfl 41 (blk_cell (blk_new _ _) 0) (by rw [World.size_alloc]; exact hsz) (Nat.le_trans hcl2 (by decide)) ?_)
                  intro v4 w4 h4 k4
                  have T2 := Hid.mk (own_rt h4 (by simp only [List.length_append, List.length_cons, List.length_nil]; omega))
                  obtain ⟨xg, xo, xc, hx, -, -⟩ := T2.out
                  obtain ⟨XL, hXL⟩ : ∃ XL, XL = (CTm ++ [41]).length := ⟨_, rfl⟩
                  rw [← hXL] at hx
                  subst hx
                  clear hXL
                  have HB := Hid.mk ((below_alloc' HB.out _).trans k4.1)
                  have U2 := Hid.mk (blk_below UV.out HB.out)
                  have R2 := Hid.mk (blk_below RV.out HB.out)
                  clear h4 k4 HO
                  have f2 := blk_unfrozen U2.out 2
                  have f0 := blk_cell U2.out 2
                  simp only [List.getElem?_toArray, List.getElem?_cons_zero, List.getElem?_cons_succ] at f0
                  refine Hid.out ?_
                  refine Lib.hid ?_
                  go_wp2_with fail
                  go_meet
                  obtain ⟨a1, a2, a3, a4⟩ := putT (by rw [← hz]; exact hzw) U2.out R2.out T2.out (below_then BV.out HB.out)
                  exact ⟨xg, xo, _, xc, a1, a2, by unfold Hid; rw [HE.out]; exact a3, a4⟩
        case rest =>
          obtain ⟨xg, xo, xn, xc, U2, R2, T2, B2⟩ := hcut
          have hne : w1.heap.size ≠ w.heap.size + 1 := by omega
          have hne' : w.heap.size + 1 ≠ w1.heap.size := by omega
          have r0 := blk_cell R2.out 0
          have r1 := blk_cell R2.out 1
          have r2 := blk_cell R2.out 2
          have q0 := blk_unfrozen R2.out 0
          have q1 := blk_unfrozen R2.out 1
          have q2 := blk_unfrozen R2.out 2
          have u0 := blk_cell U2.out 0
          have u1 := blk_cell U2.out 1
          have u2 := blk_cell U2.out 2
          simp only [List.getElem?_toArray, List.getElem?_cons_zero, List.getElem?_cons_succ] at r0 r1 r2 u0 u1 u2
          clear UV PV RV OV YV BV
          go_wp2
          clear r0 r1 r2 q0 q1 q2 u0 u1 u2
          obtain ⟨v, hv⟩ : ∃ v, v = Value.slice (some ⟨xg, xo, none⟩) xn xc := ⟨_, rfl⟩
          rw [← hv] at T2 ⊢
          obtain ⟨Y, hY⟩ : ∃ Y : World, Y = wc := ⟨_, rfl⟩
          rw [← hY] at R2 T2 B2 ⊢
          obtain ⟨Z, hZ⟩ : ∃ Z : World, Z = ((Y.setCell ⟨w.heap.size + 1, 0, none⟩ (.int .i64 S)).setCell ⟨w.heap.size + 1, 1, none⟩ (.int .i64 A)).setCell ⟨w.heap.size + 1, 2, none⟩ v := ⟨_, rfl⟩
          rw [← hZ]
          obtain ⟨s0, s1, s2⟩ := ret_rec3 (show Z.heap[w.heap.size + 1]? = some (.cells #[.int .i64 S, .int .i64 A, v] 73) by rw [hZ]; exact blk_store3 R2.out)
          have hs0 := blk_set R2.out 0 (.int .i64 S)
          have hs1 := blk_set hs0 1 (.int .i64 A)
          simp only [List.setIfInBounds_toArray, List.set_cons_zero, List.set_cons_succ] at hs0 hs1
          have HZR : Rt Z v (apT o ts) := by rw [hZ]; exact ((T2.out.set R2.out (by decide)).set hs0 (by decide)).set hs1 (by decide)
          have HZB : Below w.heap.size w Z := by rw [hZ]; exact below_set (below_set (below_set B2.out _ (by simp) _) _ (by simp) _) _ (by simp) _
          clear hZ
          refine bodyPost_ret (v := .agg #[.int .i64 S, .int .i64 A, v]) (by simp [results, Tryz.results58, go_sem, s0, s1, s2]; try rfl) rfl ⟨v, by rw [HA.out], HZR, HZB⟩
end Go.Proofs.YthobdaeglhdhnaaGreatDoor.Syn
