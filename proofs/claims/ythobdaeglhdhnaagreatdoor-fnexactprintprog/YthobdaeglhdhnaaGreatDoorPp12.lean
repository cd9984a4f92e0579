import Derived.Test.YthobdaeglhdhnaaGreatDoorPp09
import Derived.Deep.RegionLaw
import Derived.Maps.AppendAt
namespace Go.Proofs.YthobdaeglhdhnaaGreatDoor.Syn
open Go Go.RowKit Go.Proofs.YthobdaeglhdhnaaGreatDoor.Mem
set_option linter.unusedVariables false
set_option linter.unusedSimpArgs false
attribute [local go_sem ↓] Go.wp_at_zero Go.wp_at_succ

/-- An append to a row of the call's own, as one step of a region that draws its order. -/
theorem step_append_own {P : Program} {ops : Array Oper} {o : Oper} {a : Act} {w : World} {K : Act → World → Prop} {Q : Exit → Act → World → Prop} {E : Prop}
    (hg : o.guard = none) (s x : Operand) (t : TypeId) (hop : o.op = Op.call { callee := Callee.builtin Builtin.append, args := #[s, x], argTypes := #[t, t] })
    (B : Nat) (e : TypeId) (i : TypeInfo) (z : Value) (size bytes : Nat) (h1 : P.underlying t = some (.slice e)) (h2 : P.info? e = some i) (h3 : i.zero = some z) (h4 : i.size = size) (h5 : i.bytes = bytes) (h6 : z.cells.size = size) (h7 : 0 < size)
    (v : Value) (n : Nat) (xs : List Value) (hs : a.eval s = v) (hrow : w.ownsRow B e size v n xs)
    (ad : Addr) (m c : Nat) (news : List Value) (hx : a.eval x = .slice (some ad) m c) (hn : news.length = m * size) (hc : ∀ j u, news[j]? = some u → w.cell? (ad.add j) = some u) (h1c : ∀ u ∈ news, u.oneCell' = true)
    (b1 : n + m ≤ maxLen) (b2 : (n + m) * bytes ≤ 140737488355328) (hB : B ≤ w.heap.size)
    (hK : ∀ v' w', w'.ownsRow B e size v' (n + m) (xs ++ news) → w.grownBy w' v.ownBlock → (v'.ownBlock = v.ownBlock ∨ v'.ownBlock = some w.heap.size) → K (a.put o.dst v') w') :
    if Region.wanted o (yielded ops a.tmps) = true then Oper.wp P o a w K Q else E := by
  have hw : Region.wanted o (yielded ops a.tmps) = true := by simp [Region.wanted, hg]
  rw [if_pos hw]
  obtain ⟨v', w', hrun, r1, r2, -, r3⟩ := run_append_own_at (P := P) w B t o.type e i z size bytes h1 h2 h3 h4 h5 h6 h7 v n xs hrow ad m c news hn hc h1c b1 b2 hB
  have hk := hK v' w' r1 r2 r3
  unfold Oper.wp
  simp [execOp, hop, resolve, invoke, builtin, hs, hx, hrun, Result.andThen]
  exact hk

theorem row_kept {w w' : World} {B n s : Nat} {v : Value} {t : TypeId} {xs : List Value} (h : w.ownsRow B t s v n xs) (hb : Below w.heap.size w w') : w'.ownsRow B t s v n xs := by
  refine ⟨h.1, ?_⟩
  rcases h.2 with h0 | ⟨g, cap, cur, h1, h2, h3, h4⟩
  · exact Or.inl h0
  · exact Or.inr ⟨g, cap, cur, h1, h2, by rw [hb.block g (blk_lt h3)]; exact h3, h4⟩
theorem ownsRow_take {w : World} {B n m : Nat} {e : TypeId} {a : Option Addr} {c : Nat} {xs : List Value} (h : w.ownsRow B e 1 (.slice a n c) n xs) (hm : m ≤ n) : w.ownsRow B e 1 (.slice a m c) m (xs.take m) := by
  have hl := h.1
  refine ⟨by rw [List.length_take]; omega, ?_⟩
  rcases h.2 with ⟨h1, h2⟩ | ⟨g, cap, cur, h1, h2, h3, h4, h5, h6, h7⟩
  · injection h1 with e1 e2 e3
    left
    obtain rfl : m = 0 := by omega
    exact ⟨by rw [e1, e3], rfl⟩
  · injection h1 with e1 e2 e3
    right
    refine ⟨g, cap, cur, by rw [e1, e3], h2, h3, by omega, h5, h6, ?_⟩
    rw [← h7, List.take_take, Nat.mul_one, Nat.mul_one, Nat.min_eq_left hm]

theorem Nd.to {w w' : World} {r r' : Option Nat} {v : Value} {t : Tr} (h : Nd w r v t) (hb : w.grownBy w' r) (hr : ∀ g, g < w.heap.size → some g ≠ r → some g ≠ r') : Nd w' r' v t := by
  induction h with
  | leaf o => exact .leaf o
  | pre o v a h ih => exact .pre o v a ih
  | bin o v u a b h h' ih ih' => exact .bin o v u a b ih ih'
  | two o g off c v u a b h0 hk c1 c2 h h' ih ih' => exact .two o g off c v u a b (hr g (lt_of_cell c1) h0) (hk.grown hb h0) (hb.cell c1 h0) (hb.cell c2 h0) ih ih'
  | three o g off c v u x a b d h0 hk c1 c2 c3 h h' h'' ih ih' ih'' => exact .three o g off c v u x a b d (hr g (lt_of_cell c1) h0) (hk.grown hb h0) (hb.cell c1 h0) (hb.cell c2 h0) (hb.cell c3 h0) ih ih' ih''
theorem Nds.to {w w' : World} {r r' : Option Nat} {vs : List Value} {ts : List Tr} (h : Nds w r vs ts) (hb : w.grownBy w' r) (hr : ∀ g, g < w.heap.size → some g ≠ r → some g ≠ r') : Nds w' r' vs ts := by
  induction h with
  | nil => exact .nil
  | cons v t vs ts h hs ih => exact .cons v t vs ts (h.to hb hr) ih
theorem nds_next {W w7 : World} {r : Option Nat} {xs : List Value} {s : List Tr} {nv vn : Value} {t : Tr} (h : Nds W r xs s) (hn : Nd W r nv t) (hg : W.grownBy w7 r) (hblk : vn.ownBlock = r ∨ vn.ownBlock = some W.heap.size) : Nds w7 vn.ownBlock (xs ++ [nv]) (s ++ [t]) := by
  have hr : ∀ g, g < W.heap.size → some g ≠ r → some g ≠ vn.ownBlock := fun g hg' hne => by
    rcases hblk with e | e
    · rw [e]; exact hne
    · rw [e]; intro e2; injection e2 with e2; omega
  exact (h.snoc hn).to hg hr
theorem own_blk (a : Option Addr) (n n' c : Nat) : (Value.slice a n c).ownBlock = (Value.slice a n' c).ownBlock := by cases a <;> rfl
theorem news_one (w : World) (v : Value) (t : TypeId) : ∀ j u, [v][j]? = some u → (w.alloc (.cells #[v] t)).cell? ((⟨w.heap.size, 0, none⟩ : Addr).add j) = some u := fun j u h => by
  rw [Addr.add_mid, Nat.zero_add, blk_cell (blk_new w _) j]
  simpa using h
/-- What reading a postfix list leaves. -/
inductive TreeP (w w' : World) (E : Nat → Po) (n : Nat) (e : Ending) : Prop
  | ok (v : Value) (t : Tr) (he : e = .returned (.tuple #[v, .bool true])) (hs : stk E n = some [t]) (hd : Nd w' none v t) (hb : Below w.heap.size w w') : TreeP w w' E n e
  | no (he : e = .returned (.tuple #[.nilIface, .bool false])) (hs : ∀ t, stk E n ≠ some [t]) (hb : Below w.heap.size w w') : TreeP w w' E n e

theorem stk_bad {E : Nat → Po} {j n : Nat} {s : List Tr} (hs : stk E j = some s) (hj : j < n) (h : opB (E j) = false ∨ s.length < ar (E j)) : ∀ t, stk E n ≠ some [t] := fun t e => by
  have : stk E (j + 1) = none := by
    simp only [stk, hs, Option.bind_some]
    rw [if_neg]
    rintro ⟨h1, h2⟩
    rcases h with h | h
    · rw [h] at h1; cases h1
    · omega
  rw [stk_none this (by omega)] at e
  cases e
theorem stk_next {E : Nat → Po} {j : Nat} {s : List Tr} (hs : stk E j = some s) (h1 : opB (E j) = true) (h2 : ar (E j) ≤ s.length) : stk E (j + 1) = some (s.take (s.length - ar (E j)) ++ [mk (E j) (s.drop (s.length - ar (E j)))]) := by
  simp only [stk, hs, Option.bind_some]
  rw [if_pos ⟨h1, h2⟩]
theorem ar_le (o : Po) : ar o ≤ 3 := by unfold ar; split <;> (try split) <;> (try split) <;> (try split) <;> omega

set_option maxHeartbeats 3200000 in
set_option maxRecDepth 100000 in
theorem treeI (E : Nat → Po) (a : Option Addr) (n cap : Nat) (w : World) (hs : SliceAt w a n 3 (fun i => (E i).cells)) (hn : n ≤ 1048576) (hW : TabW w) (hO : TabO w) :
    Calls Tryz.prog 49 #[.slice a n cap] w fun e w' => TreeP w w' E n e := by
  obtain ⟨i0, hi, hz0, hz1, hz2⟩ := info_parts infoN
  have H := Hid.mk hs
  have HW := Hid.mk hW
  have HO := Hid.mk hO
  clear hs hW hO
  go_enter Tryz.func49, Tryz.ntmps49
  go_wp2
  go_loopw [4, 10] (fun v i wr => ∃ (j : Nat) (s : List Tr) (xs : List Value), j ≤ n ∧ i = .int .i64 (j : Int) ∧ Hid (stk E j = some s) ∧ Hid (wr.ownsRow w.heap.size 84 1 v s.length xs) ∧ Hid (Nds wr v.ownBlock xs s) ∧ Hid (Below w.heap.size w wr)) (fun _ i _ => n - (intOf i).toNat)
  case atStart => exact ⟨0, [], [], Nat.zero_le _, rfl, rfl, World.ownsRow_nil w _ _ _, Nds.nil, Below.refl _ _⟩
  case round =>
    obtain ⟨j, s, xs, hj, rfl, hst, hrow, hnd, hb⟩ := hrel
    obtain ⟨sa, sc, hv, hsc⟩ := own_shape hrow.out
    rw [hv] at hrow hnd ⊢
    clear hv
    have hlen := stk_len hst.out
    obtain ⟨L, hL⟩ : ∃ L, L = s.length := ⟨_, rfl⟩
    rw [← hL] at hrow hsc hlen hnd
    rw [← hL]
    have HL := Hid.mk hL
    clear hL
    by_cases hlt : j < n
    · rcases H.out with h0 | ⟨b, off, rfl, h0⟩
      · omega
      obtain ⟨e0, e1, e2⟩ := Po.at (rangeAt_below (h0 j hlt) hb.out)
      clear h0
      have k0 : (0 : Int) ≤ (j : Int) := by omega
      have k1 : (j : Int) < (n : Int) := by omega
      obtain ⟨o, ho⟩ : ∃ o, o = E j := ⟨_, rfl⟩
      rw [← ho] at e0 e1 e2
      have HE := Hid.mk ho
      clear ho
      go_wp2_with fail
      clear e0 e1 e2
      have hb1 := Hid.mk (below_alloc' hb.out (.cells #[.int .i64 o.k, .int .i64 o.v, .string ⟨o.n.toArray⟩] 91))
      refine (countI o _).mono ?_
      rintro e w1 ⟨rfl, hb2⟩
      have hbA := Hid.mk (below_then hb1.out hb2)
      have A1 := Hid.mk (blk_below (blk_new wr _) hb2)
      have R1 := Hid.mk (row_kept (hrow.out.alloc _) hb2)
      have N1 := Hid.mk ((hnd.out.kept (Below.alloc (Below.refl _ _) (Nat.le_refl _) _)).kept hb2)
      clear hb1 hb2 hrow hnd
      have z0 := blk_lt A1.out
      obtain ⟨A, hA⟩ : ∃ A, A = ar o := ⟨_, rfl⟩
      rw [← hA]
      have hA3 : A ≤ 3 := by rw [hA]; exact ar_le o
      have HA := Hid.mk hA
      clear hA
      by_cases hAL : A ≤ L
      · obtain ⟨m, hm⟩ : ∃ m, L = m + A := ⟨L - A, by omega⟩
        subst hm
        have hsub : ((m + A : Nat) : Int) - (A : Int) = (m : Int) := by omega
        have hneg : decide ((m : Int) < 0) = false := by simp
        have x0 := blk_cell A1.out 0
        have x1 := blk_cell A1.out 1
        have x2 := blk_cell A1.out 2
        simp only [List.getElem?_toArray, List.getElem?_cons_zero, List.getElem?_cons_succ] at x0 x1 x2
        go_wp2_with fail
        refine (validOpI o _ (HW.out.below hbA.out) (HO.out.below hbA.out)).mono ?_
        rintro e w2 ⟨rfl, hb2⟩
        have hbB := Hid.mk (below_then hbA.out hb2)
        have A2 := Hid.mk (blk_below A1.out hb2)
        have R2 := Hid.mk (row_kept R1.out hb2)
        have N2 := Hid.mk (N1.out.kept hb2)
        clear hb2 hbA A1 R1 N1 x0 x1 x2
        have z2 := blk_lt A2.out
        cases hop : opB o with
        | false =>
          have hbad : Hid (∀ t, stk E n ≠ some [t]) := stk_bad hst.out hlt (Or.inl (by rw [← HE.out]; exact hop))
          go_wp2_with fail
          go_ret2
          exact .no rfl hbad.out hbB.out
        | true =>
          have hnext : Hid (stk E (j + 1) = some (s.take m ++ [mk o (s.drop m)])) := by
            have := stk_next hst.out (by rw [← HE.out]; exact hop) (by rw [← HE.out, ← HL.out, ← HA.out]; omega)
            rw [← HE.out, ← HL.out, ← HA.out, Nat.add_sub_cancel] at this
            exact this
          have hxl : Hid (xs.length = m + A) := by have := R2.out.1; unfold Hid; omega
          have hopr : Hid (Nds w2 (Value.slice sa (m + A) sc).ownBlock (xs.drop m) (s.drop m)) := N2.out.drop m
          have x0 := blk_cell A2.out 0
          have x1 := blk_cell A2.out 1
          have x2 := blk_cell A2.out 2
          simp only [List.getElem?_toArray, List.getElem?_cons_zero, List.getElem?_cons_succ] at x0 x1 x2
          have q0 : (0 : Int) ≤ (m : Int) := by omega
          have q1 : (m : Int) ≤ (sc : Int) := by omega
          have q2 : (m : Int) ≤ (m : Int) + (A : Int) := by omega
          have q3 : (m : Int) + (A : Int) ≤ (sc : Int) := by omega
          go_wp2_with fail
          have hbk : Hid (∀ g', (Value.slice sa (m + A) sc).ownBlock = some g' → w.heap.size ≤ g' ∧ g' < w2.heap.size) := R2.out.lt
          have hneS : some wr.heap.size ≠ (Value.slice sa (m + A) sc).ownBlock := fun e => by
            rcases R2.out.2 with ⟨h1, h2⟩ | ⟨g, scap, cur, h1, h2, h3, h4⟩
            · rw [h1] at e; cases e
            · rw [h1] at e
              injection e with e
              have h8 := A2.out
              rw [e] at h8
              have h9 : (⟨g, 0, none⟩ : Addr).block = g := rfl
              rw [h9, h3] at h8
              exact absurd (Option.some.inj h8) (fun h => by injection h with _ h10; exact absurd h10 (by decide))
          have hBw : w.heap.size ≤ w2.heap.size := hbB.out.size
          have hlow : Hid (∀ g', (Value.slice sa m sc).ownBlock = some g' → g' < w2.drew.heap.size) := fun g' h => (hbk.out g' (by rw [own_blk sa (m + A) m]; exact h)).2
          have hlow2 : Hid (∀ g', (Value.slice sa m sc).ownBlock = some g' → w.heap.size ≤ g') := fun g' h => (hbk.out g' (by rw [own_blk sa (m + A) m]; exact h)).1
          have hdl : Hid ((xs.drop m).length = A) := by unfold Hid; rw [List.length_drop, hxl.out]; omega
          have hTk := Hid.mk (ownsRow_take R2.out (show m ≤ m + A by omega))
          rcases R2.out.2 with ⟨h1, h2⟩ | ⟨g, scap, cur, h1, h2, h3, h4, h5, h6, h7⟩
          · injection h1 with g1 g2 g3
            obtain rfl : m = 0 := by omega
            obtain rfl : A = 0 := by omega
            subst g1
            subst g3
            clear g2 h2
            have hdn : Hid (xs.drop 0 = []) := List.drop_eq_nil_of_le (Nat.le_of_eq hxl.out)
            go_region_held3 (fun w' => w'.cell? ⟨wr.heap.size, 0, none⟩ = some (.int .i64 o.k) ∧ w'.cell? ⟨wr.heap.size, 1, none⟩ = some (.int .i64 o.v) ∧ w'.cell? ⟨wr.heap.size, 2, none⟩ = some (.string ⟨o.n.toArray⟩))
              (first | (have _ := hgrow; (repeat' constructor) <;> exact hgrow.cell (by first | assumption | (simp [*]; done)) hneS) | go_keep | ((repeat' constructor) <;> exact cell_keep hb3 (by first | assumption | (simp [*]; done))))
              ((first | (go_at_call 64; refine (nodeOfI o _ _ 0 (xs.drop 0) (s.drop 0) w2.drew hop HA.out hdl.out (Or.inl hdn.out) (Value.slice none 0 0).ownBlock (hopr.out.kept (Below.refl _ _).drew) (by omega) hlow.out).mono ?_; rintro e w3 ⟨nv, rfl, hnv, hb3⟩; obtain ⟨nT, nu, rfl⟩ := hnv.form) | (refine step_append_own rfl (.tmp 28) (.tmp 34) 100 rfl w.heap.size 84 i0 .nilIface 1 16 Tryz.underlying100 hi hz0 hz1 hz2 rfl (by decide) (Value.slice none 0 0) 0 (xs.take 0) (by simp [Act.eval, Act.put]) (row_kept (row_kept hTk.out (Below.refl _ _).drew) hb3 |>.alloc _) ⟨w3.heap.size, 0, none⟩ 1 1 [.iface nT nu] (by simp [Act.eval, Act.put]) rfl (news_one w3 _ 84) (by intro u hu; simp only [List.mem_singleton] at hu; rw [hu]; exact hnv.one) (by unfold maxLen; omega) (by omega) (by have := hb3.size; simp at this; simp; omega) ?_; intro vn w7 hown hgrow hblk)))
            have hbZ := Hid.mk ((below_then hbB.out.drew hb3).alloc (below_then hbB.out.drew hb3).size (.cells #[.iface nT nu] 84))
            have hb7 : Hid (Below w.heap.size w w7) := hbZ.out.grown hgrow hbZ.out.size hlow2.out
            have hN7 := Hid.mk (nds_next (vn := vn) ((((N2.out.take 0).kept (Below.refl _ _).drew).kept hb3).kept (Below.alloc (Below.refl _ _) (Nat.le_refl _) (.cells #[.iface nT nu] 84))) (hnv.kept (Below.alloc (Below.refl _ _) (Nat.le_refl _) _)) hgrow hblk)
            have hO7 : Hid (w7.ownsRow w.heap.size 84 1 vn (s.take 0 ++ [mk o (s.drop 0)]).length (xs.take 0 ++ [.iface nT nu])) := by
              unfold Hid
              rw [List.length_append, List.length_singleton, List.length_take, ← HL.out, Nat.min_eq_left (by omega)]
              exact hown
            clear hb3 hnv hown hgrow hblk hbZ
            go_wp2
            exact ⟨⟨j + 1, _, _, by omega, by go_num, hnext, hO7, hN7, hb7⟩, by simp [intOf]; omega⟩
          · injection h1 with g1 g2 g3
            subst g1
            subst g3
            have hgl := blk_lt h3
            clear h3 h7 h6 g2
            have hAr : Hid (∀ i u, (xs.drop m)[i]? = some u → w2.cell? ⟨g, m + i, none⟩ = some u) := fun i u hu => by
              rw [List.getElem?_drop] at hu
              have hi : m + i < m + A := by have := hxl.out; rw [← this]; exact (List.getElem?_eq_some_iff.1 hu).1
              obtain ⟨g', c', he, -, -, -, hc⟩ := ownsRow_cells R2.out (by omega)
              injection he with he
              injection he with he
              injection he with he
              subst he
              exact hc (m + i) u hu
            by_cases hcm : sc = m
            · obtain rfl : A = 0 := by omega
              subst hcm
              have hdn : Hid (xs.drop sc = []) := List.drop_eq_nil_of_le (Nat.le_of_eq hxl.out)
              go_region_held3 (fun w' => w'.cell? ⟨wr.heap.size, 0, none⟩ = some (.int .i64 o.k) ∧ w'.cell? ⟨wr.heap.size, 1, none⟩ = some (.int .i64 o.v) ∧ w'.cell? ⟨wr.heap.size, 2, none⟩ = some (.string ⟨o.n.toArray⟩))
                (first | (have _ := hgrow; (repeat' constructor) <;> exact hgrow.cell (by first | assumption | (simp [*]; done)) hneS) | go_keep | ((repeat' constructor) <;> exact cell_keep hb3 (by first | assumption | (simp [*]; done))))
                ((first | (go_at_call 64; refine (nodeOfI o _ _ 0 (xs.drop sc) (s.drop sc) w2.drew hop HA.out hdl.out (Or.inl hdn.out) (Value.slice (some ⟨g, 0, none⟩) sc sc).ownBlock (hopr.out.kept (Below.refl _ _).drew) (by omega) hlow.out).mono ?_; rintro e w3 ⟨nv, rfl, hnv, hb3⟩; obtain ⟨nT, nu, rfl⟩ := hnv.form) | (refine step_append_own rfl (.tmp 28) (.tmp 34) 100 rfl w.heap.size 84 i0 .nilIface 1 16 Tryz.underlying100 hi hz0 hz1 hz2 rfl (by decide) (Value.slice (some ⟨g, 0, none⟩) sc sc) sc (xs.take sc) (by simp [Act.eval, Act.put]) (row_kept (row_kept hTk.out (Below.refl _ _).drew) hb3 |>.alloc _) ⟨w3.heap.size, 0, none⟩ 1 1 [.iface nT nu] (by simp [Act.eval, Act.put]) rfl (news_one w3 _ 84) (by intro u hu; simp only [List.mem_singleton] at hu; rw [hu]; exact hnv.one) (by unfold maxLen; omega) (by omega) (by have := hb3.size; simp at this; simp; omega) ?_; intro vn w7 hown hgrow hblk)))
              have hbZ := Hid.mk ((below_then hbB.out.drew hb3).alloc (below_then hbB.out.drew hb3).size (.cells #[.iface nT nu] 84))
              have hb7 : Hid (Below w.heap.size w w7) := hbZ.out.grown hgrow hbZ.out.size hlow2.out
              have hN7 := Hid.mk (nds_next (vn := vn) ((((N2.out.take sc).kept (Below.refl _ _).drew).kept hb3).kept (Below.alloc (Below.refl _ _) (Nat.le_refl _) (.cells #[.iface nT nu] 84))) (hnv.kept (Below.alloc (Below.refl _ _) (Nat.le_refl _) _)) hgrow hblk)
              have hO7 : Hid (w7.ownsRow w.heap.size 84 1 vn (s.take sc ++ [mk o (s.drop sc)]).length (xs.take sc ++ [.iface nT nu])) := by
                unfold Hid
                rw [List.length_append, List.length_singleton, List.length_take, ← HL.out, Nat.min_eq_left (by omega)]
                exact hown
              clear hb3 hnv hown hgrow hblk hbZ
              go_wp2
              exact ⟨⟨j + 1, _, _, by omega, by go_num, hnext, hO7, hN7, hb7⟩, by simp [intOf]; omega⟩
            · go_region_held3 (fun w' => w'.cell? ⟨wr.heap.size, 0, none⟩ = some (.int .i64 o.k) ∧ w'.cell? ⟨wr.heap.size, 1, none⟩ = some (.int .i64 o.v) ∧ w'.cell? ⟨wr.heap.size, 2, none⟩ = some (.string ⟨o.n.toArray⟩))
                (first | (have _ := hgrow; (repeat' constructor) <;> exact hgrow.cell (by first | assumption | (simp [*]; done)) hneS) | go_keep | ((repeat' constructor) <;> exact cell_keep hb3 (by first | assumption | (simp [*]; done))))
                ((first | (go_at_call 64; refine (nodeOfI o _ _ A (xs.drop m) (s.drop m) w2.drew hop HA.out hdl.out (Or.inr ⟨g, m, rfl, fun i u hu => (hAr.out i u hu)⟩) (Value.slice (some ⟨g, 0, none⟩) m sc).ownBlock (hopr.out.kept (Below.refl _ _).drew) (by omega) hlow.out).mono ?_; rintro e w3 ⟨nv, rfl, hnv, hb3⟩; obtain ⟨nT, nu, rfl⟩ := hnv.form) | (refine step_append_own rfl (.tmp 28) (.tmp 34) 100 rfl w.heap.size 84 i0 .nilIface 1 16 Tryz.underlying100 hi hz0 hz1 hz2 rfl (by decide) (Value.slice (some ⟨g, 0, none⟩) m sc) m (xs.take m) (by simp [Act.eval, Act.put]) (row_kept (row_kept hTk.out (Below.refl _ _).drew) hb3 |>.alloc _) ⟨w3.heap.size, 0, none⟩ 1 1 [.iface nT nu] (by simp [Act.eval, Act.put]) rfl (news_one w3 _ 84) (by intro u hu; simp only [List.mem_singleton] at hu; rw [hu]; exact hnv.one) (by unfold maxLen; omega) (by omega) (by have := hb3.size; simp at this; simp; omega) ?_; intro vn w7 hown hgrow hblk)))
              have hbZ := Hid.mk ((below_then hbB.out.drew hb3).alloc (below_then hbB.out.drew hb3).size (.cells #[.iface nT nu] 84))
              have hb7 : Hid (Below w.heap.size w w7) := hbZ.out.grown hgrow hbZ.out.size hlow2.out
              have hN7 := Hid.mk (nds_next (vn := vn) ((((N2.out.take m).kept (Below.refl _ _).drew).kept hb3).kept (Below.alloc (Below.refl _ _) (Nat.le_refl _) (.cells #[.iface nT nu] 84))) (hnv.kept (Below.alloc (Below.refl _ _) (Nat.le_refl _) _)) hgrow hblk)
              have hO7 : Hid (w7.ownsRow w.heap.size 84 1 vn (s.take m ++ [mk o (s.drop m)]).length (xs.take m ++ [.iface nT nu])) := by
                unfold Hid
                rw [List.length_append, List.length_singleton, List.length_take, ← HL.out, Nat.min_eq_left (by omega)]
                exact hown
              clear hb3 hnv hown hgrow hblk hbZ
              go_wp2
              exact ⟨⟨j + 1, _, _, by omega, by go_num, hnext, hO7, hN7, hb7⟩, by simp [intOf]; omega⟩
      · have hneg : (L : Int) - (A : Int) < 0 := by omega
        have hbad : Hid (∀ t, stk E n ≠ some [t]) := stk_bad hst.out hlt (Or.inr (by rw [← HE.out, ← HL.out, ← HA.out]; omega))
        go_wp2_with fail
        go_ret2
        exact .no rfl hbad.out hbA.out
    · obtain rfl : j = n := by omega
      have k1 : decide ((j : Int) < (j : Int)) = false := by simp
      by_cases h1 : L = 1
      · obtain ⟨g, c, he, -, -, -, hc⟩ := ownsRow_cells hrow.out (by omega)
        injection he with he1 he2 he3
        subst he1
        subst he3
        clear he2
        have hxl : xs.length = 1 := by have := hrow.out.1; omega
        have hsl : s.length = 1 := by rw [← HL.out]; exact h1
        have q0 : (0 : Int) < (L : Int) := by omega
        have hq : ((L : Int) == 1) = true := by simp [h1]
        have hq2 : ((L : Int) != 1) = false := by simp [h1]
        clear h1
        match xs, s, hxl, hsl, hc, hnd, hst with
        | [x], [t], _, _, hc, hnd, hst =>
          have c0 : wr.cell? ⟨g, 0, none⟩ = some x := hc 0 x rfl
          have hx : Hid (Nd wr none x t) := by
            cases hnd.out with
            | cons _ _ _ _ h _ => exact h.free (fun _ _ _ => by simp)
          clear hc hnd hrow hxl hsl
          go_wp2
          go_ret2
          exact .ok x t rfl hst.out hx.out hb.out
      · have hbad : Hid (∀ t, stk E j ≠ some [t]) := fun t e => by
          rw [hst.out] at e
          have e := Option.some.inj e
          rw [HL.out, e] at h1
          exact h1 rfl
        have hq : ((L : Int) == 1) = false := by simp; omega
        have hq2 : ((L : Int) != 1) = true := by simp; omega
        go_wp2
        go_ret2
        exact .no rfl hbad.out hb.out
end Go.Proofs.YthobdaeglhdhnaaGreatDoor.Syn
