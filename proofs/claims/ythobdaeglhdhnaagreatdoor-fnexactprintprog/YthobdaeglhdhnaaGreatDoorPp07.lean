import Derived.Test.YthobdaeglhdhnaaGreatDoorPp06
namespace Go.Proofs.YthobdaeglhdhnaaGreatDoor.Syn
open Go Go.RowKit Go.Proofs.YthobdaeglhdhnaaGreatDoor.Mem
set_option linter.unusedVariables false
set_option linter.unusedSimpArgs false
attribute [local go_sem ↓] Go.wp_at_zero Go.wp_at_succ

/-- A block of nodes. -/
def Nk (w : World) (g : Nat) : Prop := ∃ C fr, w.heap[g]? = some (.cells C 84 fr)
theorem Nk.below {w w' : World} {g : Nat} (h : Nk w g) (hb : Below w.heap.size w w') : Nk w' g := by
  obtain ⟨C, fr, h⟩ := h
  exact ⟨C, fr, by rw [hb.block g (blk_lt h)]; exact h⟩
theorem Nk.grown {w w' : World} {g : Nat} {r : Option Nat} (h : Nk w g) (hb : w.grownBy w' r) (hr : some g ≠ r) : Nk w' g := by
  obtain ⟨C, fr, h⟩ := h
  exact ⟨C, fr, by rw [hb.block g (blk_lt h) hr]; exact h⟩
/-- A tree of the program, as a value over memory: the operands of a call lie in a slice. -/
inductive Nd (w : World) (r : Option Nat) : Value → Tr → Prop
  | leaf (o : Po) : Nd w r (.iface 103 (.agg #[.int .i64 o.k, .int .i64 o.v, .string ⟨o.n.toArray⟩])) (.leaf o)
  | pre (o : Po) (v : Value) (a : Tr) (h : Nd w r v a) : Nd w r (.iface 106 (.agg #[.int .i64 o.k, .int .i64 o.v, .string ⟨o.n.toArray⟩, v])) (.pre o a)
  | bin (o : Po) (v u : Value) (a b : Tr) (h : Nd w r v a) (h' : Nd w r u b) : Nd w r (.iface 110 (.agg #[.int .i64 o.k, .int .i64 o.v, .string ⟨o.n.toArray⟩, v, u])) (.bin o a b)
  | two (o : Po) (g off c : Nat) (v u : Value) (a b : Tr) (hr : some g ≠ r) (hk : Nk w g) (c1 : w.cell? ⟨g, off, none⟩ = some v) (c2 : w.cell? ⟨g, off + 1, none⟩ = some u) (h : Nd w r v a) (h' : Nd w r u b) : Nd w r (.iface 113 (.agg #[.int .i64 o.k, .int .i64 o.v, .string ⟨o.n.toArray⟩, .slice (some ⟨g, off, none⟩) 2 c])) (.two o a b)
  | three (o : Po) (g off c : Nat) (v u x : Value) (a b d : Tr) (hr : some g ≠ r) (hk : Nk w g) (c1 : w.cell? ⟨g, off, none⟩ = some v) (c2 : w.cell? ⟨g, off + 1, none⟩ = some u) (c3 : w.cell? ⟨g, off + 2, none⟩ = some x) (h : Nd w r v a) (h' : Nd w r u b) (h'' : Nd w r x d) : Nd w r (.iface 113 (.agg #[.int .i64 o.k, .int .i64 o.v, .string ⟨o.n.toArray⟩, .slice (some ⟨g, off, none⟩) 3 c])) (.three o a b d)
theorem Nd.kept {w w' : World} {r : Option Nat} {v : Value} {t : Tr} (h : Nd w r v t) (hb : Below w.heap.size w w') : Nd w' r v t := by
  induction h with
  | leaf o => exact .leaf o
  | pre o v a h ih => exact .pre o v a ih
  | bin o v u a b h h' ih ih' => exact .bin o v u a b ih ih'
  | two o g off c v u a b hr hk c1 c2 h h' ih ih' => exact .two o g off c v u a b hr (hk.below hb) (cell_keep hb c1) (cell_keep hb c2) ih ih'
  | three o g off c v u x a b d hr hk c1 c2 c3 h h' h'' ih ih' ih'' => exact .three o g off c v u x a b d hr (hk.below hb) (cell_keep hb c1) (cell_keep hb c2) (cell_keep hb c3) ih ih' ih''
/-- Its operands lie in no block that is written to. -/
theorem Nd.grown {w w' : World} {r : Option Nat} {v : Value} {t : Tr} (h : Nd w r v t) (hb : w.grownBy w' r) : Nd w' r v t := by
  induction h with
  | leaf o => exact .leaf o
  | pre o v a h ih => exact .pre o v a ih
  | bin o v u a b h h' ih ih' => exact .bin o v u a b ih ih'
  | two o g off c v u a b hr hk c1 c2 h h' ih ih' => exact .two o g off c v u a b hr (hk.grown hb hr) (hb.cell c1 hr) (hb.cell c2 hr) ih ih'
  | three o g off c v u x a b d hr hk c1 c2 c3 h h' h'' ih ih' ih'' => exact .three o g off c v u x a b d hr (hk.grown hb hr) (hb.cell c1 hr) (hb.cell c2 hr) (hb.cell c3 hr) ih ih' ih''
theorem Nd.free {w : World} {r r' : Option Nat} {v : Value} {t : Tr} (h : Nd w r v t) (hr : ∀ g, g < w.heap.size → some g ≠ r → some g ≠ r') : Nd w r' v t := by
  induction h with
  | leaf o => exact .leaf o
  | pre o v a h ih => exact .pre o v a ih
  | bin o v u a b h h' ih ih' => exact .bin o v u a b ih ih'
  | two o g off c v u a b h0 hk c1 c2 h h' ih ih' => exact .two o g off c v u a b (hr g (lt_of_cell c1) h0) hk c1 c2 ih ih'
  | three o g off c v u x a b d h0 hk c1 c2 c3 h h' h'' ih ih' ih'' => exact .three o g off c v u x a b d (hr g (lt_of_cell c1) h0) hk c1 c2 c3 ih ih' ih''
theorem Nd.one {w : World} {r : Option Nat} {v : Value} {t : Tr} (h : Nd w r v t) : v.oneCell' = true := by cases h <;> rfl
theorem Nd.form {w : World} {r : Option Nat} {v : Value} {t : Tr} (h : Nd w r v t) : ∃ T u, v = .iface T u := by cases h <;> exact ⟨_, _, rfl⟩

/-- A tree whose Ops have the operands that they take. -/
def Tr.wf : Tr → Prop
  | .leaf o => 1 ≤ o.k ∧ o.k ≤ 6
  | .pre o a => (o.k = 7 ∨ o.k = 8) ∧ a.wf
  | .bin o a b => (o.k = 9 ∧ 0 ≤ o.v ∧ o.v ≤ 7) ∧ a.wf ∧ b.wf
  | .two o a b => (o.k = 10 ∧ 0 ≤ o.v ∧ o.v ≤ 1) ∧ a.wf ∧ b.wf
  | .three o a b c => (o.k = 10 ∧ o.v = 2) ∧ a.wf ∧ b.wf ∧ c.wf
def Tr.sz : Tr → Nat
  | .leaf _ => 1
  | .pre _ a => 1 + a.sz
  | .bin _ a b => 1 + a.sz + b.sz
  | .two _ a b => 1 + a.sz + b.sz
  | .three _ a b c => 1 + a.sz + b.sz + c.sz
theorem nst_bd (t : Tr) : 0 ≤ t.nst ∧ t.nst ≤ 2 * (t.sz : Int) := by
  induction t with
  | leaf o => simp [Tr.nst, Tr.sz]
  | pre o a ih => simp only [Tr.nst, Tr.sz, opn]; split <;> omega
  | bin o a b ih ih' => simp only [Tr.nst, Tr.sz, opn]; split <;> split <;> omega
  | two o a b ih ih' => simp only [Tr.nst, Tr.sz]; omega
  | three o a b c ih ih' ih'' => simp only [Tr.nst, Tr.sz]; omega
theorem bstr_bd (v : Int) : 1 ≤ bstr v ∧ bstr v ≤ 5 := by unfold bstr; split <;> (try split) <;> (try split) <;> (try split) <;> omega
theorem str_bd (t : Tr) : 1 ≤ t.str ∧ t.str ≤ 7 := by unfold Tr.str pstr; have := bstr_bd t.op.v; split <;> (try split) <;> omega

/-- The table of the strengths. -/
def TabB (w : World) : Prop := ∀ m : Nat, m < 8 → w.cell? ⟨3, m, none⟩ = some (.int .i64 (bstr m))
theorem TabB.below {w w' : World} (h : TabB w) (hb : Below w.heap.size w w') : TabB w' := fun m hm => cell_keep hb (h m hm)

theorem leafStrI (x : Array Value) (w : World) : Calls Tryz.prog 115 #[.agg x] w fun e w' => e = .returned (.int .i64 7) ∧ Below w.heap.size w w' := by
  go_enter Tryz.func115, Tryz.ntmps115
  go_wp2
  go_ret
  exact ⟨rfl, by go_grown⟩
theorem preStrI (x : Array Value) (w : World) : Calls Tryz.prog 117 #[.agg x] w fun e w' => e = .returned (.int .i64 6) ∧ Below w.heap.size w w' := by
  go_enter Tryz.func117, Tryz.ntmps117
  go_wp2
  go_ret
  exact ⟨rfl, by go_grown⟩
theorem callStrI (x : Array Value) (w : World) : Calls Tryz.prog 121 #[.agg x] w fun e w' => e = .returned (.int .i64 7) ∧ Below w.heap.size w w' := by
  go_enter Tryz.func121, Tryz.ntmps121
  go_wp2
  go_ret
  exact ⟨rfl, by go_grown⟩
theorem binStrI (k v : Int) (n : ByteArray) (x y : Value) (w : World) (hT : TabB w) (h0 : 0 ≤ v) (h1 : v ≤ 7) : Calls Tryz.prog 84 #[.agg #[.int .i64 k, .int .i64 v, .string n, x, y]] w fun e w' => e = .returned (.int .i64 (bstr v)) ∧ Below w.heap.size w w' := by
  obtain ⟨m, rfl⟩ : ∃ m : Nat, v = (m : Int) := ⟨v.toNat, by omega⟩
  have t0 := hT m (by omega)
  have g5 := lt_of_cell t0
  have i0 : (0 : Int) ≤ (m : Int) := by omega
  have i1 : (m : Int) < 8 := by omega
  clear hT
  go_enter Tryz.func84, Tryz.ntmps84
  go_wp2
  go_ret
  exact ⟨rfl, by go_grown⟩

theorem leastLI (k v : Int) (n : ByteArray) (x y : Value) (w : World) (hT : TabB w) (h0 : 0 ≤ v) (h1 : v ≤ 7) : Calls Tryz.prog 68 #[.agg #[.int .i64 k, .int .i64 v, .string n, x, y]] w fun e w' => e = .returned (.int .i64 (lL (bstr v))) ∧ Below w.heap.size w w' := by
  have HT := Hid.mk hT
  clear hT
  obtain ⟨s, hs⟩ : ∃ s, s = bstr v := ⟨_, rfl⟩
  have HS := Hid.mk hs
  rw [← hs]
  clear hs
  have hB := Hid.mk ((Below.refl w.heap.size w).alloc (Nat.le_refl _) (.cells #[.int .i64 k, .int .i64 v, .string n, x, y] 110))
  cases h3 : (s == 3) with
  | true =>
    have hv : Hid (lL s = 4) := by unfold Hid lL; rw [if_pos (by simpa using h3)]
    go_enter Tryz.func68, Tryz.ntmps68
    go_wp2_with fail
    refine (binStrI k v n x y _ (HT.out.below hB.out) h0 h1).mono ?_
    rintro e w1 ⟨rfl, hb⟩
    rw [← HS.out]
    have HB := Hid.mk (below_then hB.out hb)
    clear hb
    go_wp2
    go_ret
    rw [hv.out]
    exact ⟨rfl, HB.out⟩
  | false =>
    have hv : Hid (lL s = s) := by unfold Hid lL; rw [if_neg (by simpa using h3)]
    go_enter Tryz.func68, Tryz.ntmps68
    go_wp2_with fail
    refine (binStrI k v n x y _ (HT.out.below hB.out) h0 h1).mono ?_
    rintro e w1 ⟨rfl, hb⟩
    rw [← HS.out]
    have HB := Hid.mk (below_then hB.out hb)
    have A1 := Hid.mk (blk_below (blk_new w _) hb)
    clear hb
    have x0 := blk_cell A1.out 0
    have x1 := blk_cell A1.out 1
    have x2 := blk_cell A1.out 2
    have x3 := blk_cell A1.out 3
    have x4 := blk_cell A1.out 4
    simp only [List.getElem?_toArray, List.getElem?_cons_zero, List.getElem?_cons_succ] at x0 x1 x2 x3 x4
    go_wp2_with fail
    refine (binStrI k v n x y _ (HT.out.below HB.out) h0 h1).mono ?_
    rintro e w2 ⟨rfl, hb⟩
    rw [← HS.out]
    have HB2 := Hid.mk (below_then HB.out hb)
    clear hb x0 x1 x2 x3 x4
    go_wp2
    go_ret
    rw [hv.out]
    exact ⟨rfl, HB2.out⟩
theorem leastRI (k v : Int) (n : ByteArray) (x y : Value) (w : World) (hT : TabB w) (h0 : 0 ≤ v) (h1 : v ≤ 7) : Calls Tryz.prog 69 #[.agg #[.int .i64 k, .int .i64 v, .string n, x, y]] w fun e w' => e = .returned (.int .i64 (bstr v + 1)) ∧ Below w.heap.size w w' := by
  have HT := Hid.mk hT
  clear hT
  have hs := bstr_bd v
  have hB := Hid.mk ((Below.refl w.heap.size w).alloc (Nat.le_refl _) (.cells #[.int .i64 k, .int .i64 v, .string n, x, y] 110))
  go_enter Tryz.func69, Tryz.ntmps69
  go_wp2_with fail
  refine (binStrI k v n x y _ (HT.out.below hB.out) h0 h1).mono ?_
  rintro e w1 ⟨rfl, hb⟩
  have HB := Hid.mk (below_then hB.out hb)
  clear hb
  go_wp2
  go_ret
  exact ⟨rfl, HB.out⟩

/-- The function that answers a tree's nesting. -/
def nestF : Tr → Nat
  | .leaf _ => 114
  | .pre _ _ => 116
  | .bin _ _ _ => 119
  | .two _ _ _ => 120
  | .three _ _ _ _ => 120
def NestOk (t : Tr) : Prop := ∀ (w : World) (T : TypeId) (u : Value), Nd w none (.iface T u) t → TabB w → Calls Tryz.prog (nestF t) #[u] w fun e w' => e = .returned (.int .i64 t.nst) ∧ Below w.heap.size w w'

/-- The function that answers a tree's strength. -/
def strF : Tr → Nat
  | .leaf _ => 115
  | .pre _ _ => 117
  | .bin _ _ _ => 84
  | .two _ _ _ => 121
  | .three _ _ _ _ => 121
theorem strI (t : Tr) (w : World) (T : TypeId) (u : Value) (h : Nd w none (.iface T u) t) (hw : t.wf) (hT : TabB w) : Calls Tryz.prog (strF t) #[u] w fun e w' => e = .returned (.int .i64 t.str) ∧ Below w.heap.size w w' := by
  cases h with
  | leaf o =>
    have : (Tr.leaf o).str = 7 := by unfold Tr.str pstr Tr.op; simp only [Tr.wf] at hw; simp only; rw [if_neg (by omega), if_neg (by omega)]
    rw [this]; exact leafStrI _ w
  | pre o v a h =>
    have : (Tr.pre o a).str = 6 := by unfold Tr.str pstr Tr.op; simp only [Tr.wf] at hw; simp only; rw [if_neg (by omega), if_pos hw.1]
    rw [this]; exact preStrI _ w
  | bin o v u a b h h' =>
    have : (Tr.bin o a b).str = bstr o.v := by unfold Tr.str pstr Tr.op; simp only [Tr.wf] at hw; simp only; rw [if_pos hw.1.1]
    simp only [Tr.wf] at hw
    rw [this]; exact binStrI _ _ _ _ _ w hT hw.1.2.1 hw.1.2.2
  | two o g off c v u a b hr hk c1 c2 h h' =>
    have : (Tr.two o a b).str = 7 := by unfold Tr.str pstr Tr.op; simp only [Tr.wf] at hw; simp only; rw [if_neg (by omega), if_neg (by omega)]
    rw [this]; exact callStrI _ w
  | three o g off c v u x a b d hr hk c1 c2 c3 h h' h'' =>
    have : (Tr.three o a b d).str = 7 := by unfold Tr.str pstr Tr.op; simp only [Tr.wf] at hw; simp only; rw [if_neg (by omega), if_neg (by omega)]
    rw [this]; exact callStrI _ w

set_option maxHeartbeats 1600000 in
theorem openI (t : Tr) (hN : NestOk t) (v : Value) (least : Int) (w : World) (h : Nd w none v t) (hw : t.wf) (hT : TabB w) (hs : t.sz ≤ 1000000) :
    Calls Tryz.prog 118 #[v, .int .i64 least] w fun e w' => e = .returned (.int .i64 (opn t.nst t.str least)) ∧ Below w.heap.size w w' := by
  have HT := Hid.mk hT
  have HN := Hid.mk hN
  have HW := Hid.mk hw
  have hb := nst_bd t
  have n0 : 0 ≤ t.nst := hb.1
  have n1 : t.nst ≤ 2000000 := by omega
  obtain ⟨N, hN'⟩ : ∃ N, N = t.nst := ⟨_, rfl⟩
  obtain ⟨S, hS'⟩ : ∃ S, S = t.str := ⟨_, rfl⟩
  have HD := Hid.mk h
  rw [← hN'] at n0 n1
  have HNe := Hid.mk hN'
  have HSe := Hid.mk hS'
  rw [← hN', ← hS']
  clear hT hN hb hs hN' hS' hw
  cases h
  all_goals
    by_cases hl : S < least
    · have hv : Hid (opn N S least = N + 1) := by unfold Hid opn; rw [if_pos hl]
      go_enter Tryz.func118, Tryz.ntmps118
      go_wp2_with fail
      refine (strI _ _ _ _ HD.out HW.out HT.out).mono ?_
      rintro e w1 ⟨rfl, hb1⟩
      rw [← HSe.out]
      have HB1 := Hid.mk hb1
      clear hb1
      go_wp2_with fail
      refine (HN.out _ _ _ (HD.out.kept HB1.out) (HT.out.below HB1.out)).mono ?_
      rintro e w2 ⟨rfl, hb2⟩
      rw [← HNe.out]
      have HB2 := Hid.mk (below_then HB1.out hb2)
      clear hb2
      go_wp2
      go_ret
      rw [hv.out]
      exact ⟨rfl, HB2.out⟩
    · have hv : Hid (opn N S least = N) := by unfold Hid opn; rw [if_neg hl]
      have hd : decide (S < least) = false := by simpa using hl
      go_enter Tryz.func118, Tryz.ntmps118
      go_wp2_with fail
      refine (strI _ _ _ _ HD.out HW.out HT.out).mono ?_
      rintro e w1 ⟨rfl, hb1⟩
      rw [← HSe.out]
      have HB1 := Hid.mk hb1
      clear hb1
      go_wp2_with fail
      refine (HN.out _ _ _ (HD.out.kept HB1.out) (HT.out.below HB1.out)).mono ?_
      rintro e w2 ⟨rfl, hb2⟩
      rw [← HNe.out]
      have HB2 := Hid.mk (below_then HB1.out hb2)
      clear hb2
      go_wp2
      go_ret
      rw [hv.out]
      exact ⟨rfl, HB2.out⟩

theorem leafNestI (x : Array Value) (w : World) : Calls Tryz.prog 114 #[.agg x] w fun e w' => e = .returned (.int .i64 0) ∧ Below w.heap.size w w' := by
  go_enter Tryz.func114, Tryz.ntmps114
  go_wp2
  go_ret
  exact ⟨rfl, by go_grown⟩
theorem preNestI (a : Tr) (hN : NestOk a) (k v : Int) (n : ByteArray) (x : Value) (w : World) (h : Nd w none x a) (hw : a.wf) (hT : TabB w) (hs : a.sz ≤ 1000000) : Calls Tryz.prog 116 #[.agg #[.int .i64 k, .int .i64 v, .string n, x]] w fun e w' => e = .returned (.int .i64 (1 + opn a.nst a.str 6)) ∧ Below w.heap.size w w' := by
  have HT := Hid.mk hT
  have HD := Hid.mk h
  have hb := nst_bd a
  have hB := Hid.mk ((Below.refl w.heap.size w).alloc (Nat.le_refl _) (.cells #[.int .i64 k, .int .i64 v, .string n, x] 106))
  obtain ⟨N, hN'⟩ : ∃ N, N = opn a.nst a.str 6 := ⟨_, rfl⟩
  have n0 : 0 ≤ N ∧ N ≤ 3000000 := by rw [hN']; unfold opn; split <;> omega
  obtain ⟨n0, n1⟩ := n0
  have HNe := Hid.mk hN'
  rw [← hN']
  clear hN' hT h hb
  go_enter Tryz.func116, Tryz.ntmps116
  go_wp2_with fail
  refine (openI a hN x 6 _ (HD.out.kept hB.out) hw (HT.out.below hB.out) hs).mono ?_
  rintro e w1 ⟨rfl, hb1⟩
  rw [← HNe.out]
  have HB1 := Hid.mk (below_then hB.out hb1)
  clear hb1
  go_wp2
  go_ret
  exact ⟨rfl, HB1.out⟩

end Go.Proofs.YthobdaeglhdhnaaGreatDoor.Syn
