import Derived.Test.YtfoigigbggickaaDoorPq16
import Derived.Deep.DeepCutAuto
namespace Go.Proofs.YtfoigigbggickaaDoor.Par
open Go Go.RowKit Go.Proofs.YtfoigigbggickaaDoor.Mem Go.Proofs.YtfoigigbggickaaDoor.Syn Go.Proofs.YtfoigigbggickaaDoor.Parse
set_option linter.unusedVariables false
set_option linter.unusedSimpArgs false
attribute [local go_sem ↓] Go.wp_at_zero Go.wp_at_succ

theorem as_pre_pre (v : Value) (w : World) : (Instr.typeAssert (.iface 116 v) 106 116 true).run Tryd.prog w = .ok (.tuple #[v, .bool true]) w := by kernel_rfl
theorem as_bin_pre (v : Value) (w : World) : (Instr.typeAssert (.iface 118 v) 106 116 true).run Tryd.prog w = .ok (.tuple #[.agg #[.int .i64 0, .int .i64 0, .string ⟨#[]⟩, .nilIface], .bool false]) w := by kernel_rfl
theorem as_bin_bin (v : Value) (w : World) : (Instr.typeAssert (.iface 118 v) 106 118 true).run Tryd.prog w = .ok (.tuple #[v, .bool true]) w := by kernel_rfl
theorem as_call_pre (v : Value) (w : World) : (Instr.typeAssert (.iface 121 v) 106 116 true).run Tryd.prog w = .ok (.tuple #[.agg #[.int .i64 0, .int .i64 0, .string ⟨#[]⟩, .nilIface], .bool false]) w := by kernel_rfl
theorem as_call_bin (v : Value) (w : World) : (Instr.typeAssert (.iface 121 v) 106 118 true).run Tryd.prog w = .ok (.tuple #[.agg #[.int .i64 0, .int .i64 0, .string ⟨#[]⟩, .nilIface, .nilIface], .bool false]) w := by kernel_rfl
theorem as_call_call (v : Value) (w : World) : (Instr.typeAssert (.iface 121 v) 106 121 true).run Tryd.prog w = .ok (.tuple #[v, .bool true]) w := by kernel_rfl
theorem as_leaf_pre (v : Value) (w : World) : (Instr.typeAssert (.iface 123 v) 106 116 true).run Tryd.prog w = .ok (.tuple #[.agg #[.int .i64 0, .int .i64 0, .string ⟨#[]⟩, .nilIface], .bool false]) w := by kernel_rfl
theorem as_leaf_bin (v : Value) (w : World) : (Instr.typeAssert (.iface 123 v) 106 118 true).run Tryd.prog w = .ok (.tuple #[.agg #[.int .i64 0, .int .i64 0, .string ⟨#[]⟩, .nilIface, .nilIface], .bool false]) w := by kernel_rfl
theorem as_leaf_call (v : Value) (w : World) : (Instr.typeAssert (.iface 123 v) 106 121 true).run Tryd.prog w = .ok (.tuple #[.agg #[.int .i64 0, .int .i64 0, .string ⟨#[]⟩, .slice none 0 0], .bool false]) w := by kernel_rfl
theorem as_leaf_leaf (v : Value) (w : World) : (Instr.typeAssert (.iface 123 v) 106 123 true).run Tryd.prog w = .ok (.tuple #[v, .bool true]) w := by kernel_rfl
theorem infoO : (Tryd.prog.info? 82).map (fun i => (i.zero, i.size, i.bytes)) = some (some (.agg #[.int .i64 0, .int .i64 0, .string ⟨#[]⟩]), 3, 32) := by kernel_rfl
theorem fillO (a b : Int) (s : ByteArray) : Instr.fill (fun i => some (i * 3, 3)) ((Array.range (1 * 3)).map ((Value.agg #[.int .i64 0, .int .i64 0, .string ⟨#[]⟩]).cells[· % (Value.agg #[.int .i64 0, .int .i64 0, .string ⟨#[]⟩]).cells.size]!)) [(0, .agg [Value.int .i64 a, .int .i64 b, .string s].toArray)] = some [Value.int .i64 a, .int .i64 b, .string s].toArray := by kernel_rfl
/-- A slice literal of one record. -/
theorem wpList_build1 {P : Program} {ops : Array Oper} {rest : List Oper} {o : Oper} {a : Act} {w : World} {Q : Exit → Act → World → Prop} (hg : o.guard = none) (t e : TypeId) (x : Operand) (ho : o.op = .buildSlice t 1 #[(0, x)])
    (ie : TypeInfo) (z : Value) (hu : P.underlying t = some (.slice e)) (hie : P.info? e = some ie) (hz : ie.zero = some z) (sz : Nat) (hs : ie.size = sz) (vs : List Value) (hx : a.eval x = .agg vs.toArray)
    (hf : Instr.fill (fun i => some (i * sz, sz)) ((Array.range (1 * sz)).map (z.cells[· % z.cells.size]!)) [(0, .agg vs.toArray)] = some vs.toArray) (h0 : 0 < sz) (h1 : sz ≤ 1000)
    (h : wpList P ops Q rest (a.put o.dst (.slice (some ⟨w.heap.size, 0, none⟩) 1 1)) (w.alloc (.cells vs.toArray e))) : wpList P ops Q (o :: rest) a w := by
  refine wpList_buildSlice hg t e 1 _ ho vs.toArray ie z hu hie hz (by rw [hs]; omega) (by rw [hs]; omega) ?_ h
  rw [hs]
  simpa [hx] using hf
/-- The same as one step of a region that draws its order. -/
theorem step_build1 {P : Program} {ops : Array Oper} {o : Oper} {a : Act} {w : World} {K : Act → World → Prop} {Q : Exit → Act → World → Prop} {E : Prop} (hg : o.guard = none) (t e : TypeId) (x : Operand) (ho : o.op = .buildSlice t 1 #[(0, x)])
    (ie : TypeInfo) (z : Value) (hu : P.underlying t = some (.slice e)) (hie : P.info? e = some ie) (hz : ie.zero = some z) (sz : Nat) (hs : ie.size = sz) (vs : List Value) (hx : a.eval x = .agg vs.toArray)
    (hf : Instr.fill (fun i => some (i * sz, sz)) ((Array.range (1 * sz)).map (z.cells[· % z.cells.size]!)) [(0, .agg vs.toArray)] = some vs.toArray) (h0 : 0 < sz) (h1 : sz ≤ 1000)
    (h : K (a.put o.dst (.slice (some ⟨w.heap.size, 0, none⟩) 1 1)) (w.alloc (.cells vs.toArray e))) : if Region.wanted o (yielded ops a.tmps) = true then Oper.wp P o a w K Q else E := by
  have hw : Region.wanted o (yielded ops a.tmps) = true := by simp [Region.wanted, hg]
  rw [if_pos hw]
  refine wp_buildSlice t e 1 _ ho vs.toArray ie z hu hie hz (by rw [hs]; omega) (by rw [hs]; omega) ?_ h
  rw [hs]
  simpa [hx] using hf
/-- An append to a row of the call's own, as one step of a region that draws its order. -/
theorem step_append {P : Program} {ops : Array Oper} {o : Oper} {a : Act} {w : World} {K : Act → World → Prop} {Q : Exit → Act → World → Prop} {E : Prop}
    (hg : o.guard = none) (s x : Operand) (t : TypeId) (hop : o.op = Op.call { callee := Callee.builtin Builtin.append, args := #[s, x], argTypes := #[t, t] })
    (B : Nat) (e : TypeId) (i : TypeInfo) (z : Value) (size bytes : Nat) (h1 : P.underlying t = some (.slice e)) (h2 : P.info? e = some i) (h3 : i.zero = some z) (h4 : i.size = size) (h5 : i.bytes = bytes) (h6 : z.cells.size = size) (h7 : 0 < size)
    (v : Value) (n : Nat) (xs : List Value) (hs : a.eval s = v) (hrow : w.ownsRow B e size v n xs)
    (ad : Addr) (m c : Nat) (news : List Value) (hx : a.eval x = .slice (some ad) m c) (hn : news.length = m * size) (hc : ∀ j u, news[j]? = some u → w.cell? (ad.add j) = some u) (h1c : ∀ u ∈ news, u.oneCell' = true)
    (b1 : n + m ≤ maxLen) (b2 : (n + m) * bytes ≤ 140737488355328) (hB : B ≤ w.heap.size)
    (hK : ∀ v' w', w'.ownsRow B e size v' (n + m) (xs ++ news) → w.grownBy w' v.ownBlock → (v'.ownBlock = v.ownBlock ∨ v'.ownBlock = some w.heap.size) → K (a.put o.dst v') w') :
    if Region.wanted o (yielded ops a.tmps) = true then Oper.wp P o a w K Q else E := by
  have hw : Region.wanted o (yielded ops a.tmps) = true := by simp [Region.wanted, hg]
  rw [if_pos hw]
  obtain ⟨v', w', hrun, r1, r2, -, r3⟩ := run_append_own_at (P := P) w B t o.type e i z size bytes h1 h2 h3 h4 h5 h6 h7 v n xs hrow ad m c news hn hc h1c b1 b2 hB
  have hk := hK v' w' r1 r2 r3
  unfold Oper.wp
  simp [execOp, hop, resolve, invoke, builtin, hs, hx, hrun, Result.andThen]
  exact hk
/-- An append's world: only the row's own block has turned, and the new row lies there or in a new block. -/
def Gx (sv : Value) (w : World) (v : Value) (w' : World) : Prop := w.grownBy w' sv.ownBlock ∧ (v.ownBlock = sv.ownBlock ∨ ∃ k, v.ownBlock = some k ∧ w.heap.size ≤ k)
theorem Gx.refl (v : Value) (w : World) : Gx v w v w := ⟨World.grownBy.refl _ _, Or.inl rfl⟩
theorem Gx.trans {a b c : Value} {w w1 w2 : World} (h : Gx a w b w1) (k : Gx b w1 c w2) : Gx a w c w2 := by
  refine ⟨World.grownBy.andThen h.1 k.1 (fun j e => ?_), ?_⟩
  · rcases h.2 with e2 | ⟨j2, e2, h2⟩
    · exact Or.inr (by rw [← e2, e])
    · rw [e2] at e; have := Option.some.inj e; exact Or.inl (by omega)
  · rcases k.2 with e | ⟨j, e, hj⟩
    · rw [e]; exact h.2
    · exact Or.inr ⟨j, e, Nat.le_trans h.1.size hj⟩
theorem Gx.pre {a b : Value} {w w1 w2 : World} (hb : Below w.heap.size w w1) (k : Gx a w1 b w2) : Gx a w b w2 :=
  ⟨gb_then (gb_below hb) k.1, k.2.imp id (fun ⟨j, e, hj⟩ => ⟨j, e, Nat.le_trans hb.size hj⟩)⟩
theorem Gx.post {a b : Value} {w w1 w2 : World} (k : Gx a w b w1) (hb : Below w1.heap.size w1 w2) : Gx a w b w2 := ⟨gb_then k.1 (gb_below hb), k.2⟩
theorem gx_app {v v' : Value} {w w' : World} (hg : w.grownBy w' v.ownBlock) (hat : v'.ownBlock = v.ownBlock ∨ v'.ownBlock = some w.heap.size) : Gx v w v' w' := ⟨hg, hat.imp id (fun e => ⟨_, e, Nat.le_refl _⟩)⟩
theorem Gx.blk {B n g : Nat} {v v' : Value} {w w' : World} {xs : List Value} {cs : Array Value} {t : TypeId} {fr : Nat × Nat} (h : Gx v w v' w') (ho : w.ownsRow B 82 3 v n xs) (hb : w.heap[g]? = some (.cells cs t fr)) (ht : t ≠ 82) : w'.heap[g]? = some (.cells cs t fr) := by
  rw [h.1.block g (blk_lt hb) (fun e => ?_)]
  · exact hb
  · obtain ⟨c, fz, hc⟩ := row_kind ho g e.symm
    rw [hb] at hc
    injection hc with hc
    injection hc with _ h2 _
    exact ht h2
theorem Gx.fresh {g : Nat} {v v' : Value} {w w' : World} {o : Obj} (h : Gx v w v' w') (hb : w.heap[g]? = some o) (hv : v.ownBlock ≠ some g) : w'.heap[g]? = some o := by
  rw [h.1.block g (blk_lt hb) (fun e => hv e.symm)]; exact hb
theorem gx_ne {a v : Value} {X w' : World} {r : Nat} (h : Gx a X v w') (ha : a.ownBlock ≠ some r) (hr : r < X.heap.size) : v.ownBlock ≠ some r := fun e => by
  rcases h.2 with h2 | ⟨j, h2, h3⟩
  · exact ha (h2.symm.trans e)
  · rw [h2] at e
    have := Option.some.inj e
    omega
theorem Gx.kn {B n : Nat} {v v' : Value} {w w' : World} {xs : List Value} (h : Gx v w v' w') (ho : w.ownsRow B 82 3 v n xs) {ok : Nat → Prop} : Kn ok w w' := fun g C fr _ hc => h.blk ho hc (by decide)
def opCs (L : List Po) : List Value := L.flatMap Po.cells
/-- A row of Ops of the call's own. -/
def OwnO (B : Nat) (w : World) (v : Value) (L : List Po) : Prop := w.ownsRow B 82 3 v L.length (opCs L)
theorem OwnO.below {B : Nat} {w w' : World} {v : Value} {L : List Po} (h : OwnO B w v L) (hb : Below w.heap.size w w') : OwnO B w' v L := row_below h hb
theorem OwnO.snoc {B : Nat} {w : World} {v : Value} {L : List Po} {o : Po} (h : w.ownsRow B 82 3 v (L.length + 1) (opCs L ++ o.cells)) : OwnO B w v (L ++ [o]) := by
  unfold OwnO opCs
  rw [List.length_append, List.flatMap_append]
  simpa [opCs] using h
theorem newsO (w : World) (o : Po) : ∀ j u, o.cells[j]? = some u → (w.alloc (.cells o.cells.toArray 82)).cell? ((⟨w.heap.size, 0, none⟩ : Addr).add j) = some u := fun j u hu => by
  rw [Addr.add_lit, Nat.zero_add, blk_cell (blk_new w _) j]; simpa using hu
theorem newsO' (w : World) (o : Po) (g : Nat) (hg : g = w.heap.size) : ∀ j u, o.cells[j]? = some u → (w.alloc (.cells o.cells.toArray 82)).cell? ((⟨g, 0, none⟩ : Addr).add j) = some u := by subst hg; exact newsO w o
theorem newsB {w : World} {g : Nat} {o : Po} {fr : Nat × Nat} (h : w.heap[g]? = some (.cells o.cells.toArray 82 fr)) : ∀ j u, o.cells[j]? = some u → w.cell? ((⟨g, 0, none⟩ : Addr).add j) = some u := fun j u hu => by
  rw [Addr.add_lit, Nat.zero_add, blk_cell h j]; simpa using hu
theorem oneO (o : Po) : ∀ u ∈ o.cells, u.oneCell' = true := fun u hu => by simp [Po.cells] at hu; rcases hu with rfl | rfl | rfl <;> rfl
/-- What appendPostfix promises. -/
def PfC (t : Tr) : Prop := ∀ (v sv : Value) (L : List Po) (B : Nat) (w : World), Nq w (fun _ => True) v t → OwnO B w sv L → B ≤ w.heap.size → L.length + t.pf.length ≤ 100000 →
  Calls Tryd.prog 68 #[sv, v] w fun e w' => ∃ v', e = .returned v' ∧ OwnO B w' v' (L ++ t.pf) ∧ Gx sv w v' w'

set_option maxHeartbeats 6400000 in
set_option maxRecDepth 1000000 in
theorem pf_leaf (o : Po) : PfC (.leaf o) := by
  intro v sv L B w hq hown hB hlen
  obtain ⟨i0, hi, hz0, hz1, hz2⟩ := info_parts infoO
  cases hq
  have h1 : L.length + 1 ≤ 100000 := by simpa [Tr.pf] using hlen
  obtain ⟨sa, sn, sc, rfl⟩ : ∃ a n c, sv = .slice a n c := by obtain ⟨a, c, rfl, -⟩ := row_shape hown; exact ⟨_, _, _, rfl⟩
  unfold opV
  obtain ⟨BOX, hBOX⟩ : ∃ v, v = Value.agg #[.int .i64 o.k, .int .i64 o.v, .string ⟨o.n.toArray⟩] := ⟨_, rfl⟩
  have ta0 := as_leaf_pre BOX
  have ta1 := as_leaf_bin BOX
  have ta2 := as_leaf_call BOX
  have ta3 := as_leaf_leaf BOX
  subst hBOX
  have A1 : Hid (Below w.heap.size w (w.alloc (.cells #[.int .i64 o.k, .int .i64 o.v, .string ⟨o.n.toArray⟩] 123))) := below_alloc' (Below.refl _ _) _
  have A2 : Hid (Below w.heap.size w ((w.alloc (.cells #[.int .i64 o.k, .int .i64 o.v, .string ⟨o.n.toArray⟩] 123)).alloc (.cells o.cells.toArray 82))) := below_alloc' A1.out _
  have O2 := Hid.mk (hown.below A2.out)
  have hBW : B ≤ (w.alloc (.cells #[.int .i64 o.k, .int .i64 o.v, .string ⟨o.n.toArray⟩] 123)).heap.size := Nat.le_trans hB A1.out.size
  clear hown hlen
  go_enter Tryd.func68, Tryd.ntmps68
  go_wp2_with (at_builtin; go_must (refine wpList_append_own_at _ rfl _ _ 43 rfl B 82 i0 (.agg #[.int .i64 0, .int .i64 0, .string ⟨#[]⟩]) 3 32 Tryd.underlying43 hi hz0 hz1 hz2 rfl (by decide) _ _ _ rfl O2.out ⟨w.heap.size + 1, 0, none⟩ 1 1 (o).cells rfl rfl (newsO' (w.alloc (.cells #[.int .i64 o.k, .int .i64 o.v, .string ⟨o.n.toArray⟩] 123)) o _ (by simp)) (oneO o) (by unfold maxLen; omega) (by omega) (by simp; omega) ?_))
  intro v' w1 hown' hgrow _ hat
  have HO := Hid.mk (OwnO.snoc hown')
  have HK := Hid.mk (Gx.pre A2.out (gx_app hgrow (by simpa using hat)))
  clear hown' hgrow hat
  refine Hid.out ?_
  refine Lib.hid ?_
  go_wp2
  go_ret
  exact ⟨_, rfl, HO.out, HK.out⟩

set_option maxHeartbeats 6400000 in
set_option maxRecDepth 1000000 in
theorem pf_pre (o : Po) (x : Tr) (hx : PfC x) : PfC (.pre o x) := by
  intro v sv L B w hq hown hB hlen
  obtain ⟨i0, hi, hz0, hz1, hz2⟩ := info_parts infoO
  cases hq with
  | pre _ vx _ qx =>
    have h1 : L.length + (x.pf.length) + 1 ≤ 100000 := by simp only [Tr.pf, List.length_append, List.length_singleton] at hlen; omega
    obtain ⟨sa, sn, sc, rfl⟩ : ∃ a n c, sv = .slice a n c := by obtain ⟨a, c, rfl, -⟩ := row_shape hown; exact ⟨_, _, _, rfl⟩
    obtain ⟨Tx, ux, rfl⟩ := qx.form
    obtain ⟨BOX, hBOX⟩ : ∃ v, v = Value.agg #[.int .i64 o.k, .int .i64 o.v, .string ⟨o.n.toArray⟩, .iface Tx ux] := ⟨_, rfl⟩
    have ta0 := as_pre_pre BOX
    subst hBOX
    obtain ⟨W1, hW1⟩ : ∃ W, W = w.alloc (.cells #[.int .i64 o.k, .int .i64 o.v, .string ⟨o.n.toArray⟩, .iface Tx ux] 116) := ⟨_, rfl⟩
    have A1 : Hid (Below w.heap.size w W1) := by rw [hW1]; exact below_alloc' (Below.refl _ _) _
    have R1 : Hid (W1.heap[w.heap.size]? = some (.cells #[.int .i64 o.k, .int .i64 o.v, .string ⟨o.n.toArray⟩, .iface Tx ux] 116)) := by rw [hW1]; exact blk_new _ _
    have AD : Hid (Below w.heap.size w W1.drew) := A1.out.drew
    have D1 : Hid (Below W1.heap.size W1 W1.drew) := (Below.refl _ _).drew
    have O1 := Hid.mk (hown.below AD.out)
    have Qx := Hid.mk (qx.keep (kn_below AD.out))
    have hB1 : B ≤ W1.heap.size := Nat.le_trans hB A1.out.size
    have hB1d : B ≤ W1.drew.heap.size := hB1
    have hsv : Hid (∀ g, (Value.slice sa sn sc).ownBlock = some g → g < w.heap.size) := fun g e => (hown.lt g e).2
    have HS : Hid ((fun w' => w'.cell? ⟨w.heap.size, 0, none⟩ = some (.int .i64 o.k) ∧ w'.cell? ⟨w.heap.size, 1, none⟩ = some (.int .i64 o.v) ∧ w'.cell? ⟨w.heap.size, 2, none⟩ = some (.string ⟨o.n.toArray⟩) ∧ w'.cell? ⟨w.heap.size, 3, none⟩ = some (.iface Tx ux)) W1) := ⟨(blk_cell (R1.out) 0).trans rfl, (blk_cell (R1.out) 1).trans rfl, (blk_cell (R1.out) 2).trans rfl, (blk_cell (R1.out) 3).trans rfl⟩
    have HLO : Hid (L.length = (L.length)) := rfl
    clear hown hlen qx
    go_enter Tryd.func68, Tryd.ntmps68
    go_upto_region 4 with fail
    rw [← hW1]
    clear hW1
    have BX0 := Hid.mk (blk_below R1.out D1.out)
    have GX0 : Hid (Gx (.slice sa sn sc) w (.slice sa sn sc) W1.drew) := (Gx.refl _ _).post AD.out
    refine wp_region_held_drew (S := (fun w' => w'.cell? ⟨w.heap.size, 0, none⟩ = some (.int .i64 o.k) ∧ w'.cell? ⟨w.heap.size, 1, none⟩ = some (.int .i64 o.v) ∧ w'.cell? ⟨w.heap.size, 2, none⟩ = some (.string ⟨o.n.toArray⟩) ∧ w'.cell? ⟨w.heap.size, 3, none⟩ = some (.iface Tx ux))) (by kernel_rfl) ?_ (fun hHeld => ?_)
    · exact HS.out
    refine wpAnyH_take (i := 0) (v := ?_) rfl (by kernel_rfl) (by kernel_rfl) (by kernel_rfl) (fun _ _ _ h => h) (Or.inl ⟨by rfl, ?_⟩) (by assumption) ?_
    rotate_left
    · intro w hSw; (try dsimp only at hSw); go_simp; (try with_reducible rfl)
    rotate_left
    simp only [Act.put, List.setIfInBounds_toArray, List.set_cons_zero, List.set_cons_succ, List.getElem_toArray, List.getElem_cons_zero, List.getElem_cons_succ]
    refine wpAnyH_take (i := 1) (v := ?_) rfl (by kernel_rfl) (by kernel_rfl) (by kernel_rfl) (fun _ _ _ h => h) (Or.inl ⟨by rfl, ?_⟩) (by assumption) ?_
    rotate_left
    · intro w hSw; (try dsimp only at hSw); go_simp; (try with_reducible rfl)
    rotate_left
    simp only [Act.put, List.setIfInBounds_toArray, List.set_cons_zero, List.set_cons_succ, List.getElem_toArray, List.getElem_cons_zero, List.getElem_cons_succ]
    refine wpAnyH_take (i := 2) (v := ?_) rfl (by kernel_rfl) (by kernel_rfl) (by kernel_rfl) (fun _ _ _ h => h) (Or.inl ⟨by rfl, ?_⟩) (by assumption) ?_
    rotate_left
    · intro w hSw; (try dsimp only at hSw); go_simp; (try with_reducible rfl)
    rotate_left
    simp only [Act.put, List.setIfInBounds_toArray, List.set_cons_zero, List.set_cons_succ, List.getElem_toArray, List.getElem_cons_zero, List.getElem_cons_succ]
    refine wpAnyH_take (i := 4) (v := ?_) rfl (by kernel_rfl) (by kernel_rfl) (by kernel_rfl) (fun _ _ _ h => h) (Or.inl ⟨by rfl, ?_⟩) (by assumption) ?_
    rotate_left
    · intro w hSw; (try dsimp only at hSw); go_simp; (try with_reducible rfl)
    rotate_left
    simp only [Act.put, List.setIfInBounds_toArray, List.set_cons_zero, List.set_cons_succ, List.getElem_toArray, List.getElem_cons_zero, List.getElem_cons_succ]
    refine wpAnyH_take (i := 5) (v := ?_) rfl (by kernel_rfl) (by kernel_rfl) (by kernel_rfl) (fun _ _ _ h => h) (Or.inl ⟨by rfl, ?_⟩) (by assumption) ?_
    rotate_left
    · intro w hSw; (try dsimp only at hSw); go_simp; (try with_reducible rfl)
    rotate_left
    simp only [Act.put, List.setIfInBounds_toArray, List.set_cons_zero, List.set_cons_succ, List.getElem_toArray, List.getElem_cons_zero, List.getElem_cons_succ]
    refine wpAnyH_ready (rs := [3, 6]) (by kernel_rfl) (by simp) ?_
    refine AllReadyH.cons rfl (fun K hK => ?_) ?_
    · go_simp
      refine (hx (.iface Tx ux) (Value.slice sa sn sc) L B W1.drew Qx.out O1.out hB1d (by (try simp only [List.length_append]); omega)).mono ?_
      rintro e w1 ⟨v1, rfl, o1, g1⟩
      obtain ⟨a1, n1, c1, rfl⟩ : ∃ a n c, v1 = .slice a n c := by obtain ⟨a, c, e, -⟩ := row_shape o1; exact ⟨_, _, _, e⟩
      have OW1 := Hid.mk o1
      have BX1 := Hid.mk (g1.blk O1.out BX0.out (by decide))
      have GX1 := Hid.mk ((GX0.out).trans g1)
      have hb1 : B ≤ w1.heap.size := Nat.le_trans hB1d g1.1.size
      have Qx1 := Hid.mk ((Qx.out).keep (g1.kn O1.out))
      have GY1 := Hid.mk g1
      clear o1 g1
      refine hK.out _ _ ?_ (fun hHeld => ?_)
      · exact ⟨(blk_cell (BX1.out) 0).trans rfl, (blk_cell (BX1.out) 1).trans rfl, (blk_cell (BX1.out) 2).trans rfl, (blk_cell (BX1.out) 3).trans rfl⟩
      clear hK K
      (try simp only [Act.put, List.setIfInBounds_toArray, List.set_cons_zero, List.set_cons_succ, List.getElem_toArray, List.getElem_cons_zero, List.getElem_cons_succ])
      refine wpAnyH_ready (rs := [6]) (by kernel_rfl) (by simp) ?_
      refine AllReadyH.cons rfl (fun K hK => ?_) ?_
      · refine step_build1 rfl 43 82 (.tmp 20) rfl i0 _ Tryd.underlying43 hi hz0 3 hz1 o.cells (by simp [Act.eval, Act.put, Po.cells]) (fillO _ _ _) (by decide) (by decide) ?_
        have AB2 : Hid (Below (w1).heap.size (w1) ((w1).alloc (.cells o.cells.toArray 82))) := below_alloc' (Below.refl _ _) _
        have OW2 := Hid.mk (OwnO.below (OW1.out) AB2.out)
        have BX2 := Hid.mk (blk_below (BX1.out) AB2.out)
        have GX2 := Hid.mk ((GX1.out).post AB2.out)
        have NB2 := Hid.mk (blk_new (w1) (.cells o.cells.toArray 82))
        have hb2 : B ≤ ((w1).alloc (.cells o.cells.toArray 82)).heap.size := Nat.le_trans hb1 AB2.out.size
        have Qx2 := Hid.mk ((Qx1.out).keep (kn_below AB2.out))
        refine hK.out _ _ ?_ (fun hHeld => ?_)
        · exact ⟨(blk_cell (BX2.out) 0).trans rfl, (blk_cell (BX2.out) 1).trans rfl, (blk_cell (BX2.out) 2).trans rfl, (blk_cell (BX2.out) 3).trans rfl⟩
        clear hK K
        (try simp only [Act.put, List.setIfInBounds_toArray, List.set_cons_zero, List.set_cons_succ, List.getElem_toArray, List.getElem_cons_zero, List.getElem_cons_succ])
        refine wpAnyH_ready (rs := [7]) (by kernel_rfl) (by simp) ?_
        refine AllReadyH.cons rfl (fun K hK => ?_) ?_
        · refine step_append rfl (.tmp 18) (.tmp 21) 43 rfl B 82 i0 (.agg #[.int .i64 0, .int .i64 0, .string ⟨#[]⟩]) 3 32 Tryd.underlying43 hi hz0 hz1 hz2 rfl (by decide) (Value.slice a1 n1 c1) _ _ (by simp [Act.eval, Act.put]) OW2.out ⟨(w1).heap.size, 0, none⟩ 1 1 o.cells (by simp [Act.eval, Act.put]) rfl (newsB (NB2.out)) (oneO o) (by unfold maxLen; (try simp only [List.length_append]); omega) (by (try simp only [List.length_append]); omega) hb2 ?_
          intro v3 w3 hown hgrow hat
          have HO := Hid.mk (OwnO.snoc hown)
          have HG := Hid.mk ((GX2.out).trans (gx_app hgrow hat))
          have HSZ : Hid ((fun w' => w'.cell? ⟨w.heap.size, 0, none⟩ = some (.int .i64 o.k) ∧ w'.cell? ⟨w.heap.size, 1, none⟩ = some (.int .i64 o.v) ∧ w'.cell? ⟨w.heap.size, 2, none⟩ = some (.string ⟨o.n.toArray⟩) ∧ w'.cell? ⟨w.heap.size, 3, none⟩ = some (.iface Tx ux)) w3) := ⟨(blk_cell ((gx_app hgrow hat).blk OW2.out BX2.out (by decide)) 0).trans rfl, (blk_cell ((gx_app hgrow hat).blk OW2.out BX2.out (by decide)) 1).trans rfl, (blk_cell ((gx_app hgrow hat).blk OW2.out BX2.out (by decide)) 2).trans rfl, (blk_cell ((gx_app hgrow hat).blk OW2.out BX2.out (by decide)) 3).trans rfl⟩
          clear hown hgrow hat
          refine hK.out _ _ ?_ (fun hHeld => ?_)
          · exact HSZ.out
          clear hK K
          (try simp only [Act.put, List.setIfInBounds_toArray, List.set_cons_zero, List.set_cons_succ, List.getElem_toArray, List.getElem_cons_zero, List.getElem_cons_succ])
          refine wpAnyH_take (i := 8) (v := ?_) rfl (by kernel_rfl) (by kernel_rfl) (by kernel_rfl) (fun _ _ _ h => h) (Or.inl ⟨by rfl, ?_⟩) (by assumption) ?_
          rotate_left
          · intro w hSw; (try dsimp only at hSw); go_simp; (try with_reducible rfl)
          rotate_left
          simp only [Act.put, List.setIfInBounds_toArray, List.set_cons_zero, List.set_cons_succ, List.getElem_toArray, List.getElem_cons_zero, List.getElem_cons_succ]
          refine wpAnyH_done (by kernel_rfl) ?_ _
          go_wp2
          go_ret
          exact ⟨_, rfl, by simpa [Tr.pf] using HO.out, HG.out⟩
        exact AllReadyH.nil
      exact AllReadyH.nil
    refine AllReadyH.cons rfl (fun K hK => ?_) ?_
    · refine step_build1 rfl 43 82 (.tmp 20) rfl i0 _ Tryd.underlying43 hi hz0 3 hz1 o.cells (by simp [Act.eval, Act.put, Po.cells]) (fillO _ _ _) (by decide) (by decide) ?_
      have AB1 : Hid (Below (W1.drew).heap.size (W1.drew) ((W1.drew).alloc (.cells o.cells.toArray 82))) := below_alloc' (Below.refl _ _) _
      have OW1 := Hid.mk (OwnO.below (O1.out) AB1.out)
      have BX1 := Hid.mk (blk_below (BX0.out) AB1.out)
      have GX1 := Hid.mk ((GX0.out).post AB1.out)
      have NB1 := Hid.mk (blk_new (W1.drew) (.cells o.cells.toArray 82))
      have hb1 : B ≤ ((W1.drew).alloc (.cells o.cells.toArray 82)).heap.size := Nat.le_trans hB1d AB1.out.size
      have Qx1 := Hid.mk ((Qx.out).keep (kn_below AB1.out))
      refine hK.out _ _ ?_ (fun hHeld => ?_)
      · exact ⟨(blk_cell (BX1.out) 0).trans rfl, (blk_cell (BX1.out) 1).trans rfl, (blk_cell (BX1.out) 2).trans rfl, (blk_cell (BX1.out) 3).trans rfl⟩
      clear hK K
      (try simp only [Act.put, List.setIfInBounds_toArray, List.set_cons_zero, List.set_cons_succ, List.getElem_toArray, List.getElem_cons_zero, List.getElem_cons_succ])
      refine wpAnyH_ready (rs := [3]) (by kernel_rfl) (by simp) ?_
      refine AllReadyH.cons rfl (fun K hK => ?_) ?_
      · go_simp
        refine (hx (.iface Tx ux) (Value.slice sa sn sc) L B ((W1.drew).alloc (.cells o.cells.toArray 82)) Qx1.out OW1.out hb1 (by (try simp only [List.length_append]); omega)).mono ?_
        rintro e w2 ⟨v2, rfl, o2, g2⟩
        obtain ⟨a2, n2, c2, rfl⟩ : ∃ a n c, v2 = .slice a n c := by obtain ⟨a, c, e, -⟩ := row_shape o2; exact ⟨_, _, _, e⟩
        have OW2 := Hid.mk o2
        have BX2 := Hid.mk (g2.blk OW1.out BX1.out (by decide))
        have GX2 := Hid.mk ((GX1.out).trans g2)
        have hb2 : B ≤ w2.heap.size := Nat.le_trans hb1 g2.1.size
        have Qx2 := Hid.mk ((Qx1.out).keep (g2.kn OW1.out))
        have NB2 := Hid.mk (g2.fresh (NB1.out) (fun e => absurd (((O1.out).lt _ e).2) (Nat.lt_irrefl _)))
        have GY2 := Hid.mk g2
        clear o2 g2
        refine hK.out _ _ ?_ (fun hHeld => ?_)
        · exact ⟨(blk_cell (BX2.out) 0).trans rfl, (blk_cell (BX2.out) 1).trans rfl, (blk_cell (BX2.out) 2).trans rfl, (blk_cell (BX2.out) 3).trans rfl⟩
        clear hK K
        (try simp only [Act.put, List.setIfInBounds_toArray, List.set_cons_zero, List.set_cons_succ, List.getElem_toArray, List.getElem_cons_zero, List.getElem_cons_succ])
        refine wpAnyH_ready (rs := [7]) (by kernel_rfl) (by simp) ?_
        refine AllReadyH.cons rfl (fun K hK => ?_) ?_
        · refine step_append rfl (.tmp 18) (.tmp 21) 43 rfl B 82 i0 (.agg #[.int .i64 0, .int .i64 0, .string ⟨#[]⟩]) 3 32 Tryd.underlying43 hi hz0 hz1 hz2 rfl (by decide) (Value.slice a2 n2 c2) _ _ (by simp [Act.eval, Act.put]) OW2.out ⟨(W1.drew).heap.size, 0, none⟩ 1 1 o.cells (by simp [Act.eval, Act.put]) rfl (newsB (NB2.out)) (oneO o) (by unfold maxLen; (try simp only [List.length_append]); omega) (by (try simp only [List.length_append]); omega) hb2 ?_
          intro v3 w3 hown hgrow hat
          have HO := Hid.mk (OwnO.snoc hown)
          have HG := Hid.mk ((GX2.out).trans (gx_app hgrow hat))
          have HSZ : Hid ((fun w' => w'.cell? ⟨w.heap.size, 0, none⟩ = some (.int .i64 o.k) ∧ w'.cell? ⟨w.heap.size, 1, none⟩ = some (.int .i64 o.v) ∧ w'.cell? ⟨w.heap.size, 2, none⟩ = some (.string ⟨o.n.toArray⟩) ∧ w'.cell? ⟨w.heap.size, 3, none⟩ = some (.iface Tx ux)) w3) := ⟨(blk_cell ((gx_app hgrow hat).blk OW2.out BX2.out (by decide)) 0).trans rfl, (blk_cell ((gx_app hgrow hat).blk OW2.out BX2.out (by decide)) 1).trans rfl, (blk_cell ((gx_app hgrow hat).blk OW2.out BX2.out (by decide)) 2).trans rfl, (blk_cell ((gx_app hgrow hat).blk OW2.out BX2.out (by decide)) 3).trans rfl⟩
          clear hown hgrow hat
          refine hK.out _ _ ?_ (fun hHeld => ?_)
          · exact HSZ.out
          clear hK K
          (try simp only [Act.put, List.setIfInBounds_toArray, List.set_cons_zero, List.set_cons_succ, List.getElem_toArray, List.getElem_cons_zero, List.getElem_cons_succ])
          refine wpAnyH_take (i := 8) (v := ?_) rfl (by kernel_rfl) (by kernel_rfl) (by kernel_rfl) (fun _ _ _ h => h) (Or.inl ⟨by rfl, ?_⟩) (by assumption) ?_
          rotate_left
          · intro w hSw; (try dsimp only at hSw); go_simp; (try with_reducible rfl)
          rotate_left
          simp only [Act.put, List.setIfInBounds_toArray, List.set_cons_zero, List.set_cons_succ, List.getElem_toArray, List.getElem_cons_zero, List.getElem_cons_succ]
          refine wpAnyH_done (by kernel_rfl) ?_ _
          go_wp2
          go_ret
          exact ⟨_, rfl, by simpa [Tr.pf] using HO.out, HG.out⟩
        exact AllReadyH.nil
      exact AllReadyH.nil
    exact AllReadyH.nil

set_option maxHeartbeats 6400000 in
set_option maxRecDepth 1000000 in
theorem pf_bin (o : Po) (x y : Tr) (hx : PfC x) (hy : PfC y) : PfC (.bin o x y) := by
  intro v sv L B w hq hown hB hlen
  obtain ⟨i0, hi, hz0, hz1, hz2⟩ := info_parts infoO
  cases hq with
  | bin _ vx vy _ _ qx qy =>
    have h1 : L.length + (x.pf.length + y.pf.length) + 1 ≤ 100000 := by simp only [Tr.pf, List.length_append, List.length_singleton] at hlen; omega
    obtain ⟨sa, sn, sc, rfl⟩ : ∃ a n c, sv = .slice a n c := by obtain ⟨a, c, rfl, -⟩ := row_shape hown; exact ⟨_, _, _, rfl⟩
    obtain ⟨Tx, ux, rfl⟩ := qx.form
    obtain ⟨Ty, uy, rfl⟩ := qy.form
    obtain ⟨BOX, hBOX⟩ : ∃ v, v = Value.agg #[.int .i64 o.k, .int .i64 o.v, .string ⟨o.n.toArray⟩, .iface Tx ux, .iface Ty uy] := ⟨_, rfl⟩
    have ta0 := as_bin_pre BOX
    have ta1 := as_bin_bin BOX
    subst hBOX
    obtain ⟨W1, hW1⟩ : ∃ W, W = w.alloc (.cells #[.int .i64 o.k, .int .i64 o.v, .string ⟨o.n.toArray⟩, .iface Tx ux, .iface Ty uy] 118) := ⟨_, rfl⟩
    have A1 : Hid (Below w.heap.size w W1) := by rw [hW1]; exact below_alloc' (Below.refl _ _) _
    have R1 : Hid (W1.heap[w.heap.size]? = some (.cells #[.int .i64 o.k, .int .i64 o.v, .string ⟨o.n.toArray⟩, .iface Tx ux, .iface Ty uy] 118)) := by rw [hW1]; exact blk_new _ _
    have AD : Hid (Below w.heap.size w W1.drew) := A1.out.drew
    have D1 : Hid (Below W1.heap.size W1 W1.drew) := (Below.refl _ _).drew
    have O1 := Hid.mk (hown.below AD.out)
    have Qx := Hid.mk (qx.keep (kn_below AD.out))
    have Qy := Hid.mk (qy.keep (kn_below AD.out))
    have hB1 : B ≤ W1.heap.size := Nat.le_trans hB A1.out.size
    have hB1d : B ≤ W1.drew.heap.size := hB1
    have hsv : Hid (∀ g, (Value.slice sa sn sc).ownBlock = some g → g < w.heap.size) := fun g e => (hown.lt g e).2
    have HS : Hid ((fun w' => w'.cell? ⟨w.heap.size, 0, none⟩ = some (.int .i64 o.k) ∧ w'.cell? ⟨w.heap.size, 1, none⟩ = some (.int .i64 o.v) ∧ w'.cell? ⟨w.heap.size, 2, none⟩ = some (.string ⟨o.n.toArray⟩) ∧ w'.cell? ⟨w.heap.size, 3, none⟩ = some (.iface Tx ux) ∧ w'.cell? ⟨w.heap.size, 4, none⟩ = some (.iface Ty uy)) W1) := ⟨(blk_cell (R1.out) 0).trans rfl, (blk_cell (R1.out) 1).trans rfl, (blk_cell (R1.out) 2).trans rfl, (blk_cell (R1.out) 3).trans rfl, (blk_cell (R1.out) 4).trans rfl⟩
    have HLO : Hid (L.length = (L.length)) := rfl
    clear hown hlen qx qy
    go_enter Tryd.func68, Tryd.ntmps68
    go_upto_region 7 with fail
    rw [← hW1]
    clear hW1
    have BX0 := Hid.mk (blk_below R1.out D1.out)
    have GX0 : Hid (Gx (.slice sa sn sc) w (.slice sa sn sc) W1.drew) := (Gx.refl _ _).post AD.out
    refine wp_region_held_drew (S := (fun w' => w'.cell? ⟨w.heap.size, 0, none⟩ = some (.int .i64 o.k) ∧ w'.cell? ⟨w.heap.size, 1, none⟩ = some (.int .i64 o.v) ∧ w'.cell? ⟨w.heap.size, 2, none⟩ = some (.string ⟨o.n.toArray⟩) ∧ w'.cell? ⟨w.heap.size, 3, none⟩ = some (.iface Tx ux) ∧ w'.cell? ⟨w.heap.size, 4, none⟩ = some (.iface Ty uy))) (by kernel_rfl) ?_ (fun hHeld => ?_)
    · exact HS.out
    refine wpAnyH_take (i := 0) (v := ?_) rfl (by kernel_rfl) (by kernel_rfl) (by kernel_rfl) (fun _ _ _ h => h) (Or.inl ⟨by rfl, ?_⟩) (by assumption) ?_
    rotate_left
    · intro w hSw; (try dsimp only at hSw); go_simp; (try with_reducible rfl)
    rotate_left
    simp only [Act.put, List.setIfInBounds_toArray, List.set_cons_zero, List.set_cons_succ, List.getElem_toArray, List.getElem_cons_zero, List.getElem_cons_succ]
    refine wpAnyH_take (i := 1) (v := ?_) rfl (by kernel_rfl) (by kernel_rfl) (by kernel_rfl) (fun _ _ _ h => h) (Or.inl ⟨by rfl, ?_⟩) (by assumption) ?_
    rotate_left
    · intro w hSw; (try dsimp only at hSw); go_simp; (try with_reducible rfl)
    rotate_left
    simp only [Act.put, List.setIfInBounds_toArray, List.set_cons_zero, List.set_cons_succ, List.getElem_toArray, List.getElem_cons_zero, List.getElem_cons_succ]
    refine wpAnyH_take (i := 2) (v := ?_) rfl (by kernel_rfl) (by kernel_rfl) (by kernel_rfl) (fun _ _ _ h => h) (Or.inl ⟨by rfl, ?_⟩) (by assumption) ?_
    rotate_left
    · intro w hSw; (try dsimp only at hSw); go_simp; (try with_reducible rfl)
    rotate_left
    simp only [Act.put, List.setIfInBounds_toArray, List.set_cons_zero, List.set_cons_succ, List.getElem_toArray, List.getElem_cons_zero, List.getElem_cons_succ]
    refine wpAnyH_take (i := 4) (v := ?_) rfl (by kernel_rfl) (by kernel_rfl) (by kernel_rfl) (fun _ _ _ h => h) (Or.inl ⟨by rfl, ?_⟩) (by assumption) ?_
    rotate_left
    · intro w hSw; (try dsimp only at hSw); go_simp; (try with_reducible rfl)
    rotate_left
    simp only [Act.put, List.setIfInBounds_toArray, List.set_cons_zero, List.set_cons_succ, List.getElem_toArray, List.getElem_cons_zero, List.getElem_cons_succ]
    refine wpAnyH_take (i := 5) (v := ?_) rfl (by kernel_rfl) (by kernel_rfl) (by kernel_rfl) (fun _ _ _ h => h) (Or.inl ⟨by rfl, ?_⟩) (by assumption) ?_
    rotate_left
    · intro w hSw; (try dsimp only at hSw); go_simp; (try with_reducible rfl)
    rotate_left
    simp only [Act.put, List.setIfInBounds_toArray, List.set_cons_zero, List.set_cons_succ, List.getElem_toArray, List.getElem_cons_zero, List.getElem_cons_succ]
    refine wpAnyH_take (i := 7) (v := ?_) rfl (by kernel_rfl) (by kernel_rfl) (by kernel_rfl) (fun _ _ _ h => h) (Or.inl ⟨by rfl, ?_⟩) (by assumption) ?_
    rotate_left
    · intro w hSw; (try dsimp only at hSw); go_simp; (try with_reducible rfl)
    rotate_left
    simp only [Act.put, List.setIfInBounds_toArray, List.set_cons_zero, List.set_cons_succ, List.getElem_toArray, List.getElem_cons_zero, List.getElem_cons_succ]
    refine wpAnyH_take (i := 8) (v := ?_) rfl (by kernel_rfl) (by kernel_rfl) (by kernel_rfl) (fun _ _ _ h => h) (Or.inl ⟨by rfl, ?_⟩) (by assumption) ?_
    rotate_left
    · intro w hSw; (try dsimp only at hSw); go_simp; (try with_reducible rfl)
    rotate_left
    simp only [Act.put, List.setIfInBounds_toArray, List.set_cons_zero, List.set_cons_succ, List.getElem_toArray, List.getElem_cons_zero, List.getElem_cons_succ]
    refine wpAnyH_ready (rs := [3, 9]) (by kernel_rfl) (by simp) ?_
    refine AllReadyH.cons rfl (fun K hK => ?_) ?_
    · go_simp
      refine (hx (.iface Tx ux) (Value.slice sa sn sc) L B W1.drew Qx.out O1.out hB1d (by (try simp only [List.length_append]); omega)).mono ?_
      rintro e w1 ⟨v1, rfl, o1, g1⟩
      obtain ⟨a1, n1, c1, rfl⟩ : ∃ a n c, v1 = .slice a n c := by obtain ⟨a, c, e, -⟩ := row_shape o1; exact ⟨_, _, _, e⟩
      have OW1 := Hid.mk o1
      have BX1 := Hid.mk (g1.blk O1.out BX0.out (by decide))
      have GX1 := Hid.mk ((GX0.out).trans g1)
      have hb1 : B ≤ w1.heap.size := Nat.le_trans hB1d g1.1.size
      have Qx1 := Hid.mk ((Qx.out).keep (g1.kn O1.out))
      have Qy1 := Hid.mk ((Qy.out).keep (g1.kn O1.out))
      have GY1 := Hid.mk g1
      clear o1 g1
      refine hK.out _ _ ?_ (fun hHeld => ?_)
      · exact ⟨(blk_cell (BX1.out) 0).trans rfl, (blk_cell (BX1.out) 1).trans rfl, (blk_cell (BX1.out) 2).trans rfl, (blk_cell (BX1.out) 3).trans rfl, (blk_cell (BX1.out) 4).trans rfl⟩
      clear hK K
      (try simp only [Act.put, List.setIfInBounds_toArray, List.set_cons_zero, List.set_cons_succ, List.getElem_toArray, List.getElem_cons_zero, List.getElem_cons_succ])
      refine wpAnyH_ready (rs := [6, 9]) (by kernel_rfl) (by simp) ?_
      refine AllReadyH.cons rfl (fun K hK => ?_) ?_
      · go_simp
        refine (hy (.iface Ty uy) (Value.slice a1 n1 c1) (L ++ x.pf) B w1 Qy1.out OW1.out hb1 (by (try simp only [List.length_append]); omega)).mono ?_
        rintro e w2 ⟨v2, rfl, o2, g2⟩
        obtain ⟨a2, n2, c2, rfl⟩ : ∃ a n c, v2 = .slice a n c := by obtain ⟨a, c, e, -⟩ := row_shape o2; exact ⟨_, _, _, e⟩
        have OW2 := Hid.mk o2
        have BX2 := Hid.mk (g2.blk OW1.out BX1.out (by decide))
        have GX2 := Hid.mk ((GX1.out).trans g2)
        have hb2 : B ≤ w2.heap.size := Nat.le_trans hb1 g2.1.size
        have Qx2 := Hid.mk ((Qx1.out).keep (g2.kn OW1.out))
        have Qy2 := Hid.mk ((Qy1.out).keep (g2.kn OW1.out))
        have GY2 := Hid.mk g2
        clear o2 g2
        refine hK.out _ _ ?_ (fun hHeld => ?_)
        · exact ⟨(blk_cell (BX2.out) 0).trans rfl, (blk_cell (BX2.out) 1).trans rfl, (blk_cell (BX2.out) 2).trans rfl, (blk_cell (BX2.out) 3).trans rfl, (blk_cell (BX2.out) 4).trans rfl⟩
        clear hK K
        (try simp only [Act.put, List.setIfInBounds_toArray, List.set_cons_zero, List.set_cons_succ, List.getElem_toArray, List.getElem_cons_zero, List.getElem_cons_succ])
        refine wpAnyH_ready (rs := [9]) (by kernel_rfl) (by simp) ?_
        refine AllReadyH.cons rfl (fun K hK => ?_) ?_
        · refine step_build1 rfl 43 82 (.tmp 34) rfl i0 _ Tryd.underlying43 hi hz0 3 hz1 o.cells (by simp [Act.eval, Act.put, Po.cells]) (fillO _ _ _) (by decide) (by decide) ?_
          have AB3 : Hid (Below (w2).heap.size (w2) ((w2).alloc (.cells o.cells.toArray 82))) := below_alloc' (Below.refl _ _) _
          have OW3 := Hid.mk (OwnO.below (OW2.out) AB3.out)
          have BX3 := Hid.mk (blk_below (BX2.out) AB3.out)
          have GX3 := Hid.mk ((GX2.out).post AB3.out)
          have NB3 := Hid.mk (blk_new (w2) (.cells o.cells.toArray 82))
          have hb3 : B ≤ ((w2).alloc (.cells o.cells.toArray 82)).heap.size := Nat.le_trans hb2 AB3.out.size
          have Qx3 := Hid.mk ((Qx2.out).keep (kn_below AB3.out))
          have Qy3 := Hid.mk ((Qy2.out).keep (kn_below AB3.out))
          refine hK.out _ _ ?_ (fun hHeld => ?_)
          · exact ⟨(blk_cell (BX3.out) 0).trans rfl, (blk_cell (BX3.out) 1).trans rfl, (blk_cell (BX3.out) 2).trans rfl, (blk_cell (BX3.out) 3).trans rfl, (blk_cell (BX3.out) 4).trans rfl⟩
          clear hK K
          (try simp only [Act.put, List.setIfInBounds_toArray, List.set_cons_zero, List.set_cons_succ, List.getElem_toArray, List.getElem_cons_zero, List.getElem_cons_succ])
          refine wpAnyH_ready (rs := [10]) (by kernel_rfl) (by simp) ?_
          refine AllReadyH.cons rfl (fun K hK => ?_) ?_
          · refine step_append rfl (.tmp 32) (.tmp 35) 43 rfl B 82 i0 (.agg #[.int .i64 0, .int .i64 0, .string ⟨#[]⟩]) 3 32 Tryd.underlying43 hi hz0 hz1 hz2 rfl (by decide) (Value.slice a2 n2 c2) _ _ (by simp [Act.eval, Act.put]) OW3.out ⟨(w2).heap.size, 0, none⟩ 1 1 o.cells (by simp [Act.eval, Act.put]) rfl (newsB (NB3.out)) (oneO o) (by unfold maxLen; (try simp only [List.length_append]); omega) (by (try simp only [List.length_append]); omega) hb3 ?_
            intro v4 w4 hown hgrow hat
            have HO := Hid.mk (OwnO.snoc hown)
            have HG := Hid.mk ((GX3.out).trans (gx_app hgrow hat))
            have HSZ : Hid ((fun w' => w'.cell? ⟨w.heap.size, 0, none⟩ = some (.int .i64 o.k) ∧ w'.cell? ⟨w.heap.size, 1, none⟩ = some (.int .i64 o.v) ∧ w'.cell? ⟨w.heap.size, 2, none⟩ = some (.string ⟨o.n.toArray⟩) ∧ w'.cell? ⟨w.heap.size, 3, none⟩ = some (.iface Tx ux) ∧ w'.cell? ⟨w.heap.size, 4, none⟩ = some (.iface Ty uy)) w4) := ⟨(blk_cell ((gx_app hgrow hat).blk OW3.out BX3.out (by decide)) 0).trans rfl, (blk_cell ((gx_app hgrow hat).blk OW3.out BX3.out (by decide)) 1).trans rfl, (blk_cell ((gx_app hgrow hat).blk OW3.out BX3.out (by decide)) 2).trans rfl, (blk_cell ((gx_app hgrow hat).blk OW3.out BX3.out (by decide)) 3).trans rfl, (blk_cell ((gx_app hgrow hat).blk OW3.out BX3.out (by decide)) 4).trans rfl⟩
            clear hown hgrow hat
            refine hK.out _ _ ?_ (fun hHeld => ?_)
            · exact HSZ.out
            clear hK K
            (try simp only [Act.put, List.setIfInBounds_toArray, List.set_cons_zero, List.set_cons_succ, List.getElem_toArray, List.getElem_cons_zero, List.getElem_cons_succ])
            refine wpAnyH_take (i := 11) (v := ?_) rfl (by kernel_rfl) (by kernel_rfl) (by kernel_rfl) (fun _ _ _ h => h) (Or.inl ⟨by rfl, ?_⟩) (by assumption) ?_
            rotate_left
            · intro w hSw; (try dsimp only at hSw); go_simp; (try with_reducible rfl)
            rotate_left
            simp only [Act.put, List.setIfInBounds_toArray, List.set_cons_zero, List.set_cons_succ, List.getElem_toArray, List.getElem_cons_zero, List.getElem_cons_succ]
            refine wpAnyH_done (by kernel_rfl) ?_ _
            go_wp2
            go_ret
            exact ⟨_, rfl, by simpa [Tr.pf] using HO.out, HG.out⟩
          exact AllReadyH.nil
        exact AllReadyH.nil
      refine AllReadyH.cons rfl (fun K hK => ?_) ?_
      · refine step_build1 rfl 43 82 (.tmp 34) rfl i0 _ Tryd.underlying43 hi hz0 3 hz1 o.cells (by simp [Act.eval, Act.put, Po.cells]) (fillO _ _ _) (by decide) (by decide) ?_
        have AB2 : Hid (Below (w1).heap.size (w1) ((w1).alloc (.cells o.cells.toArray 82))) := below_alloc' (Below.refl _ _) _
        have OW2 := Hid.mk (OwnO.below (OW1.out) AB2.out)
        have BX2 := Hid.mk (blk_below (BX1.out) AB2.out)
        have GX2 := Hid.mk ((GX1.out).post AB2.out)
        have NB2 := Hid.mk (blk_new (w1) (.cells o.cells.toArray 82))
        have hb2 : B ≤ ((w1).alloc (.cells o.cells.toArray 82)).heap.size := Nat.le_trans hb1 AB2.out.size
        have Qx2 := Hid.mk ((Qx1.out).keep (kn_below AB2.out))
        have Qy2 := Hid.mk ((Qy1.out).keep (kn_below AB2.out))
        refine hK.out _ _ ?_ (fun hHeld => ?_)
        · exact ⟨(blk_cell (BX2.out) 0).trans rfl, (blk_cell (BX2.out) 1).trans rfl, (blk_cell (BX2.out) 2).trans rfl, (blk_cell (BX2.out) 3).trans rfl, (blk_cell (BX2.out) 4).trans rfl⟩
        clear hK K
        (try simp only [Act.put, List.setIfInBounds_toArray, List.set_cons_zero, List.set_cons_succ, List.getElem_toArray, List.getElem_cons_zero, List.getElem_cons_succ])
        refine wpAnyH_ready (rs := [6]) (by kernel_rfl) (by simp) ?_
        refine AllReadyH.cons rfl (fun K hK => ?_) ?_
        · go_simp
          refine (hy (.iface Ty uy) (Value.slice a1 n1 c1) (L ++ x.pf) B ((w1).alloc (.cells o.cells.toArray 82)) Qy2.out OW2.out hb2 (by (try simp only [List.length_append]); omega)).mono ?_
          rintro e w3 ⟨v3, rfl, o3, g3⟩
          obtain ⟨a3, n3, c3, rfl⟩ : ∃ a n c, v3 = .slice a n c := by obtain ⟨a, c, e, -⟩ := row_shape o3; exact ⟨_, _, _, e⟩
          have OW3 := Hid.mk o3
          have BX3 := Hid.mk (g3.blk OW2.out BX2.out (by decide))
          have GX3 := Hid.mk ((GX2.out).trans g3)
          have hb3 : B ≤ w3.heap.size := Nat.le_trans hb2 g3.1.size
          have Qx3 := Hid.mk ((Qx2.out).keep (g3.kn OW2.out))
          have Qy3 := Hid.mk ((Qy2.out).keep (g3.kn OW2.out))
          have NB3 := Hid.mk (g3.fresh (NB2.out) (fun e => absurd (((OW1.out).lt _ e).2) (Nat.lt_irrefl _)))
          have GY3 := Hid.mk g3
          clear o3 g3
          refine hK.out _ _ ?_ (fun hHeld => ?_)
          · exact ⟨(blk_cell (BX3.out) 0).trans rfl, (blk_cell (BX3.out) 1).trans rfl, (blk_cell (BX3.out) 2).trans rfl, (blk_cell (BX3.out) 3).trans rfl, (blk_cell (BX3.out) 4).trans rfl⟩
          clear hK K
          (try simp only [Act.put, List.setIfInBounds_toArray, List.set_cons_zero, List.set_cons_succ, List.getElem_toArray, List.getElem_cons_zero, List.getElem_cons_succ])
          refine wpAnyH_ready (rs := [10]) (by kernel_rfl) (by simp) ?_
          refine AllReadyH.cons rfl (fun K hK => ?_) ?_
          · refine step_append rfl (.tmp 32) (.tmp 35) 43 rfl B 82 i0 (.agg #[.int .i64 0, .int .i64 0, .string ⟨#[]⟩]) 3 32 Tryd.underlying43 hi hz0 hz1 hz2 rfl (by decide) (Value.slice a3 n3 c3) _ _ (by simp [Act.eval, Act.put]) OW3.out ⟨(w1).heap.size, 0, none⟩ 1 1 o.cells (by simp [Act.eval, Act.put]) rfl (newsB (NB3.out)) (oneO o) (by unfold maxLen; (try simp only [List.length_append]); omega) (by (try simp only [List.length_append]); omega) hb3 ?_
            intro v4 w4 hown hgrow hat
            have HO := Hid.mk (OwnO.snoc hown)
            have HG := Hid.mk ((GX3.out).trans (gx_app hgrow hat))
            have HSZ : Hid ((fun w' => w'.cell? ⟨w.heap.size, 0, none⟩ = some (.int .i64 o.k) ∧ w'.cell? ⟨w.heap.size, 1, none⟩ = some (.int .i64 o.v) ∧ w'.cell? ⟨w.heap.size, 2, none⟩ = some (.string ⟨o.n.toArray⟩) ∧ w'.cell? ⟨w.heap.size, 3, none⟩ = some (.iface Tx ux) ∧ w'.cell? ⟨w.heap.size, 4, none⟩ = some (.iface Ty uy)) w4) := ⟨(blk_cell ((gx_app hgrow hat).blk OW3.out BX3.out (by decide)) 0).trans rfl, (blk_cell ((gx_app hgrow hat).blk OW3.out BX3.out (by decide)) 1).trans rfl, (blk_cell ((gx_app hgrow hat).blk OW3.out BX3.out (by decide)) 2).trans rfl, (blk_cell ((gx_app hgrow hat).blk OW3.out BX3.out (by decide)) 3).trans rfl, (blk_cell ((gx_app hgrow hat).blk OW3.out BX3.out (by decide)) 4).trans rfl⟩
            clear hown hgrow hat
            refine hK.out _ _ ?_ (fun hHeld => ?_)
            · exact HSZ.out
            clear hK K
            (try simp only [Act.put, List.setIfInBounds_toArray, List.set_cons_zero, List.set_cons_succ, List.getElem_toArray, List.getElem_cons_zero, List.getElem_cons_succ])
            refine wpAnyH_take (i := 11) (v := ?_) rfl (by kernel_rfl) (by kernel_rfl) (by kernel_rfl) (fun _ _ _ h => h) (Or.inl ⟨by rfl, ?_⟩) (by assumption) ?_
            rotate_left
            · intro w hSw; (try dsimp only at hSw); go_simp; (try with_reducible rfl)
            rotate_left
            simp only [Act.put, List.setIfInBounds_toArray, List.set_cons_zero, List.set_cons_succ, List.getElem_toArray, List.getElem_cons_zero, List.getElem_cons_succ]
            refine wpAnyH_done (by kernel_rfl) ?_ _
            go_wp2
            go_ret
            exact ⟨_, rfl, by simpa [Tr.pf] using HO.out, HG.out⟩
          exact AllReadyH.nil
        exact AllReadyH.nil
      exact AllReadyH.nil
    refine AllReadyH.cons rfl (fun K hK => ?_) ?_
    · refine step_build1 rfl 43 82 (.tmp 34) rfl i0 _ Tryd.underlying43 hi hz0 3 hz1 o.cells (by simp [Act.eval, Act.put, Po.cells]) (fillO _ _ _) (by decide) (by decide) ?_
      have AB1 : Hid (Below (W1.drew).heap.size (W1.drew) ((W1.drew).alloc (.cells o.cells.toArray 82))) := below_alloc' (Below.refl _ _) _
      have OW1 := Hid.mk (OwnO.below (O1.out) AB1.out)
      have BX1 := Hid.mk (blk_below (BX0.out) AB1.out)
      have GX1 := Hid.mk ((GX0.out).post AB1.out)
      have NB1 := Hid.mk (blk_new (W1.drew) (.cells o.cells.toArray 82))
      have hb1 : B ≤ ((W1.drew).alloc (.cells o.cells.toArray 82)).heap.size := Nat.le_trans hB1d AB1.out.size
      have Qx1 := Hid.mk ((Qx.out).keep (kn_below AB1.out))
      have Qy1 := Hid.mk ((Qy.out).keep (kn_below AB1.out))
      refine hK.out _ _ ?_ (fun hHeld => ?_)
      · exact ⟨(blk_cell (BX1.out) 0).trans rfl, (blk_cell (BX1.out) 1).trans rfl, (blk_cell (BX1.out) 2).trans rfl, (blk_cell (BX1.out) 3).trans rfl, (blk_cell (BX1.out) 4).trans rfl⟩
      clear hK K
      (try simp only [Act.put, List.setIfInBounds_toArray, List.set_cons_zero, List.set_cons_succ, List.getElem_toArray, List.getElem_cons_zero, List.getElem_cons_succ])
      refine wpAnyH_ready (rs := [3]) (by kernel_rfl) (by simp) ?_
      refine AllReadyH.cons rfl (fun K hK => ?_) ?_
      · go_simp
        refine (hx (.iface Tx ux) (Value.slice sa sn sc) L B ((W1.drew).alloc (.cells o.cells.toArray 82)) Qx1.out OW1.out hb1 (by (try simp only [List.length_append]); omega)).mono ?_
        rintro e w2 ⟨v2, rfl, o2, g2⟩
        obtain ⟨a2, n2, c2, rfl⟩ : ∃ a n c, v2 = .slice a n c := by obtain ⟨a, c, e, -⟩ := row_shape o2; exact ⟨_, _, _, e⟩
        have OW2 := Hid.mk o2
        have BX2 := Hid.mk (g2.blk OW1.out BX1.out (by decide))
        have GX2 := Hid.mk ((GX1.out).trans g2)
        have hb2 : B ≤ w2.heap.size := Nat.le_trans hb1 g2.1.size
        have Qx2 := Hid.mk ((Qx1.out).keep (g2.kn OW1.out))
        have Qy2 := Hid.mk ((Qy1.out).keep (g2.kn OW1.out))
        have NB2 := Hid.mk (g2.fresh (NB1.out) (fun e => absurd (((O1.out).lt _ e).2) (Nat.lt_irrefl _)))
        have GY2 := Hid.mk g2
        clear o2 g2
        refine hK.out _ _ ?_ (fun hHeld => ?_)
        · exact ⟨(blk_cell (BX2.out) 0).trans rfl, (blk_cell (BX2.out) 1).trans rfl, (blk_cell (BX2.out) 2).trans rfl, (blk_cell (BX2.out) 3).trans rfl, (blk_cell (BX2.out) 4).trans rfl⟩
        clear hK K
        (try simp only [Act.put, List.setIfInBounds_toArray, List.set_cons_zero, List.set_cons_succ, List.getElem_toArray, List.getElem_cons_zero, List.getElem_cons_succ])
        refine wpAnyH_ready (rs := [6]) (by kernel_rfl) (by simp) ?_
        refine AllReadyH.cons rfl (fun K hK => ?_) ?_
        · go_simp
          refine (hy (.iface Ty uy) (Value.slice a2 n2 c2) (L ++ x.pf) B w2 Qy2.out OW2.out hb2 (by (try simp only [List.length_append]); omega)).mono ?_
          rintro e w3 ⟨v3, rfl, o3, g3⟩
          obtain ⟨a3, n3, c3, rfl⟩ : ∃ a n c, v3 = .slice a n c := by obtain ⟨a, c, e, -⟩ := row_shape o3; exact ⟨_, _, _, e⟩
          have OW3 := Hid.mk o3
          have BX3 := Hid.mk (g3.blk OW2.out BX2.out (by decide))
          have GX3 := Hid.mk ((GX2.out).trans g3)
          have hb3 : B ≤ w3.heap.size := Nat.le_trans hb2 g3.1.size
          have Qx3 := Hid.mk ((Qx2.out).keep (g3.kn OW2.out))
          have Qy3 := Hid.mk ((Qy2.out).keep (g3.kn OW2.out))
          have NB3 := Hid.mk (g3.fresh (NB2.out) (fun e => gx_ne GY2.out (fun e => absurd (((O1.out).lt _ e).2) (Nat.lt_irrefl _)) (by simp) e))
          have GY3 := Hid.mk g3
          clear o3 g3
          refine hK.out _ _ ?_ (fun hHeld => ?_)
          · exact ⟨(blk_cell (BX3.out) 0).trans rfl, (blk_cell (BX3.out) 1).trans rfl, (blk_cell (BX3.out) 2).trans rfl, (blk_cell (BX3.out) 3).trans rfl, (blk_cell (BX3.out) 4).trans rfl⟩
          clear hK K
          (try simp only [Act.put, List.setIfInBounds_toArray, List.set_cons_zero, List.set_cons_succ, List.getElem_toArray, List.getElem_cons_zero, List.getElem_cons_succ])
          refine wpAnyH_ready (rs := [10]) (by kernel_rfl) (by simp) ?_
          refine AllReadyH.cons rfl (fun K hK => ?_) ?_
          · refine step_append rfl (.tmp 32) (.tmp 35) 43 rfl B 82 i0 (.agg #[.int .i64 0, .int .i64 0, .string ⟨#[]⟩]) 3 32 Tryd.underlying43 hi hz0 hz1 hz2 rfl (by decide) (Value.slice a3 n3 c3) _ _ (by simp [Act.eval, Act.put]) OW3.out ⟨(W1.drew).heap.size, 0, none⟩ 1 1 o.cells (by simp [Act.eval, Act.put]) rfl (newsB (NB3.out)) (oneO o) (by unfold maxLen; (try simp only [List.length_append]); omega) (by (try simp only [List.length_append]); omega) hb3 ?_
            intro v4 w4 hown hgrow hat
            have HO := Hid.mk (OwnO.snoc hown)
            have HG := Hid.mk ((GX3.out).trans (gx_app hgrow hat))
            have HSZ : Hid ((fun w' => w'.cell? ⟨w.heap.size, 0, none⟩ = some (.int .i64 o.k) ∧ w'.cell? ⟨w.heap.size, 1, none⟩ = some (.int .i64 o.v) ∧ w'.cell? ⟨w.heap.size, 2, none⟩ = some (.string ⟨o.n.toArray⟩) ∧ w'.cell? ⟨w.heap.size, 3, none⟩ = some (.iface Tx ux) ∧ w'.cell? ⟨w.heap.size, 4, none⟩ = some (.iface Ty uy)) w4) := ⟨(blk_cell ((gx_app hgrow hat).blk OW3.out BX3.out (by decide)) 0).trans rfl, (blk_cell ((gx_app hgrow hat).blk OW3.out BX3.out (by decide)) 1).trans rfl, (blk_cell ((gx_app hgrow hat).blk OW3.out BX3.out (by decide)) 2).trans rfl, (blk_cell ((gx_app hgrow hat).blk OW3.out BX3.out (by decide)) 3).trans rfl, (blk_cell ((gx_app hgrow hat).blk OW3.out BX3.out (by decide)) 4).trans rfl⟩
            clear hown hgrow hat
            refine hK.out _ _ ?_ (fun hHeld => ?_)
            · exact HSZ.out
            clear hK K
            (try simp only [Act.put, List.setIfInBounds_toArray, List.set_cons_zero, List.set_cons_succ, List.getElem_toArray, List.getElem_cons_zero, List.getElem_cons_succ])
            refine wpAnyH_take (i := 11) (v := ?_) rfl (by kernel_rfl) (by kernel_rfl) (by kernel_rfl) (fun _ _ _ h => h) (Or.inl ⟨by rfl, ?_⟩) (by assumption) ?_
            rotate_left
            · intro w hSw; (try dsimp only at hSw); go_simp; (try with_reducible rfl)
            rotate_left
            simp only [Act.put, List.setIfInBounds_toArray, List.set_cons_zero, List.set_cons_succ, List.getElem_toArray, List.getElem_cons_zero, List.getElem_cons_succ]
            refine wpAnyH_done (by kernel_rfl) ?_ _
            go_wp2
            go_ret
            exact ⟨_, rfl, by simpa [Tr.pf] using HO.out, HG.out⟩
          exact AllReadyH.nil
        exact AllReadyH.nil
      exact AllReadyH.nil
    exact AllReadyH.nil

end Go.Proofs.YtfoigigbggickaaDoor.Par
