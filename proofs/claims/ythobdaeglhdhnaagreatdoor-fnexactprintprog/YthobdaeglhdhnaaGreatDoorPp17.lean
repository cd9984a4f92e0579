import Derived.Test.YthobdaeglhdhnaaGreatDoorPp11
import Derived.Test.YthobdaeglhdhnaaGreatDoorPp15
import Derived.Test.YthobdaeglhdhnaaGreatDoorPp10
import Derived.Lib.OthersKept
import Derived.Lib.AppendStr
import Derived.Lib.AppendIntMem
import Derived.Maps.AppendAt
import Derived.Maps.Range
namespace Go.Proofs.YthobdaeglhdhnaaGreatDoor.Syn
open Go Go.RowKit Go.Proofs.YthobdaeglhdhnaaGreatDoor.Mem
open Go.Proofs.YthobdaeglhdhnaaGreatDoor.Print (Own infoB byteCells_one)
set_option linter.unusedVariables false
set_option linter.unusedSimpArgs false
attribute [local go_sem ↓] Go.wp_at_zero Go.wp_at_succ

/-- Below B nothing has turned; no block has but those of bytes; none that was there has but x's own; and v lies in that one or in a new one. -/
def Kb (B : Nat) (x v : Value) (w w' : World) : Prop := Below B w w' ∧ Lib.OthersKept 5 none w w' ∧ w.grownBy w' x.ownBlock ∧ (v.ownBlock = x.ownBlock ∨ ∃ g, v.ownBlock = some g ∧ w.heap.size ≤ g)
theorem Kb.refl (B : Nat) (x : Value) (w : World) : Kb B x x w w := ⟨Below.refl _ _, Lib.OthersKept.refl _ _ _, ⟨rfl, rfl, rfl, Nat.le_refl _, fun _ _ _ => rfl⟩, .inl rfl⟩
theorem Kb.trans {B : Nat} {x v u : Value} {a b c : World} (h : Kb B x v a b) (k : Kb B v u b c) : Kb B x u a c := by
  refine ⟨h.1.trans k.1, h.2.1.trans k.2.1, h.2.2.1.andThen k.2.2.1 (fun j hj => ?_), ?_⟩
  · rcases h.2.2.2 with e | ⟨g, e, hg⟩
    · exact .inr (e ▸ hj)
    · rw [e] at hj; cases hj; exact .inl hg
  · rcases k.2.2.2 with e | ⟨g, e, hg⟩
    · rw [e]; exact h.2.2.2
    · exact .inr ⟨g, e, Nat.le_trans h.1.size hg⟩
/-- What lies older than a call keeps. -/
theorem Kb.of {B : Nat} {x : Value} {w w' : World} (h : Below w.heap.size w w') (hB : B ≤ w.heap.size) : Kb B x x w w' :=
  ⟨h.mono hB, fun k o hk _ _ => by rw [h.block k (blk_lt hk)]; exact hk, ⟨h.os, h.tape, h.output, h.size, fun k hk _ => h.block k hk⟩, .inl rfl⟩
theorem Kb.alloc {B : Nat} {x v : Value} {a w : World} (h : Kb B x v a w) (hB : B ≤ w.heap.size) (o : Obj) : Kb B x v a (w.alloc o) := h.trans (Kb.of (below_alloc' (Below.refl _ _) o) hB)
theorem Kb.drew {B : Nat} {x v : Value} {a w : World} (h : Kb B x v a w) : Kb B x v a w.drew := ⟨h.1.drew, h.2.1.drew, ⟨h.2.2.1.os, h.2.2.1.tape, h.2.2.1.output, h.2.2.1.size, h.2.2.1.block⟩, h.2.2.2⟩
theorem Kb.blk {B g : Nat} {x v : Value} {w w' : World} {cs : Array Value} {t : TypeId} {fr : Nat × Nat} (h : Kb B x v w w') (hb : w.heap[g]? = some (.cells cs t fr)) (ht : t ≠ 5) : w'.heap[g]? = some (.cells cs t fr) :=
  h.2.1 g _ hb (fun e => by cases e) (fun c fz e => by cases e; exact ht rfl)
/-- A block of bytes too, where the buffer lies elsewhere. -/
theorem Kb.far {B g : Nat} {x v : Value} {w w' : World} {o : Obj} (h : Kb B x v w w') (hb : w.heap[g]? = some o) (hne : x.ownBlock ≠ some g) : w'.heap[g]? = some o := by
  rw [h.2.2.1.block g (blk_lt hb) (fun e => hne e.symm)]; exact hb
theorem Own.kindb {B : Nat} {w : World} {v : Value} {bs : List UInt8} (h : Own B w v bs) : ∀ g, v.ownBlock = some g → ∃ c fz, w.heap[g]? = some (.cells c 5 fz) := by
  intro g hg
  rcases h.2 with ⟨rfl, -⟩ | ⟨g', cap, cur, rfl, -, hb, -⟩
  · simp [Value.ownBlock] at hg
  · simp [Value.ownBlock] at hg; subst hg; exact ⟨cur, _, hb⟩
theorem Own.lt {B : Nat} {w : World} {v : Value} {bs : List UInt8} (h : Own B w v bs) {g : Nat} (hg : v.ownBlock = some g) : g < w.heap.size := by
  obtain ⟨c, fz, hb⟩ := Own.kindb h g hg
  exact blk_lt hb
theorem Kb.grown {B : Nat} {w w' : World} {x v : Value} {bs : List UInt8} (ho : Own B w x bs) (hg : w.grownBy w' x.ownBlock) (hat : v.ownBlock = x.ownBlock ∨ v.ownBlock = some w.heap.size) (hB : B ≤ w.heap.size) : Kb B x v w w' := by
  refine ⟨(Below.refl _ _).grown hg hB (fun k hk => (World.ownsRow.lt ho k hk).1), fun k o hk _ hne => ?_, hg, hat.imp id fun e => ⟨_, e, Nat.le_refl _⟩⟩
  rw [hg.block k (blk_lt hk) (fun e => ?_)]
  · exact hk
  · obtain ⟨c, fz, h⟩ := Own.kindb ho k e.symm
    rw [hk] at h
    exact hne c fz (Option.some.inj h)
/-- Where the bytes lie that a string was appended to. -/
theorem str_at {w w' : World} {B : Nat} {t u ty e : TypeId} {i : TypeInfo} (ht : Tryz.prog.underlying t = some (.slice e)) (hu : Tryz.prog.underlying u = some .string) (hi : Tryz.prog.info? e = some i) (hz : i.zero = some (.int .u8 0)) (hsize : i.size = 1) (hby : i.bytes = 1)
    {v v' : Value} {n : Nat} {xs : List Value} (hown : w.ownsRow B e 1 v n xs) {s : ByteArray} (hb : n + s.size ≤ 140737488355328) (hr : (Builtin.append_ #[t, u] ty #[v, .string s]).run Tryz.prog w = .ok v' w') :
    v'.ownBlock = v.ownBlock ∨ v'.ownBlock = some w.heap.size := by
  have hxl : xs.length = n := by simpa using hown.1
  rcases hown.2 with ⟨rfl, rfl⟩ | ⟨g, cap, cur, rfl, hbg, hg, hnc, hcm, hcs, htake⟩
  · by_cases hm : s.size = 0
    · have hf := Lib.run_firstCells_string (P := Tryz.prog) w 1 s
      rw [hm] at hf
      simp [Builtin.append_, run_underlying ht, run_underlying hu, sizeOf, typeInfo, hi, hsize, Builtin.lenOf, hm, hf] at hr
      exact .inl (by rw [← hr.1])
    · rw [run_append_nil_string (P := Tryz.prog) w t u ty e i (.int .u8 0) ht hu hi hz s (by omega) (by omega) (by rw [hby]; omega)] at hr
      cases hr
      exact .inr rfl
  · by_cases hroom : n + s.size ≤ cap
    · have hcz : cur.size = cap := by simpa using hcs
      rw [Lib.run_append_room_string (P := Tryz.prog) w t u ty e i ht hu hi hsize g n cap cur hg s hroom (by omega)] at hr
      cases hr
      exact .inl rfl
    · rw [Lib.run_append_grow_string (P := Tryz.prog) w t u ty e i (.int .u8 0) ht hu hi hz ⟨g, 0, none⟩ n cap xs (by rw [hsize]; simpa using hxl) (hown.cells (g := g) rfl) s (by omega) (by omega) (by rw [hby]; exact growslice_fits (by omega) (by omega))] at hr
      cases hr
      exact .inr rfl
theorem Nd.oth {B : Nat} {w w' : World} {x y v : Value} {t : Tr} (h : Nd w none v t) (hk : Kb B x y w w') : Nd w' none v t := by
  have cell : ∀ {g o : Nat} {u : Value}, Nk w g → w.cell? ⟨g, o, none⟩ = some u → w'.cell? ⟨g, o, none⟩ = some u := fun hn hc => by
    obtain ⟨C, fr, hb⟩ := hn
    rw [World.cell?_of_block (a := ⟨_, _, none⟩) ((hk.blk hb (by decide)).trans hb.symm)]; exact hc
  have nk : ∀ {g : Nat}, Nk w g → Nk w' g := fun hn => by obtain ⟨C, fr, hb⟩ := hn; exact ⟨C, fr, hk.blk hb (by decide)⟩
  induction h with
  | leaf o => exact .leaf o
  | pre o v a h ih => exact .pre o v a ih
  | bin o v u a b h h' ih ih' => exact .bin o v u a b ih ih'
  | two o g off c v u a b hr hn c1 c2 h h' ih ih' => exact .two o g off c v u a b hr (nk hn) (cell hn c1) (cell hn c2) ih ih'
  | three o g off c v u x a b d hr hn c1 c2 c3 h h' h'' ih ih' ih'' => exact .three o g off c v u x a b d hr (nk hn) (cell hn c1) (cell hn c2) (cell hn c3) ih ih' ih''
/-- The tables lie where nothing from B on reaches. -/
def TabsOn (B : Nat) (w : World) : Prop := ∀ w', Below B w w' → Tabs w'
theorem TabsOn.on {B : Nat} {w w1 : World} (h : TabsOn B w) (hb : Below B w w1) : TabsOn B w1 := fun w' h' => h w' (hb.trans h')
theorem TabsOn.now {B : Nat} {w : World} (h : TabsOn B w) : Tabs w := h w (Below.refl _ _)
theorem TabsOn.up {B B' : Nat} {w w1 : World} (h : TabsOn B w) (hb : Below B w w1) (hB : B ≤ B') : TabsOn B' w1 := fun w' h' => h w' (hb.trans (h'.mono hB))
theorem own_of {B m n : Nat} {w : World} {v : Value} {bs cs : List UInt8} (hm : m = bs.length) (hn : n = cs.length) (h : w.ownsRow B 5 1 v (m + n) (Lib.byteCells bs ++ Lib.byteCells cs)) : Own B w v (bs ++ cs) := by
  subst hm hn
  unfold Own
  rw [List.length_append, Lib.byteCells_append]
  exact h
theorem own_bel' {B : Nat} {w w' : World} {v : Value} {bs : List UInt8} (h : Own B w v bs) (hb : Below w.heap.size w w') : Own B w' v bs := row_kept h hb
/-- A string's bytes onto a row of the call's own. -/
theorem wp_str {w : World} {o : Oper} {a : Act} {K : Act → World → Prop} {Q : Exit → Act → World → Prop} (sl x : Operand)
    (ho : o.op = .call { callee := .builtin .append, args := #[sl, x], argTypes := #[26, 9] })
    (B : Nat) (v : Value) (bs : List UInt8) (hs : a.eval sl = v) (hown : Own B w v bs) (s : List UInt8) (hx : a.eval x = .string ⟨s.toArray⟩) (hB : B ≤ w.heap.size) (hl : bs.length + s.length ≤ 1000000000)
    (h : ∀ v' w', Own B w' v' (bs ++ s) → Kb B v v' w w' → K (a.put o.dst v') w') : o.wp Tryz.prog a w K Q := by
  obtain ⟨i0, hi, hz0, hz1, hz2⟩ := info_parts infoB
  have hsz : (⟨s.toArray⟩ : ByteArray).size = s.length := by simp [ByteArray.size]
  obtain ⟨v', w', hr, h2, h3, h4⟩ := Lib.run_append_own_string (P := Tryz.prog) w B 26 9 o.type 5 i0 Tryz.underlying26 Tryz.underlying9 hi hz0 hz1 hz2 v bs.length (Lib.byteCells bs) hown ⟨s.toArray⟩ (by rw [hsz]; unfold maxLen; omega) (by rw [hsz]; omega) hB
  unfold Oper.wp execOp
  simp only [ho, resolve, invoke, builtin, Sem.run_bind, Sem.run_pure, Result.andThen_ok, List.map_toArray, List.map_cons, List.map_nil, hs, hx, hr]
  exact h v' w' (own_of rfl hsz (by rw [Lib.strCells_toArray] at h2; exact h2)) (Kb.grown hown h3 (str_at Tryz.underlying26 Tryz.underlying9 hi hz0 hz1 hz2 hown (by rw [hsz]; omega) hr) hB)
theorem wpList_str {w : World} {ops : Array Oper} {rest : List Oper} {o : Oper} {a : Act} {Q : Exit → Act → World → Prop} (hgd : o.guard = none) (sl x : Operand)
    (ho : o.op = .call { callee := .builtin .append, args := #[sl, x], argTypes := #[26, 9] })
    (B : Nat) (v : Value) (bs : List UInt8) (hs : a.eval sl = v) (hown : Own B w v bs) (s : List UInt8) (hx : a.eval x = .string ⟨s.toArray⟩) (hB : B ≤ w.heap.size) (hl : bs.length + s.length ≤ 1000000000)
    (h : ∀ v' w', Own B w' v' (bs ++ s) → Kb B v v' w w' → wpList Tryz.prog ops Q rest (a.put o.dst v') w') : wpList Tryz.prog ops Q (o :: rest) a w :=
  wpList_plain hgd fun K hK => wp_str sl x ho B v bs hs hown s hx hB hl fun v' w' h1 h2 => hK _ _ (h v' w' h1 h2)
/-- One byte onto a row of the call's own. -/
theorem wp_byte {w : World} {o : Oper} {a : Act} {K : Act → World → Prop} {Q : Exit → Act → World → Prop} (sl x : Operand)
    (ho : o.op = .call { callee := .builtin .append, args := #[sl, x], argTypes := #[26, 26] })
    (B : Nat) (v : Value) (bs : List UInt8) (hs : a.eval sl = v) (hown : Own B w v bs) (g c : Nat) (hx : a.eval x = .slice (some ⟨g, 0, none⟩) 1 c) (b : UInt8) (hc : w.cell? ⟨g, 0, none⟩ = some (.int .u8 (b.toNat : Int))) (hB : B ≤ w.heap.size) (hl : bs.length ≤ 1000000000)
    (h : ∀ v' w', Own B w' v' (bs ++ [b]) → Kb B v v' w w' → K (a.put o.dst v') w') : o.wp Tryz.prog a w K Q := by
  obtain ⟨i0, hi, hz0, hz1, hz2⟩ := info_parts infoB
  obtain ⟨v', w', hr, h2, h3, -, h5⟩ := run_append_own_at (P := Tryz.prog) w B 26 o.type 5 i0 (.int .u8 0) 1 1 Tryz.underlying26 hi hz0 hz1 hz2 rfl (by decide) v bs.length (Lib.byteCells bs) hown ⟨g, 0, none⟩ 1 c (Lib.byteCells [b]) rfl (fun j u hj => by
    have h0 : j = 0 := by
      have := (List.getElem?_eq_some_iff.1 hj).1
      simp [Lib.byteCells] at this
      exact this
    subst h0
    simp [Lib.byteCells] at hj
    subst hj
    rw [Addr.add_mid]
    exact hc) (byteCells_one _) (by unfold maxLen; omega) (by omega) hB
  unfold Oper.wp execOp
  simp only [ho, resolve, invoke, builtin, Sem.run_bind, Sem.run_pure, Result.andThen_ok, List.map_toArray, List.map_cons, List.map_nil, hs, hx, hr]
  exact h v' w' (own_of rfl rfl h2) (Kb.grown hown h3 h5 hB)
theorem wpList_byte {w : World} {ops : Array Oper} {rest : List Oper} {o : Oper} {a : Act} {Q : Exit → Act → World → Prop} (hgd : o.guard = none) (sl x : Operand)
    (ho : o.op = .call { callee := .builtin .append, args := #[sl, x], argTypes := #[26, 26] })
    (B : Nat) (v : Value) (bs : List UInt8) (hs : a.eval sl = v) (hown : Own B w v bs) (g c : Nat) (hx : a.eval x = .slice (some ⟨g, 0, none⟩) 1 c) (b : UInt8) (hc : w.cell? ⟨g, 0, none⟩ = some (.int .u8 (b.toNat : Int))) (hB : B ≤ w.heap.size) (hl : bs.length ≤ 1000000000)
    (h : ∀ v' w', Own B w' v' (bs ++ [b]) → Kb B v v' w w' → wpList Tryz.prog ops Q rest (a.put o.dst v') w') : wpList Tryz.prog ops Q (o :: rest) a w :=
  wpList_plain hgd fun K hK => wp_byte sl x ho B v bs hs hown g c hx b hc hB hl fun v' w' h1 h2 => hK _ _ (h v' w' h1 h2)
end Go.Proofs.YthobdaeglhdhnaaGreatDoor.Syn
