import Derived.Test.YthobdaeglhdhnaaGreatDoorPp11
import Derived.Test.YthobdaeglhdhnaaGreatDoorPp14
import Derived.Test.YthobdaeglhdhnaaGreatDoorPp03
import Derived.Test.YthobdaeglhdhnaaGreatDoorPp15
import Derived.ArgAppend
namespace Go.Proofs.YthobdaeglhdhnaaGreatDoor.Syn
open Go Go.RowKit Go.Proofs.YthobdaeglhdhnaaGreatDoor Go.Proofs.YthobdaeglhdhnaaGreatDoor.Mem
open Go.Proofs.YthobdaeglhdhnaaGreatDoor.Print (Own infoB byteCells_one)
set_option linter.unusedVariables false
set_option linter.unusedSimpArgs false
attribute [local go_sem ↓] Go.wp_at_zero Go.wp_at_succ

/-- A text that can be read. -/
def Rt (w : World) (v : Value) (bs : List UInt8) : Prop := ∃ g off c, v = .slice (some ⟨g, off, none⟩) bs.length c ∧ (∃ C fr, w.heap[g]? = some (.cells C 5 fr)) ∧ ∀ j u, (Lib.byteCells bs)[j]? = some u → w.cell? ⟨g, off + j, none⟩ = some u
theorem Rt.below {w w' : World} {v : Value} {bs : List UInt8} (h : Rt w v bs) (hb : Below w.heap.size w w') : Rt w' v bs := by
  obtain ⟨g, off, c, rfl, ⟨C, fr, hg⟩, h⟩ := h
  exact ⟨g, off, c, rfl, ⟨C, fr, blk_below hg hb⟩, fun j u hu => cell_keep hb (h j u hu)⟩
theorem own_rt {B : Nat} {w : World} {v : Value} {bs : List UInt8} (h : Own B w v bs) (hp : 0 < bs.length) : Rt w v bs := by
  obtain ⟨g, o, n, c, rfl, hg, hn, hlt, hc⟩ := Print.Own.rb h hp
  subst hn
  refine ⟨g, o, c, rfl, ?_, fun j u hu => by have := hc j u hu; rwa [Addr.add_mid] at this⟩
  rcases h.2 with ⟨e, -⟩ | ⟨g2, cap, cur, e, -, hb, -⟩
  · cases e
  · injection e with e1 e2 e3
    injection e1 with e1
    injection e1 with e1 e2
    subst e1
    exact ⟨cur, _, hb⟩
theorem tagS_nat {z : Int} (h0 : 0 ≤ z) (h1 : z ≤ 15) : ((tagB z).toNat : Int) = 97 + z := by
  unfold tagB
  rw [UInt8.toNat_ofNat']
  omega
theorem tw_pos (m : Nat) (h : 3 ≤ m) (h' : m < 43) : 0 < (twAt m).length := by
  have : ∀ i : Fin 43, 3 ≤ i.val → 0 < (twAt i.val).length := by decide
  exact this ⟨m, h'⟩ h
theorem row_rt {X : World} {G : Nat} (s : List UInt8) (cap : Nat) (fr : Nat × Nat) (h : X.heap[G]? = some (.cells (bytesRow ⟨s.toArray⟩ cap) 5 fr)) : Rt X (.slice (some ⟨G, 0, none⟩) s.length cap) s := by
  refine ⟨G, 0, cap, rfl, ⟨_, _, h⟩, fun j u hu => ?_⟩
  rw [Nat.zero_add]
  refine (blk_cell h j).trans ?_
  have hj : j < s.length := by have := (List.getElem?_eq_some_iff.1 hu).1; simpa [Lib.byteCells] using this
  have e5 : (Lib.byteCells s)[j]? = some (Value.int .u8 (s[j].toNat : Int)) := by simp [Lib.byteCells, hj]
  rw [e5] at hu
  cases hu
  exact (bytesRow_at ⟨s.toArray⟩ cap j (by simpa using hj)).trans (by simp)
theorem lit_rt {X : World} {G : Nat} (s : List UInt8) (cap : Nat) (C : Array Value) (fr : Nat × Nat) (hC : C = (Lib.byteCells s).toArray) (h : X.heap[G]? = some (.cells C 5 fr)) : Rt X (.slice (some ⟨G, 0, none⟩) s.length cap) s := by
  subst hC
  exact ⟨G, 0, cap, rfl, ⟨_, _, h⟩, fun j u hu => by rw [Nat.zero_add]; refine (blk_cell h j).trans ?_; simpa using hu⟩
set_option maxHeartbeats 3200000 in
set_option maxRecDepth 100000 in
theorem leafS (o : Po) (w : World) (hop : opB o = true) (hk6 : o.k ≤ 6) :
    Calls Tryz.prog 75 #[.agg #[.int .i64 o.k, .int .i64 o.v, .string ⟨o.n.toArray⟩]] w fun e w' => ∃ v, e = .returned v ∧ Rt w' v (leafT o) ∧ Below w.heap.size w w' := by
  obtain ⟨h1, h2, h3, h4⟩ := opB_ar hop
  have hnm : o.k = 2 → nameB o.n = true := fun e2 => by
    unfold opB at hop
    simp only [Bool.and_eq_true] at hop
    have := hop.2
    rwa [if_pos e2] at this
  obtain ⟨k, v, n⟩ := o
  simp only at h1 h2 h3 h4 hk6 hnm ⊢
  have hk : k = 1 ∨ k = 2 ∨ k = 3 ∨ k = 4 ∨ k = 5 ∨ k = 6 := by omega
  have kb := fun (w : World) (s : List UInt8) => run_bytes_of_string (P := Tryz.prog) w 9 26 5 ⟨s.toArray⟩ Tryz.underlying9 Tryz.underlying26 Tryz.underlying5
  have kc := fun (w : World) (C : Array Value) (n c : Nat) => Lib.run_convert_bytes_const (P := Tryz.prog) w 26 5 C n c Tryz.underlying26 Tryz.underlying5
  have kd : ∀ (w : World) (o : Obj) (C : Array Value) (n c : Nat), (convert 26 26 (.slice (some ⟨w.heap.size + 1, 0, none⟩) n c)).run Tryz.prog ((w.alloc o).alloc (.cells C 5)) = .ok (.slice (some ⟨w.heap.size + 1, 0, none⟩) n c) ((w.alloc o).alloc (.cells C 5 (C.size, C.size + 1))) := fun w o C n c => by
    have := kc (w.alloc o) C n c
    rw [World.size_alloc] at this
    exact this
  clear hop kc
  rcases hk with e1 | e2 | e3 | e4 | e5 | e6
  · subst e1
    have h4' : v ≤ 999999999 := by simpa [opMax] using h4
    clear h4 hnm
    go_enter Tryz.func75, Tryz.ntmps75
    go_wp2_with fail
    refine (Print.decimal v _ (by omega) (by omega)).mono ?_
    rintro e w1 ⟨v1, rfl, ho, hb⟩
    have HR := Hid.mk (own_rt ho (Print.itoa_pos v))
    have HB := Hid.mk (below_then (w := w) (by go_grown) hb)
    clear ho hb
    go_wp2
    go_ret
    exact ⟨v1, rfl, HR.out, HB.out⟩
  · subst e2
    have hpos : 0 < n.length := by have := hnm rfl; unfold nameB at this; simp at this; omega
    clear h4 hnm
    go_enter Tryz.func75, Tryz.ntmps75
    go_wp2
    go_ret
    refine ⟨_, rfl, ?_, by go_grown⟩
    exact row_rt n _ _ (blk_new1 w _ _)
  · subst e3
    have h4' : v ≤ 12 := by simpa [opMax] using h4
    obtain ⟨m, rfl⟩ : ∃ m : Nat, v = (m : Int) := ⟨v.toNat, by omega⟩
    have hlt : leafT ⟨3, (m : Int), n⟩ = twAt (30 + m) := by simp [leafT]
    obtain ⟨TW, hTW⟩ : ∃ TW, TW = twAt (30 + m) := ⟨_, rfl⟩
    rw [hlt, ← hTW]
    have HTW := Hid.mk hTW
    clear h4 hnm hlt hTW
    go_enter Tryz.func75, Tryz.ntmps75
    go_wp2_with fail
    refine (attrWordS m _ (by omega)).mono ?_
    rintro e w1 ⟨rfl, rfl⟩
    rw [← HTW.out]
    go_wp2
    go_ret
    refine ⟨_, rfl, ?_, by go_grown⟩
    exact row_rt TW _ _ (blk_new1 w _ _)
  · subst e4
    have h4' : v ≤ 15 := by simpa [opMax] using h4
    clear h4 hnm kb
    have htg := tagS_nat h3 h4'
    have hwr : IntKind.u8.wrap (IntKind.i64.wrap (97 + v)) = ((tagB v).toNat : Int) := by rw [htg, IntKind.wrap_i64, IntKind.wrap_u8]; omega
    obtain ⟨i0, hi, hz0, hz1, hz2⟩ := info_parts infoB
    go_enter Tryz.func75, Tryz.ntmps75
    go_wp2_with (at_builtin; refine wpList_append_grows _ rfl _ _ 26 rfl 5 i0 (.int .u8 0) 1 1 Tryz.underlying26 hi hz0 hz1 hz2 rfl (by decide) (some ⟨w.heap.size + 1, 0, none⟩) 4 4 [.int .u8 104, .int .u8 97, .int .u8 115, .int .u8 32] rfl (by intro h; cases h) rfl ?o1 ⟨w.heap.size + 1 + 1, 0, none⟩ 1 1 (Lib.byteCells [tagB v]) rfl (by simp [Lib.byteCells]) ?o2 (byteCells_one _) (by omega) (by unfold maxLen; omega) (by omega) ?_)
    case o1 =>
      intro b hb j u hu
      injection hb with hb
      subst hb
      rw [Addr.add_mid, Nat.zero_add]
      exact (blk_cell (blk_alloc (blk_new1 w _ _) _) j).trans (by simpa using hu)
    case o2 =>
      intro j u hu
      rw [Addr.add_mid, Nat.zero_add]
      exact (blk_cell (blk_new2 w _ _ _) j).trans (by simpa [Lib.byteCells, htg] using hu)
    · intro v2 w2 hown2 hgrow
      have HB := Hid.mk (Below.grown (B := w.heap.size) (a := w) (by go_grown) hgrow (by simp; omega) (fun k hk => by cases hk))
      have HR : Hid (Rt w2 v2 ([104, 97, 115, 32] ++ [tagB v])) := own_rt (B := _) (by unfold Own; exact hown2) (by simp)
      clear hown2 hgrow
      go_wp2
      go_ret
      exact ⟨v2, rfl, HR.out, HB.out⟩
  · subst e5
    have h4' : v ≤ 15 := by simpa [opMax] using h4
    clear h4 hnm kb
    have htg := tagS_nat h3 h4'
    have hwr : IntKind.u8.wrap (IntKind.i64.wrap (97 + v)) = ((tagB v).toNat : Int) := by rw [htg, IntKind.wrap_i64, IntKind.wrap_u8]; omega
    obtain ⟨i0, hi, hz0, hz1, hz2⟩ := info_parts infoB
    go_enter Tryz.func75, Tryz.ntmps75
    go_wp2_with (at_builtin; refine wpList_append_grows _ rfl _ _ 26 rfl 5 i0 (.int .u8 0) 1 1 Tryz.underlying26 hi hz0 hz1 hz2 rfl (by decide) (some ⟨w.heap.size + 1, 0, none⟩) 6 6 [.int .u8 115, .int .u8 107, .int .u8 105, .int .u8 108, .int .u8 108, .int .u8 32] rfl (by intro h; cases h) rfl ?o1 ⟨w.heap.size + 1 + 1, 0, none⟩ 1 1 (Lib.byteCells [tagB v]) rfl (by simp [Lib.byteCells]) ?o2 (byteCells_one _) (by omega) (by unfold maxLen; omega) (by omega) ?_)
    case o1 =>
      intro b hb j u hu
      injection hb with hb
      subst hb
      rw [Addr.add_mid, Nat.zero_add]
      exact (blk_cell (blk_alloc (blk_new1 w _ _) _) j).trans (by simpa using hu)
    case o2 =>
      intro j u hu
      rw [Addr.add_mid, Nat.zero_add]
      exact (blk_cell (blk_new2 w _ _ _) j).trans (by simpa [Lib.byteCells, htg] using hu)
    · intro v2 w2 hown2 hgrow
      have HB := Hid.mk (Below.grown (B := w.heap.size) (a := w) (by go_grown) hgrow (by simp; omega) (fun k hk => by cases hk))
      have HR : Hid (Rt w2 v2 ([115, 107, 105, 108, 108, 32] ++ [tagB v])) := own_rt (B := _) (by unfold Own; exact hown2) (by simp)
      clear hown2 hgrow
      go_wp2
      go_ret
      exact ⟨v2, rfl, HR.out, HB.out⟩
  · subst e6
    have h4' : v ≤ 1 := by simpa [opMax] using h4
    have hv : v = 0 ∨ v = 1 := by omega
    clear h4 hnm kb
    rcases hv with rfl | rfl
    · go_enter Tryz.func75, Tryz.ntmps75
      go_wp2
      go_ret
      refine ⟨_, rfl, ?_, by go_grown⟩
      exact lit_rt [102, 97, 108, 115, 101] _ _ _ rfl (blk_new1 w _ _)
    · go_enter Tryz.func75, Tryz.ntmps75
      go_wp2
      go_ret
      refine ⟨_, rfl, ?_, by go_grown⟩
      exact lit_rt [116, 114, 117, 101] _ _ _ rfl (blk_new1 w _ _)
end Go.Proofs.YthobdaeglhdhnaaGreatDoor.Syn
