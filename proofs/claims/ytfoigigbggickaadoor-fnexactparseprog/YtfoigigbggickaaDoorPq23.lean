import Derived.Test.YtfoigigbggickaaDoorPq22
import Derived.Test.YtfoigigbggickaaDoorPq10
namespace Go.Proofs.YtfoigigbggickaaDoor.Par
open Go Go.RowKit Go.Proofs.YtfoigigbggickaaDoor.Mem Go.Proofs.YtfoigigbggickaaDoor.Syn Go.Proofs.YtfoigigbggickaaDoor.Parse
set_option linter.unusedVariables false
set_option linter.unusedSimpArgs false
attribute [local go_sem ↓] Go.wp_at_zero Go.wp_at_succ

/-- Where the specification's parser stands. -/
structure Sg where
  (i o : Nat) (e : Int) (a : Nat)
def Sg.v (g N c : Nat) (s : Sg) : Value := parV g N c s.i s.o s.e s.a
/-- What it amounts to: a fault, or the next token. -/
def den (T : Nat → Tk) (s : Sg) : Rs Nat := if s.e ≠ 0 then .bad s.e s.a else if (T s.i).k = 50 then .bad 2 (T s.i).at' else if (T s.i).k = 51 then .bad 3 (T s.i).at' else .ok s.i
/-- Only the last token is final. -/
structure Nf (t : List UInt8) (N : Nat) : Prop where
  pos : 1 ≤ N
  le : N ≤ 100000
  last : finK t (N - 1)
  nf : ∀ k, k + 1 < N → ¬ finK t k
theorem Nf.next {t : List UInt8} {N i : Nat} (h : Nf t N) (hi : i < N) (h0 : (tkT t i).k ≠ 0) (h50 : (tkT t i).k < 50) : i + 1 < N := by
  rcases Nat.lt_or_ge (i + 1) N with e | e
  · exact e
  · exfalso
    have : i = N - 1 := by omega
    have h2 := h.last
    rw [← this] at h2
    unfold finK at h2
    omega
theorem fcode_ne {c : Int} (hc : c ≠ 0) (x : Tk) : fcode c x ≠ 0 := by
  unfold fcode
  split; · decide
  split; · decide
  exact hc
theorem den_bad {T : Nat → Tk} {i o : Nat} {e : Int} {a : Nat} (h : e ≠ 0) : den T ⟨i, o, e, a⟩ = .bad e a := by unfold den; rw [if_pos h]
theorem den_adv {T : Nat → Tk} {i o a : Nat} : den T ⟨i + 1, o, 0, a⟩ = adv T i := by unfold den adv; rw [if_neg (by simp)]
theorem den_ok {T : Nat → Tk} {i o a : Nat} (h : (T i).k < 50) : den T ⟨i, o, 0, a⟩ = .ok i := by unfold den; rw [if_neg (by simp), if_neg (by show ¬ (T i).k = 50; omega), if_neg (by show ¬ (T i).k = 51; omega)]
/-- A fault at the next token: a lexical one comes first. -/
theorem den_fail {T : Nat → Tk} {i o o' a : Nat} {c : Int} (hc : c ≠ 0) {α : Type} {G : Nat → Rs α} {x : Nat → Rs α} (h51 : (T i).k ≤ 51) (hG : (T i).k < 50 → G i = .bad c (T i).at') : (den T ⟨i, o', fcode c (T i), (T i).at'⟩).bnd x = (den T ⟨i, o, 0, a⟩).bnd G := by
  rw [den_bad (fcode_ne hc _), bnd_bad]
  unfold fcode
  by_cases h0 : (T i).k = 50
  · rw [if_pos h0]; unfold den; rw [if_neg (by simp), if_pos h0]; rfl
  · rw [if_neg h0]
    by_cases h1 : (T i).k = 51
    · rw [if_pos h1]; unfold den; rw [if_neg (by simp), if_neg h0, if_pos h1]; rfl
    · rw [if_neg h1, den_ok (by omega), bnd_ok, hG (by omega)]
theorem bnd_id {α : Type} (r : Rs α) : r.bnd Rs.ok = r := by cases r <;> rfl
theorem takeD (t : List UInt8) (g N c : Nat) (s : Sg) (m : Nat) (w : World) (hT : Tq t N g w) (hN : Nf t N) (hi : s.i < N) (h3 : 3 ≤ m) (h50 : m < 50) :
    Calls Tryd.prog 25 #[s.v g N c, .string ⟨(twAt m).toArray⟩] w fun e' w' => ∃ s' : Sg, e' = .returned (s'.v g N c) ∧ s'.i < N ∧ s'.o = s.o ∧ den (tkT t) s' = (den (tkT t) s).bnd (exp (tkT t) m) ∧ Below w.heap.size w w' := by
  refine (takeS t g N c s.i s.o s.e s.a (twAt m) w hT hi hN.le).mono ?_
  rintro e' w' ⟨rfl, hb⟩
  refine ⟨⟨(takQ t (twAt m) s.i s.e s.a).1, s.o, (takQ t (twAt m) s.i s.e s.a).2.1, (takQ t (twAt m) s.i s.e s.a).2.2⟩, rfl, ?_, rfl, ?_, hb⟩
  · unfold takQ
    split
    · exact hi
    · rw [isW_k (tk_cl t s.i) h3 h50]
      split
      · rename_i hk
        have hk' : (tkT t s.i).k = m := by simpa using hk
        exact hN.next hi (by omega) (by omega)
      · exact hi
  · unfold takQ
    obtain ⟨i, o, e, a⟩ := s
    dsimp only
    split
    · rename_i he; rw [den_bad he]; rfl
    · rename_i he
      obtain rfl : e = 0 := Classical.byContradiction he
      rw [isW_k (tk_cl t i) h3 h50]
      split
      · rename_i hk
        have hk' : (tkT t i).k = m := by simpa using hk
        rw [den_adv, den_ok (by omega), bnd_ok]
        unfold exp
        rw [if_pos hk']
      · rename_i hk
        have hk' : (tkT t i).k ≠ m := by simpa using hk
        have := den_fail (T := tkT t) (i := i) (o := o) (o' := o) (a := a) (c := 4) (by decide) (G := exp (tkT t) m) (x := Rs.ok) (tk_le t i) (fun _ => by unfold exp; rw [if_neg hk'])
        rw [bnd_id] at this
        exact this
theorem kS2 (x : Tk) : kS x = 2 ↔ x.k = 1 := by
  unfold kS
  constructor
  · intro h
    split at h; · cases h
    split at h; · assumption
    split at h; · cases h
    split at h; · cases h
    split at h <;> cases h
  · intro h; rw [if_neg (by omega), if_pos h]
theorem word_of {x : Tk} (h : Tc x) (hk : kS x = 1) : wS x = x.n ∧ letB (x.n.getD 0 0) = true := by
  cases h with
  | word h hk hl => exact ⟨(Tc.kS_word h hk).2, hl⟩
  | fin h hk' => exfalso; unfold kS at hk; rcases hk' with e | e | e <;> rw [e] at hk <;> simp at hk
  | num h hk' => exfalso; rw [(kS2 x).2 hk'] at hk; cases hk
  | sym h h3 h14 => exfalso; rw [(Tc.kS_sym h h3 h14).1] at hk; cases hk
theorem n_len (t : List UInt8) (i : Nat) : (tkT t i).n.length ≤ 65536 := by
  by_cases h : (tkT t i).n = []
  · rw [h]; simp
  · have := ((tk_ok t i).nm h).2.1
    have h2 : (tkT t i).n.length ≤ 16 := this
    omega
theorem w64_tag (ch : UInt8) : wrap64 (wrap64 (ch.toNat : Int) - 97) = (ch.toNat : Int) - 97 := by
  have : ch.toNat < 256 := ch.toNat_lt
  unfold wrap64
  omega
/-- What a number or a tag answers. -/
def NumO (t : List UInt8) (g N c : Nat) (s : Sg) (G : Nat → Rs (Int × Nat)) (w : World) (e : Ending) (w' : World) : Prop := ∃ (s' : Sg) (x : Int), e = .returned (.tuple #[s'.v g N c, .int .i64 x]) ∧ s'.i < N ∧ s'.o = s.o ∧ (den (tkT t) s').bnd (fun j => Rs.ok (x, j)) = (den (tkT t) s).bnd G ∧ Below w.heap.size w w'

set_option maxHeartbeats 3200000 in
set_option maxRecDepth 1000000 in
theorem numErr (g N c i o : Nat) (e : Int) (a : Nat) (b : Bool) (w : World) (he : e ≠ 0) :
    Calls Tryd.prog 28 #[parV g N c i o e a, .bool b] w fun e' w' => e' = .returned (.tuple #[parV g N c i o e a, .int .i64 0]) ∧ Below w.heap.size w w' := by
  unfold parV
  go_enter Tryd.func28, Tryd.ntmps28
  go_wp2
  refine bodyPost_ret (by simp [results, Tryd.results28, go_sem]; try rfl) rfl ?_
  exact ⟨rfl, by go_grown⟩

set_option maxHeartbeats 3200000 in
set_option maxRecDepth 1000000 in
theorem tagErr (g N c i o : Nat) (e : Int) (a : Nat) (w : World) (he : e ≠ 0) :
    Calls Tryd.prog 29 #[parV g N c i o e a] w fun e' w' => e' = .returned (.tuple #[parV g N c i o e a, .int .i64 0]) ∧ Below w.heap.size w w' := by
  unfold parV
  go_enter Tryd.func29, Tryd.ntmps29
  go_wp2
  refine bodyPost_ret (by simp [results, Tryd.results29, go_sem]; try rfl) rfl ?_
  exact ⟨rfl, by go_grown⟩

set_option maxHeartbeats 3200000 in
set_option maxRecDepth 1000000 in
theorem numF1 (t : List UInt8) (g N c i o a : Nat) (w : World) (hT : Tq t N g w) (hi : i < N) (hj : i < N) (hN : N ≤ 100000) (hg : (tkT t (i)).k = 1) :
    Calls Tryd.prog 28 #[parV g N c i o 0 a, .bool false] w fun e' w' => e' = .returned (.tuple #[parV g N c (i + 1) o 0 a, .int .i64 ((tkT t (i)).v)]) ∧ Below w.heap.size w w' := by
  have hvl : 0 ≤ (tkT t (i)).v ∧ (tkT t (i)).v ≤ 1000000000 := (tk_ok t (i)).vl
  obtain ⟨W1, hW1⟩ : ∃ Zz, Zz = (w.alloc (.cells #[.slice (some ⟨g, 0, none⟩) N c, .int .i64 ((i : Int)), .int .i64 (o : Int), .int .i64 0, .int .i64 (a : Int)] 38)).alloc (.cells #[.slice none 0 0, .int .i64 0, .int .i64 0, .int .i64 0, .int .i64 0] 38) := ⟨_, rfl⟩
  have A1 : Hid (Below w.heap.size w W1) := by rw [hW1]; exact below_alloc' (below_alloc' (Below.refl _ _) _) _
  have Hb1 : Hid (W1.heap[w.heap.size]? = some (.cells #[.slice (some ⟨g, 0, none⟩) N c, .int .i64 ((i : Int)), .int .i64 (o : Int), .int .i64 0, .int .i64 (a : Int)] 38)) := by rw [hW1]; exact blk_alloc (blk_new _ _) _
  have Hr1 : Hid (W1.heap[w.heap.size + 1]? = some (.cells #[.slice none 0 0, .int .i64 0, .int .i64 0, .int .i64 0, .int .i64 0] 38)) := by rw [hW1]; exact blk_new1 _ _ _
  have HK : Hid ((kS (tkT t (i)) != 2) = false) := by unfold Hid; rw [(kS2 _).2 hg]; rfl
  have HT := Hid.mk hT
  have e9 : IntKind.i64.wrap ((i : Int) + 1) = (i : Int) + 1 := by rw [IntKind.wrap_i64]; omega
  obtain ⟨x, hx⟩ : ∃ x, x = tkT t (i) := ⟨_, rfl⟩
  rw [← hx] at HK hvl ⊢
  have e7 : IntKind.i64.wrap (1 * x.v) = x.v := by rw [IntKind.wrap_i64]; omega
  have HX := Hid.mk hx
  clear hT hg hx 
  unfold parV
  have k0 : (0 : Int) ≤ (i : Int) := by omega
  have k1 : (i : Int) < (N : Int) := by omega
  go_enter Tryd.func28, Tryd.ntmps28
  go_upto_region 4 with fail
  rw [← hW1]
  clear hW1
  have b0 := (blk_cell Hb1.out 0).trans rfl
  have b1 := (blk_cell Hb1.out 1).trans rfl
  have b2 := (blk_cell Hb1.out 2).trans rfl
  have b3 := (blk_cell Hb1.out 3).trans rfl
  have b4 := (blk_cell Hb1.out 4).trans rfl
  have fb1 := blk_unfrozen Hb1.out 1
  have QT := Hid.mk (HT.out.below A1.out)
  have y0 := QT.out.c0 (i) hj
  have y1 := QT.out.c1 (i) hj
  have y2 := QT.out.c2 (i) hj
  have y3 := QT.out.c3 (i) hj
  rw [← HX.out] at y0 y1 y2 y3
  have hgl := lt_of_cell y0
  go_upto_region 8 with fail
  clear b0 b1 b2 b3 b4 fb1 y0 y1 y2 y3 hgl
  obtain ⟨Z2, hZ2⟩ : ∃ Zz, Zz = W1.alloc (.cells #[.int .i64 (kS x), .int .i64 x.v, .string ⟨(wS x).toArray⟩, .int .i64 (x.at' : Int)] 40) := ⟨_, rfl⟩
  rw [← hZ2]
  have A2 : Hid (Below w.heap.size w Z2) := by rw [hZ2]; exact below_alloc' A1.out _
  have Hb2 : Hid (Z2.heap[w.heap.size]? = some (.cells #[.slice (some ⟨g, 0, none⟩) N c, .int .i64 ((i : Int)), .int .i64 (o : Int), .int .i64 0, .int .i64 (a : Int)] 38)) := by rw [hZ2]; exact blk_alloc Hb1.out _
  have Hr2 : Hid (Z2.heap[w.heap.size + 1]? = some (.cells #[.slice none 0 0, .int .i64 0, .int .i64 0, .int .i64 0, .int .i64 0] 38)) := by rw [hZ2]; exact blk_alloc Hr1.out _
  obtain ⟨bt2, hbt2⟩ : ∃ b, b = W1.heap.size := ⟨_, rfl⟩
  rw [← hbt2]
  have nbt2b : ¬ bt2 = w.heap.size := by have := blk_lt Hb1.out; omega
  have nbt2b' : ¬ w.heap.size = bt2 := fun e => nbt2b e.symm
  have nbt2r : ¬ bt2 = w.heap.size + 1 := by have := blk_lt Hr1.out; omega
  have nbt2r' : ¬ w.heap.size + 1 = bt2 := fun e => nbt2r e.symm
  have lbt2 : w.heap.size ≤ bt2 := by rw [hbt2]; exact A1.out.size
  have Ht2 : Hid (Z2.heap[bt2]? = some (.cells #[.int .i64 (kS x), .int .i64 x.v, .string ⟨(wS x).toArray⟩, .int .i64 (x.at' : Int)] 40)) := by rw [hZ2, hbt2]; exact blk_new _ _
  clear hbt2
  clear hZ2
  have b0 := (blk_cell Hb2.out 0).trans rfl
  have b1 := (blk_cell Hb2.out 1).trans rfl
  have b2 := (blk_cell Hb2.out 2).trans rfl
  have b3 := (blk_cell Hb2.out 3).trans rfl
  have b4 := (blk_cell Hb2.out 4).trans rfl
  have fb1 := blk_unfrozen Hb2.out 1
  have t0 := (blk_cell Ht2.out 0).trans rfl
  have t1 := (blk_cell Ht2.out 1).trans rfl
  have t2 := (blk_cell Ht2.out 2).trans rfl
  have t3 := (blk_cell Ht2.out 3).trans rfl
  have q2 := HK.out
  go_upto_region 11 with fail
  clear b0 b1 b2 b3 b4 fb1 t0 t1 t2 t3
  obtain ⟨Z3, hZ3⟩ : ∃ Zz, Zz = Z2.setCell ⟨w.heap.size, 1, none⟩ (.int .i64 ((i : Int) + 1)) := ⟨_, rfl⟩
  rw [← hZ3]
  have A3 : Hid (Below w.heap.size w Z3) := by rw [hZ3]; exact (A2.out.setCell (p := ⟨w.heap.size, 1, none⟩) (by show w.heap.size ≤ w.heap.size; have := A2.out.size; omega) _)
  have Hb3 : Hid (Z3.heap[w.heap.size]? = some (.cells #[.slice (some ⟨g, 0, none⟩) N c, .int .i64 ((i : Int) + 1), .int .i64 (o : Int), .int .i64 0, .int .i64 (a : Int)] 38)) := by rw [hZ3]; exact (blk_set Hb2.out 1 _)
  have Hr3 : Hid (Z3.heap[w.heap.size + 1]? = some (.cells #[.slice none 0 0, .int .i64 0, .int .i64 0, .int .i64 0, .int .i64 0] 38)) := by rw [hZ3]; exact (blk_set_other Hr2.out (by show ¬ w.heap.size + 1 = w.heap.size; omega) _)
  have Ht3 : Hid (Z3.heap[bt2]? = some (.cells #[.int .i64 (kS x), .int .i64 x.v, .string ⟨(wS x).toArray⟩, .int .i64 (x.at' : Int)] 40)) := by rw [hZ3]; exact (blk_set_other Ht2.out (by show ¬ bt2 = w.heap.size; omega) _)
  clear hZ3
  have b0 := (blk_cell Hb3.out 0).trans rfl
  have b1 := (blk_cell Hb3.out 1).trans rfl
  have b2 := (blk_cell Hb3.out 2).trans rfl
  have b3 := (blk_cell Hb3.out 3).trans rfl
  have b4 := (blk_cell Hb3.out 4).trans rfl
  have t0 := (blk_cell Ht3.out 0).trans rfl
  have t1 := (blk_cell Ht3.out 1).trans rfl
  have t2 := (blk_cell Ht3.out 2).trans rfl
  have t3 := (blk_cell Ht3.out 3).trans rfl
  have r0 := (blk_cell Hr3.out 0).trans rfl
  have r1 := (blk_cell Hr3.out 1).trans rfl
  have r2 := (blk_cell Hr3.out 2).trans rfl
  have r3 := (blk_cell Hr3.out 3).trans rfl
  have r4 := (blk_cell Hr3.out 4).trans rfl
  have fr0 := blk_unfrozen Hr3.out 0
  have fr1 := blk_unfrozen Hr3.out 1
  have fr2 := blk_unfrozen Hr3.out 2
  have fr3 := blk_unfrozen Hr3.out 3
  have fr4 := blk_unfrozen Hr3.out 4
  go_region
  clear b0 b1 b2 b3 b4 t0 t1 t2 t3 r0 r1 r2 r3 r4 fr0 fr1 fr2 fr3 fr4
  obtain ⟨Y, hY⟩ : ∃ Zz, Zz = (((((Z3.setCell ⟨w.heap.size + 1, 0, none⟩ (.slice (some ⟨g, 0, none⟩) N c)).setCell ⟨w.heap.size + 1, 1, none⟩ (.int .i64 ((i : Int) + 1))).setCell ⟨w.heap.size + 1, 2, none⟩ (.int .i64 (o : Int))).setCell ⟨w.heap.size + 1, 3, none⟩ (.int .i64 0)).setCell ⟨w.heap.size + 1, 4, none⟩ (.int .i64 (a : Int))).drew := ⟨_, rfl⟩
  rw [← hY]
  have A4 : Hid (Below w.heap.size w Y) := by rw [hY]; exact ((((((A3.out.setCell (p := ⟨w.heap.size + 1, 0, none⟩) (by simp) _).setCell (p := ⟨w.heap.size + 1, 1, none⟩) (by simp) _).setCell (p := ⟨w.heap.size + 1, 2, none⟩) (by simp) _).setCell (p := ⟨w.heap.size + 1, 3, none⟩) (by simp) _).setCell (p := ⟨w.heap.size + 1, 4, none⟩) (by simp) _)).drew
  have Hr4 : Hid (Y.heap[w.heap.size + 1]? = some (.cells #[.slice (some ⟨g, 0, none⟩) N c, .int .i64 ((i : Int) + 1), .int .i64 (o : Int), .int .i64 0, .int .i64 (a : Int)] 38)) := by rw [hY]; exact (blk_set (blk_set (blk_set (blk_set (blk_set Hr3.out 0 _) 1 _) 2 _) 3 _) 4 _)
  clear hY
  have r0 := (blk_cell Hr4.out 0).trans rfl
  have r1 := (blk_cell Hr4.out 1).trans rfl
  have r2 := (blk_cell Hr4.out 2).trans rfl
  have r3 := (blk_cell Hr4.out 3).trans rfl
  have r4 := (blk_cell Hr4.out 4).trans rfl
  go_wp2
  refine bodyPost_ret (by simp [results, Tryd.results28, go_sem, r0, r1, r2, r3, r4]; try rfl) rfl ?_
  refine ⟨?_, A4.out⟩
  rw [show ((i + 1 : Nat) : Int) = (i : Int) + 1 by omega]

set_option maxHeartbeats 3200000 in
set_option maxRecDepth 1000000 in
theorem numT1 (t : List UInt8) (g N c i o a : Nat) (w : World) (hT : Tq t N g w) (hi : i < N) (hj : i < N) (hN : N ≤ 100000) (hm : (tkT t i).k ≠ 10) (hg : (tkT t (i)).k = 1) :
    Calls Tryd.prog 28 #[parV g N c i o 0 a, .bool true] w fun e' w' => e' = .returned (.tuple #[parV g N c (i + 1) o 0 a, .int .i64 ((tkT t (i)).v)]) ∧ Below w.heap.size w w' := by
  have hvl : 0 ≤ (tkT t (i)).v ∧ (tkT t (i)).v ≤ 1000000000 := (tk_ok t (i)).vl
  obtain ⟨W1, hW1⟩ : ∃ Zz, Zz = (w.alloc (.cells #[.slice (some ⟨g, 0, none⟩) N c, .int .i64 ((i : Int)), .int .i64 (o : Int), .int .i64 0, .int .i64 (a : Int)] 38)).alloc (.cells #[.slice none 0 0, .int .i64 0, .int .i64 0, .int .i64 0, .int .i64 0] 38) := ⟨_, rfl⟩
  have A1 : Hid (Below w.heap.size w W1) := by rw [hW1]; exact below_alloc' (below_alloc' (Below.refl _ _) _) _
  have Hb1 : Hid (W1.heap[w.heap.size]? = some (.cells #[.slice (some ⟨g, 0, none⟩) N c, .int .i64 ((i : Int)), .int .i64 (o : Int), .int .i64 0, .int .i64 (a : Int)] 38)) := by rw [hW1]; exact blk_alloc (blk_new _ _) _
  have Hr1 : Hid (W1.heap[w.heap.size + 1]? = some (.cells #[.slice none 0 0, .int .i64 0, .int .i64 0, .int .i64 0, .int .i64 0] 38)) := by rw [hW1]; exact blk_new1 _ _ _
  have HK : Hid ((kS (tkT t (i)) != 2) = false) := by unfold Hid; rw [(kS2 _).2 hg]; rfl
  have CI := Hid.mk (isWordS t g N c i o 0 a (twAt 10) W1 (hT.below A1.out) hi hN)
  rw [isW_k (tk_cl t i) (by omega) (by omega), decide_eq_false hm] at CI
  unfold parV at CI
  have HT := Hid.mk hT
  have e9 : IntKind.i64.wrap ((i : Int) + 1) = (i : Int) + 1 := by rw [IntKind.wrap_i64]; omega
  obtain ⟨x, hx⟩ : ∃ x, x = tkT t (i) := ⟨_, rfl⟩
  rw [← hx] at HK hvl ⊢
  have e7 : IntKind.i64.wrap (1 * x.v) = x.v := by rw [IntKind.wrap_i64]; omega
  have HX := Hid.mk hx
  clear hT hg hx hm
  unfold parV
  have k0 : (0 : Int) ≤ (i : Int) := by omega
  have k1 : (i : Int) < (N : Int) := by omega
  go_enter Tryd.func28, Tryd.ntmps28
  go_wp2_with fail
  rw [← hW1]
  clear hW1
  refine CI.out.mono ?_
  rintro e' w2 ⟨rfl, hb⟩
  have A2 := Hid.mk (below_then A1.out hb)
  have Hb2 := Hid.mk (blk_below Hb1.out hb)
  have Hr2 := Hid.mk (blk_below Hr1.out hb)
  clear hb
  have b0 := (blk_cell Hb2.out 0).trans rfl
  have b1 := (blk_cell Hb2.out 1).trans rfl
  have b2 := (blk_cell Hb2.out 2).trans rfl
  have b3 := (blk_cell Hb2.out 3).trans rfl
  have b4 := (blk_cell Hb2.out 4).trans rfl
  have fb1 := blk_unfrozen Hb2.out 1
  have QT := Hid.mk (HT.out.below A2.out)
  have y0 := QT.out.c0 (i) hj
  have y1 := QT.out.c1 (i) hj
  have y2 := QT.out.c2 (i) hj
  have y3 := QT.out.c3 (i) hj
  rw [← HX.out] at y0 y1 y2 y3
  have hgl := lt_of_cell y0
  go_upto_region 8 with fail
  clear b0 b1 b2 b3 b4 fb1 y0 y1 y2 y3 hgl
  obtain ⟨Z2, hZ2⟩ : ∃ Zz, Zz = w2.alloc (.cells #[.int .i64 (kS x), .int .i64 x.v, .string ⟨(wS x).toArray⟩, .int .i64 (x.at' : Int)] 40) := ⟨_, rfl⟩
  rw [← hZ2]
  have A3 : Hid (Below w.heap.size w Z2) := by rw [hZ2]; exact below_alloc' A2.out _
  have Hb3 : Hid (Z2.heap[w.heap.size]? = some (.cells #[.slice (some ⟨g, 0, none⟩) N c, .int .i64 ((i : Int)), .int .i64 (o : Int), .int .i64 0, .int .i64 (a : Int)] 38)) := by rw [hZ2]; exact blk_alloc Hb2.out _
  have Hr3 : Hid (Z2.heap[w.heap.size + 1]? = some (.cells #[.slice none 0 0, .int .i64 0, .int .i64 0, .int .i64 0, .int .i64 0] 38)) := by rw [hZ2]; exact blk_alloc Hr2.out _
  obtain ⟨bt3, hbt3⟩ : ∃ b, b = w2.heap.size := ⟨_, rfl⟩
  rw [← hbt3]
  have nbt3b : ¬ bt3 = w.heap.size := by have := blk_lt Hb2.out; omega
  have nbt3b' : ¬ w.heap.size = bt3 := fun e => nbt3b e.symm
  have nbt3r : ¬ bt3 = w.heap.size + 1 := by have := blk_lt Hr2.out; omega
  have nbt3r' : ¬ w.heap.size + 1 = bt3 := fun e => nbt3r e.symm
  have lbt3 : w.heap.size ≤ bt3 := by rw [hbt3]; exact A2.out.size
  have Ht3 : Hid (Z2.heap[bt3]? = some (.cells #[.int .i64 (kS x), .int .i64 x.v, .string ⟨(wS x).toArray⟩, .int .i64 (x.at' : Int)] 40)) := by rw [hZ2, hbt3]; exact blk_new _ _
  clear hbt3
  clear hZ2
  have b0 := (blk_cell Hb3.out 0).trans rfl
  have b1 := (blk_cell Hb3.out 1).trans rfl
  have b2 := (blk_cell Hb3.out 2).trans rfl
  have b3 := (blk_cell Hb3.out 3).trans rfl
  have b4 := (blk_cell Hb3.out 4).trans rfl
  have fb1 := blk_unfrozen Hb3.out 1
  have t0 := (blk_cell Ht3.out 0).trans rfl
  have t1 := (blk_cell Ht3.out 1).trans rfl
  have t2 := (blk_cell Ht3.out 2).trans rfl
  have t3 := (blk_cell Ht3.out 3).trans rfl
  have q2 := HK.out
  go_upto_region 11 with fail
  clear b0 b1 b2 b3 b4 fb1 t0 t1 t2 t3
  obtain ⟨Z3, hZ3⟩ : ∃ Zz, Zz = Z2.setCell ⟨w.heap.size, 1, none⟩ (.int .i64 ((i : Int) + 1)) := ⟨_, rfl⟩
  rw [← hZ3]
  have A4 : Hid (Below w.heap.size w Z3) := by rw [hZ3]; exact (A3.out.setCell (p := ⟨w.heap.size, 1, none⟩) (by show w.heap.size ≤ w.heap.size; have := A3.out.size; omega) _)
  have Hb4 : Hid (Z3.heap[w.heap.size]? = some (.cells #[.slice (some ⟨g, 0, none⟩) N c, .int .i64 ((i : Int) + 1), .int .i64 (o : Int), .int .i64 0, .int .i64 (a : Int)] 38)) := by rw [hZ3]; exact (blk_set Hb3.out 1 _)
  have Hr4 : Hid (Z3.heap[w.heap.size + 1]? = some (.cells #[.slice none 0 0, .int .i64 0, .int .i64 0, .int .i64 0, .int .i64 0] 38)) := by rw [hZ3]; exact (blk_set_other Hr3.out (by show ¬ w.heap.size + 1 = w.heap.size; omega) _)
  have Ht4 : Hid (Z3.heap[bt3]? = some (.cells #[.int .i64 (kS x), .int .i64 x.v, .string ⟨(wS x).toArray⟩, .int .i64 (x.at' : Int)] 40)) := by rw [hZ3]; exact (blk_set_other Ht3.out (by show ¬ bt3 = w.heap.size; omega) _)
  clear hZ3
  have b0 := (blk_cell Hb4.out 0).trans rfl
  have b1 := (blk_cell Hb4.out 1).trans rfl
  have b2 := (blk_cell Hb4.out 2).trans rfl
  have b3 := (blk_cell Hb4.out 3).trans rfl
  have b4 := (blk_cell Hb4.out 4).trans rfl
  have t0 := (blk_cell Ht4.out 0).trans rfl
  have t1 := (blk_cell Ht4.out 1).trans rfl
  have t2 := (blk_cell Ht4.out 2).trans rfl
  have t3 := (blk_cell Ht4.out 3).trans rfl
  have r0 := (blk_cell Hr4.out 0).trans rfl
  have r1 := (blk_cell Hr4.out 1).trans rfl
  have r2 := (blk_cell Hr4.out 2).trans rfl
  have r3 := (blk_cell Hr4.out 3).trans rfl
  have r4 := (blk_cell Hr4.out 4).trans rfl
  have fr0 := blk_unfrozen Hr4.out 0
  have fr1 := blk_unfrozen Hr4.out 1
  have fr2 := blk_unfrozen Hr4.out 2
  have fr3 := blk_unfrozen Hr4.out 3
  have fr4 := blk_unfrozen Hr4.out 4
  go_region
  clear b0 b1 b2 b3 b4 t0 t1 t2 t3 r0 r1 r2 r3 r4 fr0 fr1 fr2 fr3 fr4
  obtain ⟨Y, hY⟩ : ∃ Zz, Zz = (((((Z3.setCell ⟨w.heap.size + 1, 0, none⟩ (.slice (some ⟨g, 0, none⟩) N c)).setCell ⟨w.heap.size + 1, 1, none⟩ (.int .i64 ((i : Int) + 1))).setCell ⟨w.heap.size + 1, 2, none⟩ (.int .i64 (o : Int))).setCell ⟨w.heap.size + 1, 3, none⟩ (.int .i64 0)).setCell ⟨w.heap.size + 1, 4, none⟩ (.int .i64 (a : Int))).drew := ⟨_, rfl⟩
  rw [← hY]
  have A5 : Hid (Below w.heap.size w Y) := by rw [hY]; exact ((((((A4.out.setCell (p := ⟨w.heap.size + 1, 0, none⟩) (by simp) _).setCell (p := ⟨w.heap.size + 1, 1, none⟩) (by simp) _).setCell (p := ⟨w.heap.size + 1, 2, none⟩) (by simp) _).setCell (p := ⟨w.heap.size + 1, 3, none⟩) (by simp) _).setCell (p := ⟨w.heap.size + 1, 4, none⟩) (by simp) _)).drew
  have Hr5 : Hid (Y.heap[w.heap.size + 1]? = some (.cells #[.slice (some ⟨g, 0, none⟩) N c, .int .i64 ((i : Int) + 1), .int .i64 (o : Int), .int .i64 0, .int .i64 (a : Int)] 38)) := by rw [hY]; exact (blk_set (blk_set (blk_set (blk_set (blk_set Hr4.out 0 _) 1 _) 2 _) 3 _) 4 _)
  clear hY
  have r0 := (blk_cell Hr5.out 0).trans rfl
  have r1 := (blk_cell Hr5.out 1).trans rfl
  have r2 := (blk_cell Hr5.out 2).trans rfl
  have r3 := (blk_cell Hr5.out 3).trans rfl
  have r4 := (blk_cell Hr5.out 4).trans rfl
  go_wp2
  refine bodyPost_ret (by simp [results, Tryd.results28, go_sem, r0, r1, r2, r3, r4]; try rfl) rfl ?_
  refine ⟨?_, A5.out⟩
  rw [show ((i + 1 : Nat) : Int) = (i : Int) + 1 by omega]

set_option maxHeartbeats 3200000 in
set_option maxRecDepth 1000000 in
theorem numM1 (t : List UInt8) (g N c i o a : Nat) (w : World) (hT : Tq t N g w) (hi : i < N) (hj : i + 1 < N) (hN : N ≤ 100000) (hm : (tkT t i).k = 10) (hg : (tkT t (i + 1)).k = 1) :
    Calls Tryd.prog 28 #[parV g N c i o 0 a, .bool true] w fun e' w' => e' = .returned (.tuple #[parV g N c (i + 2) o 0 a, .int .i64 (-(tkT t (i + 1)).v)]) ∧ Below w.heap.size w w' := by
  have hvl : 0 ≤ (tkT t (i + 1)).v ∧ (tkT t (i + 1)).v ≤ 1000000000 := (tk_ok t (i + 1)).vl
  obtain ⟨W1, hW1⟩ : ∃ Zz, Zz = (w.alloc (.cells #[.slice (some ⟨g, 0, none⟩) N c, .int .i64 ((i : Int)), .int .i64 (o : Int), .int .i64 0, .int .i64 (a : Int)] 38)).alloc (.cells #[.slice none 0 0, .int .i64 0, .int .i64 0, .int .i64 0, .int .i64 0] 38) := ⟨_, rfl⟩
  have A1 : Hid (Below w.heap.size w W1) := by rw [hW1]; exact below_alloc' (below_alloc' (Below.refl _ _) _) _
  have Hb1 : Hid (W1.heap[w.heap.size]? = some (.cells #[.slice (some ⟨g, 0, none⟩) N c, .int .i64 ((i : Int)), .int .i64 (o : Int), .int .i64 0, .int .i64 (a : Int)] 38)) := by rw [hW1]; exact blk_alloc (blk_new _ _) _
  have Hr1 : Hid (W1.heap[w.heap.size + 1]? = some (.cells #[.slice none 0 0, .int .i64 0, .int .i64 0, .int .i64 0, .int .i64 0] 38)) := by rw [hW1]; exact blk_new1 _ _ _
  have HK : Hid ((kS (tkT t (i + 1)) != 2) = false) := by unfold Hid; rw [(kS2 _).2 hg]; rfl
  have CI := Hid.mk (isWordS t g N c i o 0 a (twAt 10) W1 (hT.below A1.out) hi hN)
  rw [isW_k (tk_cl t i) (by omega) (by omega), decide_eq_true (p := (tkT t i).k = 10) hm] at CI
  unfold parV at CI
  have HT := Hid.mk hT
  have e9 : IntKind.i64.wrap ((i : Int) + 1) = (i : Int) + 1 := by rw [IntKind.wrap_i64]; omega
  have e8 : IntKind.i64.wrap ((i : Int) + 1 + 1) = (i : Int) + 1 + 1 := by rw [IntKind.wrap_i64]; omega
  obtain ⟨x, hx⟩ : ∃ x, x = tkT t (i + 1) := ⟨_, rfl⟩
  rw [← hx] at HK hvl ⊢
  have e7 : IntKind.i64.wrap (-1 * x.v) = -x.v := by rw [IntKind.wrap_i64]; omega
  have HX := Hid.mk hx
  clear hT hg hx hm
  unfold parV
  have k0 : (0 : Int) ≤ (i : Int) + 1 := by omega
  have k1 : (i : Int) + 1 < (N : Int) := by omega
  go_enter Tryd.func28, Tryd.ntmps28
  go_wp2_with fail
  rw [← hW1]
  clear hW1
  refine CI.out.mono ?_
  rintro e' w2 ⟨rfl, hb⟩
  have A2 := Hid.mk (below_then A1.out hb)
  have Hb2 := Hid.mk (blk_below Hb1.out hb)
  have Hr2 := Hid.mk (blk_below Hr1.out hb)
  clear hb
  have b0 := (blk_cell Hb2.out 0).trans rfl
  have b1 := (blk_cell Hb2.out 1).trans rfl
  have b2 := (blk_cell Hb2.out 2).trans rfl
  have b3 := (blk_cell Hb2.out 3).trans rfl
  have b4 := (blk_cell Hb2.out 4).trans rfl
  have fb1 := blk_unfrozen Hb2.out 1
  go_upto_region 7 with fail
  clear b0 b1 b2 b3 b4 fb1
  obtain ⟨Z, hZ⟩ : ∃ Zz, Zz = w2.setCell ⟨w.heap.size, 1, none⟩ (.int .i64 ((i : Int) + 1)) := ⟨_, rfl⟩
  rw [← hZ]
  have A3 : Hid (Below w.heap.size w Z) := by rw [hZ]; exact (A2.out.setCell (p := ⟨w.heap.size, 1, none⟩) (by show w.heap.size ≤ w.heap.size; have := A2.out.size; omega) _)
  have Hb3 : Hid (Z.heap[w.heap.size]? = some (.cells #[.slice (some ⟨g, 0, none⟩) N c, .int .i64 ((i : Int) + 1), .int .i64 (o : Int), .int .i64 0, .int .i64 (a : Int)] 38)) := by rw [hZ]; exact (blk_set Hb2.out 1 _)
  have Hr3 : Hid (Z.heap[w.heap.size + 1]? = some (.cells #[.slice none 0 0, .int .i64 0, .int .i64 0, .int .i64 0, .int .i64 0] 38)) := by rw [hZ]; exact (blk_set_other Hr2.out (by show ¬ w.heap.size + 1 = w.heap.size; omega) _)
  clear hZ
  have b0 := (blk_cell Hb3.out 0).trans rfl
  have b1 := (blk_cell Hb3.out 1).trans rfl
  have b2 := (blk_cell Hb3.out 2).trans rfl
  have b3 := (blk_cell Hb3.out 3).trans rfl
  have b4 := (blk_cell Hb3.out 4).trans rfl
  have fb1 := blk_unfrozen Hb3.out 1
  have QT := Hid.mk (HT.out.below A3.out)
  have y0 := QT.out.c0 (i + 1) hj
  have y1 := QT.out.c1 (i + 1) hj
  have y2 := QT.out.c2 (i + 1) hj
  have y3 := QT.out.c3 (i + 1) hj
  rw [← HX.out] at y0 y1 y2 y3
  have hgl := lt_of_cell y0
  go_upto_region 8 with fail
  clear b0 b1 b2 b3 b4 fb1 y0 y1 y2 y3 hgl
  obtain ⟨Z2, hZ2⟩ : ∃ Zz, Zz = Z.alloc (.cells #[.int .i64 (kS x), .int .i64 x.v, .string ⟨(wS x).toArray⟩, .int .i64 (x.at' : Int)] 40) := ⟨_, rfl⟩
  rw [← hZ2]
  have A4 : Hid (Below w.heap.size w Z2) := by rw [hZ2]; exact below_alloc' A3.out _
  have Hb4 : Hid (Z2.heap[w.heap.size]? = some (.cells #[.slice (some ⟨g, 0, none⟩) N c, .int .i64 ((i : Int) + 1), .int .i64 (o : Int), .int .i64 0, .int .i64 (a : Int)] 38)) := by rw [hZ2]; exact blk_alloc Hb3.out _
  have Hr4 : Hid (Z2.heap[w.heap.size + 1]? = some (.cells #[.slice none 0 0, .int .i64 0, .int .i64 0, .int .i64 0, .int .i64 0] 38)) := by rw [hZ2]; exact blk_alloc Hr3.out _
  obtain ⟨bt4, hbt4⟩ : ∃ b, b = Z.heap.size := ⟨_, rfl⟩
  rw [← hbt4]
  have nbt4b : ¬ bt4 = w.heap.size := by have := blk_lt Hb3.out; omega
  have nbt4b' : ¬ w.heap.size = bt4 := fun e => nbt4b e.symm
  have nbt4r : ¬ bt4 = w.heap.size + 1 := by have := blk_lt Hr3.out; omega
  have nbt4r' : ¬ w.heap.size + 1 = bt4 := fun e => nbt4r e.symm
  have lbt4 : w.heap.size ≤ bt4 := by rw [hbt4]; exact A3.out.size
  have Ht4 : Hid (Z2.heap[bt4]? = some (.cells #[.int .i64 (kS x), .int .i64 x.v, .string ⟨(wS x).toArray⟩, .int .i64 (x.at' : Int)] 40)) := by rw [hZ2, hbt4]; exact blk_new _ _
  clear hbt4
  clear hZ2
  have b0 := (blk_cell Hb4.out 0).trans rfl
  have b1 := (blk_cell Hb4.out 1).trans rfl
  have b2 := (blk_cell Hb4.out 2).trans rfl
  have b3 := (blk_cell Hb4.out 3).trans rfl
  have b4 := (blk_cell Hb4.out 4).trans rfl
  have fb1 := blk_unfrozen Hb4.out 1
  have t0 := (blk_cell Ht4.out 0).trans rfl
  have t1 := (blk_cell Ht4.out 1).trans rfl
  have t2 := (blk_cell Ht4.out 2).trans rfl
  have t3 := (blk_cell Ht4.out 3).trans rfl
  have q2 := HK.out
  go_upto_region 11 with fail
  clear b0 b1 b2 b3 b4 fb1 t0 t1 t2 t3
  obtain ⟨Z3, hZ3⟩ : ∃ Zz, Zz = Z2.setCell ⟨w.heap.size, 1, none⟩ (.int .i64 ((i : Int) + 1 + 1)) := ⟨_, rfl⟩
  rw [← hZ3]
  have A5 : Hid (Below w.heap.size w Z3) := by rw [hZ3]; exact (A4.out.setCell (p := ⟨w.heap.size, 1, none⟩) (by show w.heap.size ≤ w.heap.size; have := A4.out.size; omega) _)
  have Hb5 : Hid (Z3.heap[w.heap.size]? = some (.cells #[.slice (some ⟨g, 0, none⟩) N c, .int .i64 ((i : Int) + 1 + 1), .int .i64 (o : Int), .int .i64 0, .int .i64 (a : Int)] 38)) := by rw [hZ3]; exact (blk_set Hb4.out 1 _)
  have Hr5 : Hid (Z3.heap[w.heap.size + 1]? = some (.cells #[.slice none 0 0, .int .i64 0, .int .i64 0, .int .i64 0, .int .i64 0] 38)) := by rw [hZ3]; exact (blk_set_other Hr4.out (by show ¬ w.heap.size + 1 = w.heap.size; omega) _)
  have Ht5 : Hid (Z3.heap[bt4]? = some (.cells #[.int .i64 (kS x), .int .i64 x.v, .string ⟨(wS x).toArray⟩, .int .i64 (x.at' : Int)] 40)) := by rw [hZ3]; exact (blk_set_other Ht4.out (by show ¬ bt4 = w.heap.size; omega) _)
  clear hZ3
  have b0 := (blk_cell Hb5.out 0).trans rfl
  have b1 := (blk_cell Hb5.out 1).trans rfl
  have b2 := (blk_cell Hb5.out 2).trans rfl
  have b3 := (blk_cell Hb5.out 3).trans rfl
  have b4 := (blk_cell Hb5.out 4).trans rfl
  have t0 := (blk_cell Ht5.out 0).trans rfl
  have t1 := (blk_cell Ht5.out 1).trans rfl
  have t2 := (blk_cell Ht5.out 2).trans rfl
  have t3 := (blk_cell Ht5.out 3).trans rfl
  have r0 := (blk_cell Hr5.out 0).trans rfl
  have r1 := (blk_cell Hr5.out 1).trans rfl
  have r2 := (blk_cell Hr5.out 2).trans rfl
  have r3 := (blk_cell Hr5.out 3).trans rfl
  have r4 := (blk_cell Hr5.out 4).trans rfl
  have fr0 := blk_unfrozen Hr5.out 0
  have fr1 := blk_unfrozen Hr5.out 1
  have fr2 := blk_unfrozen Hr5.out 2
  have fr3 := blk_unfrozen Hr5.out 3
  have fr4 := blk_unfrozen Hr5.out 4
  go_region
  clear b0 b1 b2 b3 b4 t0 t1 t2 t3 r0 r1 r2 r3 r4 fr0 fr1 fr2 fr3 fr4
  obtain ⟨Y, hY⟩ : ∃ Zz, Zz = (((((Z3.setCell ⟨w.heap.size + 1, 0, none⟩ (.slice (some ⟨g, 0, none⟩) N c)).setCell ⟨w.heap.size + 1, 1, none⟩ (.int .i64 ((i : Int) + 1 + 1))).setCell ⟨w.heap.size + 1, 2, none⟩ (.int .i64 (o : Int))).setCell ⟨w.heap.size + 1, 3, none⟩ (.int .i64 0)).setCell ⟨w.heap.size + 1, 4, none⟩ (.int .i64 (a : Int))).drew := ⟨_, rfl⟩
  rw [← hY]
  have A6 : Hid (Below w.heap.size w Y) := by rw [hY]; exact ((((((A5.out.setCell (p := ⟨w.heap.size + 1, 0, none⟩) (by simp) _).setCell (p := ⟨w.heap.size + 1, 1, none⟩) (by simp) _).setCell (p := ⟨w.heap.size + 1, 2, none⟩) (by simp) _).setCell (p := ⟨w.heap.size + 1, 3, none⟩) (by simp) _).setCell (p := ⟨w.heap.size + 1, 4, none⟩) (by simp) _)).drew
  have Hr6 : Hid (Y.heap[w.heap.size + 1]? = some (.cells #[.slice (some ⟨g, 0, none⟩) N c, .int .i64 ((i : Int) + 1 + 1), .int .i64 (o : Int), .int .i64 0, .int .i64 (a : Int)] 38)) := by rw [hY]; exact (blk_set (blk_set (blk_set (blk_set (blk_set Hr5.out 0 _) 1 _) 2 _) 3 _) 4 _)
  clear hY
  have r0 := (blk_cell Hr6.out 0).trans rfl
  have r1 := (blk_cell Hr6.out 1).trans rfl
  have r2 := (blk_cell Hr6.out 2).trans rfl
  have r3 := (blk_cell Hr6.out 3).trans rfl
  have r4 := (blk_cell Hr6.out 4).trans rfl
  go_wp2
  refine bodyPost_ret (by simp [results, Tryd.results28, go_sem, r0, r1, r2, r3, r4]; try rfl) rfl ?_
  refine ⟨?_, A6.out⟩
  rw [show ((i + 2 : Nat) : Int) = (i : Int) + 1 + 1 by omega]

set_option maxHeartbeats 3200000 in
set_option maxRecDepth 1000000 in
theorem numF0 (t : List UInt8) (g N c i o a : Nat) (w : World) (hT : Tq t N g w) (hi : i < N) (hj : i < N) (hN : N ≤ 100000) (hg : (tkT t (i)).k ≠ 1) :
    Calls Tryd.prog 28 #[parV g N c i o 0 a, .bool false] w fun e' w' => e' = .returned (.tuple #[parV g N c (i) o (fcode 4 (tkT t (i))) (tkT t (i)).at', .int .i64 0]) ∧ Below w.heap.size w w' := by
  have hvl : 0 ≤ (tkT t (i)).v ∧ (tkT t (i)).v ≤ 1000000000 := (tk_ok t (i)).vl
  obtain ⟨W1, hW1⟩ : ∃ Zz, Zz = (w.alloc (.cells #[.slice (some ⟨g, 0, none⟩) N c, .int .i64 ((i : Int)), .int .i64 (o : Int), .int .i64 0, .int .i64 (a : Int)] 38)).alloc (.cells #[.slice none 0 0, .int .i64 0, .int .i64 0, .int .i64 0, .int .i64 0] 38) := ⟨_, rfl⟩
  have A1 : Hid (Below w.heap.size w W1) := by rw [hW1]; exact below_alloc' (below_alloc' (Below.refl _ _) _) _
  have Hb1 : Hid (W1.heap[w.heap.size]? = some (.cells #[.slice (some ⟨g, 0, none⟩) N c, .int .i64 ((i : Int)), .int .i64 (o : Int), .int .i64 0, .int .i64 (a : Int)] 38)) := by rw [hW1]; exact blk_alloc (blk_new _ _) _
  have Hr1 : Hid (W1.heap[w.heap.size + 1]? = some (.cells #[.slice none 0 0, .int .i64 0, .int .i64 0, .int .i64 0, .int .i64 0] 38)) := by rw [hW1]; exact blk_new1 _ _ _
  have HK : Hid (kS (tkT t (i)) ≠ 2) := fun e => hg ((kS2 _).1 e)
  have CF := Hid.mk (fun (w2 : World) (hb : Below w.heap.size w w2) => failS t g N c (i) o 0 a 4 w2 (hT.below hb) hj hN)
  unfold parV at CF
  have HT := Hid.mk hT
  have e9 : IntKind.i64.wrap ((i : Int) + 1) = (i : Int) + 1 := by rw [IntKind.wrap_i64]; omega
  obtain ⟨x, hx⟩ : ∃ x, x = tkT t (i) := ⟨_, rfl⟩
  rw [← hx] at HK hvl CF ⊢
  have HX := Hid.mk hx
  clear hT hg hx 
  unfold parV
  have k0 : (0 : Int) ≤ (i : Int) := by omega
  have k1 : (i : Int) < (N : Int) := by omega
  go_enter Tryd.func28, Tryd.ntmps28
  go_upto_region 4 with fail
  rw [← hW1]
  clear hW1
  have b0 := (blk_cell Hb1.out 0).trans rfl
  have b1 := (blk_cell Hb1.out 1).trans rfl
  have b2 := (blk_cell Hb1.out 2).trans rfl
  have b3 := (blk_cell Hb1.out 3).trans rfl
  have b4 := (blk_cell Hb1.out 4).trans rfl
  have fb1 := blk_unfrozen Hb1.out 1
  have QT := Hid.mk (HT.out.below A1.out)
  have y0 := QT.out.c0 (i) hj
  have y1 := QT.out.c1 (i) hj
  have y2 := QT.out.c2 (i) hj
  have y3 := QT.out.c3 (i) hj
  rw [← HX.out] at y0 y1 y2 y3
  have hgl := lt_of_cell y0
  go_upto_region 8 with fail
  clear b0 b1 b2 b3 b4 fb1 y0 y1 y2 y3 hgl
  obtain ⟨Z2, hZ2⟩ : ∃ Zz, Zz = W1.alloc (.cells #[.int .i64 (kS x), .int .i64 x.v, .string ⟨(wS x).toArray⟩, .int .i64 (x.at' : Int)] 40) := ⟨_, rfl⟩
  rw [← hZ2]
  have A2 : Hid (Below w.heap.size w Z2) := by rw [hZ2]; exact below_alloc' A1.out _
  have Hb2 : Hid (Z2.heap[w.heap.size]? = some (.cells #[.slice (some ⟨g, 0, none⟩) N c, .int .i64 ((i : Int)), .int .i64 (o : Int), .int .i64 0, .int .i64 (a : Int)] 38)) := by rw [hZ2]; exact blk_alloc Hb1.out _
  have Hr2 : Hid (Z2.heap[w.heap.size + 1]? = some (.cells #[.slice none 0 0, .int .i64 0, .int .i64 0, .int .i64 0, .int .i64 0] 38)) := by rw [hZ2]; exact blk_alloc Hr1.out _
  obtain ⟨bt2, hbt2⟩ : ∃ b, b = W1.heap.size := ⟨_, rfl⟩
  rw [← hbt2]
  have nbt2b : ¬ bt2 = w.heap.size := by have := blk_lt Hb1.out; omega
  have nbt2b' : ¬ w.heap.size = bt2 := fun e => nbt2b e.symm
  have nbt2r : ¬ bt2 = w.heap.size + 1 := by have := blk_lt Hr1.out; omega
  have nbt2r' : ¬ w.heap.size + 1 = bt2 := fun e => nbt2r e.symm
  have lbt2 : w.heap.size ≤ bt2 := by rw [hbt2]; exact A1.out.size
  have Ht2 : Hid (Z2.heap[bt2]? = some (.cells #[.int .i64 (kS x), .int .i64 x.v, .string ⟨(wS x).toArray⟩, .int .i64 (x.at' : Int)] 40)) := by rw [hZ2, hbt2]; exact blk_new _ _
  clear hbt2
  clear hZ2
  have b0 := (blk_cell Hb2.out 0).trans rfl
  have b1 := (blk_cell Hb2.out 1).trans rfl
  have b2 := (blk_cell Hb2.out 2).trans rfl
  have b3 := (blk_cell Hb2.out 3).trans rfl
  have b4 := (blk_cell Hb2.out 4).trans rfl
  have fb1 := blk_unfrozen Hb2.out 1
  have t0 := (blk_cell Ht2.out 0).trans rfl
  have t1 := (blk_cell Ht2.out 1).trans rfl
  have t2 := (blk_cell Ht2.out 2).trans rfl
  have t3 := (blk_cell Ht2.out 3).trans rfl
  have q2 := HK.out
  have CF2 := Hid.mk (CF.out _ A2.out)
  go_wp2_with fail
  refine CF2.out.mono ?_
  rintro e' w3 ⟨rfl, hb⟩
  clear b0 b1 b2 b3 b4 fb1 t0 t1 t2 t3
  have A3 := Hid.mk (below_then A2.out hb)
  have Hb3 := Hid.mk (blk_below Hb2.out hb)
  have Hr3 := Hid.mk (blk_below Hr2.out hb)
  have Ht3 := Hid.mk (blk_below Ht2.out hb)
  clear hb
  have r0 := (blk_cell Hr3.out 0).trans rfl
  have r1 := (blk_cell Hr3.out 1).trans rfl
  have r2 := (blk_cell Hr3.out 2).trans rfl
  have r3 := (blk_cell Hr3.out 3).trans rfl
  have r4 := (blk_cell Hr3.out 4).trans rfl
  have fr0 := blk_unfrozen Hr3.out 0
  have fr1 := blk_unfrozen Hr3.out 1
  have fr2 := blk_unfrozen Hr3.out 2
  have fr3 := blk_unfrozen Hr3.out 3
  have fr4 := blk_unfrozen Hr3.out 4
  go_wp2
  refine bodyPost_ret (by simp [results, Tryd.results28, go_sem, r0, r1, r2, r3, r4]; try rfl) rfl ?_
  exact ⟨rfl, (((((A3.out.setCell (p := ⟨w.heap.size + 1, 0, none⟩) (by simp) _).setCell (p := ⟨w.heap.size + 1, 1, none⟩) (by simp) _).setCell (p := ⟨w.heap.size + 1, 2, none⟩) (by simp) _).setCell (p := ⟨w.heap.size + 1, 3, none⟩) (by simp) _).setCell (p := ⟨w.heap.size + 1, 4, none⟩) (by simp) _)⟩

set_option maxHeartbeats 3200000 in
set_option maxRecDepth 1000000 in
theorem numT0 (t : List UInt8) (g N c i o a : Nat) (w : World) (hT : Tq t N g w) (hi : i < N) (hj : i < N) (hN : N ≤ 100000) (hm : (tkT t i).k ≠ 10) (hg : (tkT t (i)).k ≠ 1) :
    Calls Tryd.prog 28 #[parV g N c i o 0 a, .bool true] w fun e' w' => e' = .returned (.tuple #[parV g N c (i) o (fcode 4 (tkT t (i))) (tkT t (i)).at', .int .i64 0]) ∧ Below w.heap.size w w' := by
  have hvl : 0 ≤ (tkT t (i)).v ∧ (tkT t (i)).v ≤ 1000000000 := (tk_ok t (i)).vl
  obtain ⟨W1, hW1⟩ : ∃ Zz, Zz = (w.alloc (.cells #[.slice (some ⟨g, 0, none⟩) N c, .int .i64 ((i : Int)), .int .i64 (o : Int), .int .i64 0, .int .i64 (a : Int)] 38)).alloc (.cells #[.slice none 0 0, .int .i64 0, .int .i64 0, .int .i64 0, .int .i64 0] 38) := ⟨_, rfl⟩
  have A1 : Hid (Below w.heap.size w W1) := by rw [hW1]; exact below_alloc' (below_alloc' (Below.refl _ _) _) _
  have Hb1 : Hid (W1.heap[w.heap.size]? = some (.cells #[.slice (some ⟨g, 0, none⟩) N c, .int .i64 ((i : Int)), .int .i64 (o : Int), .int .i64 0, .int .i64 (a : Int)] 38)) := by rw [hW1]; exact blk_alloc (blk_new _ _) _
  have Hr1 : Hid (W1.heap[w.heap.size + 1]? = some (.cells #[.slice none 0 0, .int .i64 0, .int .i64 0, .int .i64 0, .int .i64 0] 38)) := by rw [hW1]; exact blk_new1 _ _ _
  have HK : Hid (kS (tkT t (i)) ≠ 2) := fun e => hg ((kS2 _).1 e)
  have CI := Hid.mk (isWordS t g N c i o 0 a (twAt 10) W1 (hT.below A1.out) hi hN)
  rw [isW_k (tk_cl t i) (by omega) (by omega), decide_eq_false hm] at CI
  unfold parV at CI
  have CF := Hid.mk (fun (w2 : World) (hb : Below w.heap.size w w2) => failS t g N c (i) o 0 a 4 w2 (hT.below hb) hj hN)
  unfold parV at CF
  have HT := Hid.mk hT
  have e9 : IntKind.i64.wrap ((i : Int) + 1) = (i : Int) + 1 := by rw [IntKind.wrap_i64]; omega
  obtain ⟨x, hx⟩ : ∃ x, x = tkT t (i) := ⟨_, rfl⟩
  rw [← hx] at HK hvl CF ⊢
  have HX := Hid.mk hx
  clear hT hg hx hm
  unfold parV
  have k0 : (0 : Int) ≤ (i : Int) := by omega
  have k1 : (i : Int) < (N : Int) := by omega
  go_enter Tryd.func28, Tryd.ntmps28
  go_wp2_with fail
  rw [← hW1]
  clear hW1
  refine CI.out.mono ?_
  rintro e' w2 ⟨rfl, hb⟩
  have A2 := Hid.mk (below_then A1.out hb)
  have Hb2 := Hid.mk (blk_below Hb1.out hb)
  have Hr2 := Hid.mk (blk_below Hr1.out hb)
  clear hb
  have b0 := (blk_cell Hb2.out 0).trans rfl
  have b1 := (blk_cell Hb2.out 1).trans rfl
  have b2 := (blk_cell Hb2.out 2).trans rfl
  have b3 := (blk_cell Hb2.out 3).trans rfl
  have b4 := (blk_cell Hb2.out 4).trans rfl
  have fb1 := blk_unfrozen Hb2.out 1
  have QT := Hid.mk (HT.out.below A2.out)
  have y0 := QT.out.c0 (i) hj
  have y1 := QT.out.c1 (i) hj
  have y2 := QT.out.c2 (i) hj
  have y3 := QT.out.c3 (i) hj
  rw [← HX.out] at y0 y1 y2 y3
  have hgl := lt_of_cell y0
  go_upto_region 8 with fail
  clear b0 b1 b2 b3 b4 fb1 y0 y1 y2 y3 hgl
  obtain ⟨Z2, hZ2⟩ : ∃ Zz, Zz = w2.alloc (.cells #[.int .i64 (kS x), .int .i64 x.v, .string ⟨(wS x).toArray⟩, .int .i64 (x.at' : Int)] 40) := ⟨_, rfl⟩
  rw [← hZ2]
  have A3 : Hid (Below w.heap.size w Z2) := by rw [hZ2]; exact below_alloc' A2.out _
  have Hb3 : Hid (Z2.heap[w.heap.size]? = some (.cells #[.slice (some ⟨g, 0, none⟩) N c, .int .i64 ((i : Int)), .int .i64 (o : Int), .int .i64 0, .int .i64 (a : Int)] 38)) := by rw [hZ2]; exact blk_alloc Hb2.out _
  have Hr3 : Hid (Z2.heap[w.heap.size + 1]? = some (.cells #[.slice none 0 0, .int .i64 0, .int .i64 0, .int .i64 0, .int .i64 0] 38)) := by rw [hZ2]; exact blk_alloc Hr2.out _
  obtain ⟨bt3, hbt3⟩ : ∃ b, b = w2.heap.size := ⟨_, rfl⟩
  rw [← hbt3]
  have nbt3b : ¬ bt3 = w.heap.size := by have := blk_lt Hb2.out; omega
  have nbt3b' : ¬ w.heap.size = bt3 := fun e => nbt3b e.symm
  have nbt3r : ¬ bt3 = w.heap.size + 1 := by have := blk_lt Hr2.out; omega
  have nbt3r' : ¬ w.heap.size + 1 = bt3 := fun e => nbt3r e.symm
  have lbt3 : w.heap.size ≤ bt3 := by rw [hbt3]; exact A2.out.size
  have Ht3 : Hid (Z2.heap[bt3]? = some (.cells #[.int .i64 (kS x), .int .i64 x.v, .string ⟨(wS x).toArray⟩, .int .i64 (x.at' : Int)] 40)) := by rw [hZ2, hbt3]; exact blk_new _ _
  clear hbt3
  clear hZ2
  have b0 := (blk_cell Hb3.out 0).trans rfl
  have b1 := (blk_cell Hb3.out 1).trans rfl
  have b2 := (blk_cell Hb3.out 2).trans rfl
  have b3 := (blk_cell Hb3.out 3).trans rfl
  have b4 := (blk_cell Hb3.out 4).trans rfl
  have fb1 := blk_unfrozen Hb3.out 1
  have t0 := (blk_cell Ht3.out 0).trans rfl
  have t1 := (blk_cell Ht3.out 1).trans rfl
  have t2 := (blk_cell Ht3.out 2).trans rfl
  have t3 := (blk_cell Ht3.out 3).trans rfl
  have q2 := HK.out
  have CF2 := Hid.mk (CF.out _ A3.out)
  go_wp2_with fail
  refine CF2.out.mono ?_
  rintro e' w3 ⟨rfl, hb⟩
  clear b0 b1 b2 b3 b4 fb1 t0 t1 t2 t3
  have A4 := Hid.mk (below_then A3.out hb)
  have Hb4 := Hid.mk (blk_below Hb3.out hb)
  have Hr4 := Hid.mk (blk_below Hr3.out hb)
  have Ht4 := Hid.mk (blk_below Ht3.out hb)
  clear hb
  have r0 := (blk_cell Hr4.out 0).trans rfl
  have r1 := (blk_cell Hr4.out 1).trans rfl
  have r2 := (blk_cell Hr4.out 2).trans rfl
  have r3 := (blk_cell Hr4.out 3).trans rfl
  have r4 := (blk_cell Hr4.out 4).trans rfl
  have fr0 := blk_unfrozen Hr4.out 0
  have fr1 := blk_unfrozen Hr4.out 1
  have fr2 := blk_unfrozen Hr4.out 2
  have fr3 := blk_unfrozen Hr4.out 3
  have fr4 := blk_unfrozen Hr4.out 4
  go_wp2
  refine bodyPost_ret (by simp [results, Tryd.results28, go_sem, r0, r1, r2, r3, r4]; try rfl) rfl ?_
  exact ⟨rfl, (((((A4.out.setCell (p := ⟨w.heap.size + 1, 0, none⟩) (by simp) _).setCell (p := ⟨w.heap.size + 1, 1, none⟩) (by simp) _).setCell (p := ⟨w.heap.size + 1, 2, none⟩) (by simp) _).setCell (p := ⟨w.heap.size + 1, 3, none⟩) (by simp) _).setCell (p := ⟨w.heap.size + 1, 4, none⟩) (by simp) _)⟩

set_option maxHeartbeats 3200000 in
set_option maxRecDepth 1000000 in
theorem numM0 (t : List UInt8) (g N c i o a : Nat) (w : World) (hT : Tq t N g w) (hi : i < N) (hj : i + 1 < N) (hN : N ≤ 100000) (hm : (tkT t i).k = 10) (hg : (tkT t (i + 1)).k ≠ 1) :
    Calls Tryd.prog 28 #[parV g N c i o 0 a, .bool true] w fun e' w' => e' = .returned (.tuple #[parV g N c (i + 1) o (fcode 4 (tkT t (i + 1))) (tkT t (i + 1)).at', .int .i64 0]) ∧ Below w.heap.size w w' := by
  have hvl : 0 ≤ (tkT t (i + 1)).v ∧ (tkT t (i + 1)).v ≤ 1000000000 := (tk_ok t (i + 1)).vl
  obtain ⟨W1, hW1⟩ : ∃ Zz, Zz = (w.alloc (.cells #[.slice (some ⟨g, 0, none⟩) N c, .int .i64 ((i : Int)), .int .i64 (o : Int), .int .i64 0, .int .i64 (a : Int)] 38)).alloc (.cells #[.slice none 0 0, .int .i64 0, .int .i64 0, .int .i64 0, .int .i64 0] 38) := ⟨_, rfl⟩
  have A1 : Hid (Below w.heap.size w W1) := by rw [hW1]; exact below_alloc' (below_alloc' (Below.refl _ _) _) _
  have Hb1 : Hid (W1.heap[w.heap.size]? = some (.cells #[.slice (some ⟨g, 0, none⟩) N c, .int .i64 ((i : Int)), .int .i64 (o : Int), .int .i64 0, .int .i64 (a : Int)] 38)) := by rw [hW1]; exact blk_alloc (blk_new _ _) _
  have Hr1 : Hid (W1.heap[w.heap.size + 1]? = some (.cells #[.slice none 0 0, .int .i64 0, .int .i64 0, .int .i64 0, .int .i64 0] 38)) := by rw [hW1]; exact blk_new1 _ _ _
  have HK : Hid (kS (tkT t (i + 1)) ≠ 2) := fun e => hg ((kS2 _).1 e)
  have CI := Hid.mk (isWordS t g N c i o 0 a (twAt 10) W1 (hT.below A1.out) hi hN)
  rw [isW_k (tk_cl t i) (by omega) (by omega), decide_eq_true (p := (tkT t i).k = 10) hm] at CI
  unfold parV at CI
  have CF := Hid.mk (fun (w2 : World) (hb : Below w.heap.size w w2) => failS t g N c (i + 1) o 0 a 4 w2 (hT.below hb) hj hN)
  unfold parV at CF
  rw [show ((i + 1 : Nat) : Int) = (i : Int) + 1 by omega] at CF
  have HT := Hid.mk hT
  have e9 : IntKind.i64.wrap ((i : Int) + 1) = (i : Int) + 1 := by rw [IntKind.wrap_i64]; omega
  have e8 : IntKind.i64.wrap ((i : Int) + 1 + 1) = (i : Int) + 1 + 1 := by rw [IntKind.wrap_i64]; omega
  obtain ⟨x, hx⟩ : ∃ x, x = tkT t (i + 1) := ⟨_, rfl⟩
  rw [← hx] at HK hvl CF ⊢
  have HX := Hid.mk hx
  clear hT hg hx hm
  unfold parV
  have k0 : (0 : Int) ≤ (i : Int) + 1 := by omega
  have k1 : (i : Int) + 1 < (N : Int) := by omega
  go_enter Tryd.func28, Tryd.ntmps28
  go_wp2_with fail
  rw [← hW1]
  clear hW1
  refine CI.out.mono ?_
  rintro e' w2 ⟨rfl, hb⟩
  have A2 := Hid.mk (below_then A1.out hb)
  have Hb2 := Hid.mk (blk_below Hb1.out hb)
  have Hr2 := Hid.mk (blk_below Hr1.out hb)
  clear hb
  have b0 := (blk_cell Hb2.out 0).trans rfl
  have b1 := (blk_cell Hb2.out 1).trans rfl
  have b2 := (blk_cell Hb2.out 2).trans rfl
  have b3 := (blk_cell Hb2.out 3).trans rfl
  have b4 := (blk_cell Hb2.out 4).trans rfl
  have fb1 := blk_unfrozen Hb2.out 1
  go_upto_region 7 with fail
  clear b0 b1 b2 b3 b4 fb1
  obtain ⟨Z, hZ⟩ : ∃ Zz, Zz = w2.setCell ⟨w.heap.size, 1, none⟩ (.int .i64 ((i : Int) + 1)) := ⟨_, rfl⟩
  rw [← hZ]
  have A3 : Hid (Below w.heap.size w Z) := by rw [hZ]; exact (A2.out.setCell (p := ⟨w.heap.size, 1, none⟩) (by show w.heap.size ≤ w.heap.size; have := A2.out.size; omega) _)
  have Hb3 : Hid (Z.heap[w.heap.size]? = some (.cells #[.slice (some ⟨g, 0, none⟩) N c, .int .i64 ((i : Int) + 1), .int .i64 (o : Int), .int .i64 0, .int .i64 (a : Int)] 38)) := by rw [hZ]; exact (blk_set Hb2.out 1 _)
  have Hr3 : Hid (Z.heap[w.heap.size + 1]? = some (.cells #[.slice none 0 0, .int .i64 0, .int .i64 0, .int .i64 0, .int .i64 0] 38)) := by rw [hZ]; exact (blk_set_other Hr2.out (by show ¬ w.heap.size + 1 = w.heap.size; omega) _)
  clear hZ
  have b0 := (blk_cell Hb3.out 0).trans rfl
  have b1 := (blk_cell Hb3.out 1).trans rfl
  have b2 := (blk_cell Hb3.out 2).trans rfl
  have b3 := (blk_cell Hb3.out 3).trans rfl
  have b4 := (blk_cell Hb3.out 4).trans rfl
  have fb1 := blk_unfrozen Hb3.out 1
  have QT := Hid.mk (HT.out.below A3.out)
  have y0 := QT.out.c0 (i + 1) hj
  have y1 := QT.out.c1 (i + 1) hj
  have y2 := QT.out.c2 (i + 1) hj
  have y3 := QT.out.c3 (i + 1) hj
  rw [← HX.out] at y0 y1 y2 y3
  have hgl := lt_of_cell y0
  go_upto_region 8 with fail
  clear b0 b1 b2 b3 b4 fb1 y0 y1 y2 y3 hgl
  obtain ⟨Z2, hZ2⟩ : ∃ Zz, Zz = Z.alloc (.cells #[.int .i64 (kS x), .int .i64 x.v, .string ⟨(wS x).toArray⟩, .int .i64 (x.at' : Int)] 40) := ⟨_, rfl⟩
  rw [← hZ2]
  have A4 : Hid (Below w.heap.size w Z2) := by rw [hZ2]; exact below_alloc' A3.out _
  have Hb4 : Hid (Z2.heap[w.heap.size]? = some (.cells #[.slice (some ⟨g, 0, none⟩) N c, .int .i64 ((i : Int) + 1), .int .i64 (o : Int), .int .i64 0, .int .i64 (a : Int)] 38)) := by rw [hZ2]; exact blk_alloc Hb3.out _
  have Hr4 : Hid (Z2.heap[w.heap.size + 1]? = some (.cells #[.slice none 0 0, .int .i64 0, .int .i64 0, .int .i64 0, .int .i64 0] 38)) := by rw [hZ2]; exact blk_alloc Hr3.out _
  obtain ⟨bt4, hbt4⟩ : ∃ b, b = Z.heap.size := ⟨_, rfl⟩
  rw [← hbt4]
  have nbt4b : ¬ bt4 = w.heap.size := by have := blk_lt Hb3.out; omega
  have nbt4b' : ¬ w.heap.size = bt4 := fun e => nbt4b e.symm
  have nbt4r : ¬ bt4 = w.heap.size + 1 := by have := blk_lt Hr3.out; omega
  have nbt4r' : ¬ w.heap.size + 1 = bt4 := fun e => nbt4r e.symm
  have lbt4 : w.heap.size ≤ bt4 := by rw [hbt4]; exact A3.out.size
  have Ht4 : Hid (Z2.heap[bt4]? = some (.cells #[.int .i64 (kS x), .int .i64 x.v, .string ⟨(wS x).toArray⟩, .int .i64 (x.at' : Int)] 40)) := by rw [hZ2, hbt4]; exact blk_new _ _
  clear hbt4
  clear hZ2
  have b0 := (blk_cell Hb4.out 0).trans rfl
  have b1 := (blk_cell Hb4.out 1).trans rfl
  have b2 := (blk_cell Hb4.out 2).trans rfl
  have b3 := (blk_cell Hb4.out 3).trans rfl
  have b4 := (blk_cell Hb4.out 4).trans rfl
  have fb1 := blk_unfrozen Hb4.out 1
  have t0 := (blk_cell Ht4.out 0).trans rfl
  have t1 := (blk_cell Ht4.out 1).trans rfl
  have t2 := (blk_cell Ht4.out 2).trans rfl
  have t3 := (blk_cell Ht4.out 3).trans rfl
  have q2 := HK.out
  have CF2 := Hid.mk (CF.out _ A4.out)
  go_wp2_with fail
  refine CF2.out.mono ?_
  rintro e' w3 ⟨rfl, hb⟩
  clear b0 b1 b2 b3 b4 fb1 t0 t1 t2 t3
  have A5 := Hid.mk (below_then A4.out hb)
  have Hb5 := Hid.mk (blk_below Hb4.out hb)
  have Hr5 := Hid.mk (blk_below Hr4.out hb)
  have Ht5 := Hid.mk (blk_below Ht4.out hb)
  clear hb
  have r0 := (blk_cell Hr5.out 0).trans rfl
  have r1 := (blk_cell Hr5.out 1).trans rfl
  have r2 := (blk_cell Hr5.out 2).trans rfl
  have r3 := (blk_cell Hr5.out 3).trans rfl
  have r4 := (blk_cell Hr5.out 4).trans rfl
  have fr0 := blk_unfrozen Hr5.out 0
  have fr1 := blk_unfrozen Hr5.out 1
  have fr2 := blk_unfrozen Hr5.out 2
  have fr3 := blk_unfrozen Hr5.out 3
  have fr4 := blk_unfrozen Hr5.out 4
  go_wp2
  refine bodyPost_ret (by simp [results, Tryd.results28, go_sem, r0, r1, r2, r3, r4]; try rfl) rfl ?_
  exact ⟨rfl, (((((A5.out.setCell (p := ⟨w.heap.size + 1, 0, none⟩) (by simp) _).setCell (p := ⟨w.heap.size + 1, 1, none⟩) (by simp) _).setCell (p := ⟨w.heap.size + 1, 2, none⟩) (by simp) _).setCell (p := ⟨w.heap.size + 1, 3, none⟩) (by simp) _).setCell (p := ⟨w.heap.size + 1, 4, none⟩) (by simp) _)⟩

set_option maxHeartbeats 3200000 in
set_option maxRecDepth 1000000 in
theorem tagW (t : List UInt8) (g N c i o a : Nat) (w : World) (hT : Tq t N g w) (hi : i < N) (hN : N ≤ 100000) (hk : kS (tkT t i) ≠ 1) :
    Calls Tryd.prog 29 #[parV g N c i o 0 a] w fun e' w' => e' = .returned (.tuple #[parV g N c i o (fcode 4 (tkT t i)) (tkT t i).at', .int .i64 0]) ∧ Below w.heap.size w w' := by
  have htc := tk_cl t i
  have hn16 : (tkT t i).n.length ≤ 65536 := n_len t i
  obtain ⟨W1, hW1⟩ : ∃ Zz, Zz = (w.alloc (.cells #[.slice (some ⟨g, 0, none⟩) N c, .int .i64 ((i : Int)), .int .i64 (o : Int), .int .i64 0, .int .i64 (a : Int)] 38)).alloc (.cells #[.slice none 0 0, .int .i64 0, .int .i64 0, .int .i64 0, .int .i64 0] 38) := ⟨_, rfl⟩
  have A1 : Hid (Below w.heap.size w W1) := by rw [hW1]; exact below_alloc' (below_alloc' (Below.refl _ _) _) _
  have Hb1 : Hid (W1.heap[w.heap.size]? = some (.cells #[.slice (some ⟨g, 0, none⟩) N c, .int .i64 ((i : Int)), .int .i64 (o : Int), .int .i64 0, .int .i64 (a : Int)] 38)) := by rw [hW1]; exact blk_alloc (blk_new _ _) _
  have Hr1 : Hid (W1.heap[w.heap.size + 1]? = some (.cells #[.slice none 0 0, .int .i64 0, .int .i64 0, .int .i64 0, .int .i64 0] 38)) := by rw [hW1]; exact blk_new1 _ _ _
  have CF := Hid.mk (fun (w2 : World) (hb : Below w.heap.size w w2) => failS t g N c i o 0 a 4 w2 (hT.below hb) hi hN)
  unfold parV at CF
  have HT := Hid.mk hT
  have e9 : IntKind.i64.wrap ((i : Int) + 1) = (i : Int) + 1 := by rw [IntKind.wrap_i64]; omega
  obtain ⟨x, hx⟩ : ∃ x, x = tkT t i := ⟨_, rfl⟩
  rw [← hx] at htc hn16 hk CF ⊢
  have q1 : kS x ≠ 1 := hk
  clear hk
  have HX := Hid.mk hx
  clear hT hx htc hn16
  unfold parV
  have k0 : (0 : Int) ≤ (i : Int) := by omega
  have k1 : (i : Int) < (N : Int) := by omega
  go_enter Tryd.func29, Tryd.ntmps29
  go_upto_region 3 with fail
  rw [← hW1]
  clear hW1
  have b0 := (blk_cell Hb1.out 0).trans rfl
  have b1 := (blk_cell Hb1.out 1).trans rfl
  have b2 := (blk_cell Hb1.out 2).trans rfl
  have b3 := (blk_cell Hb1.out 3).trans rfl
  have b4 := (blk_cell Hb1.out 4).trans rfl
  have fb1 := blk_unfrozen Hb1.out 1
  have QT := Hid.mk (HT.out.below A1.out)
  have y0 := QT.out.c0 (i) hi
  have y1 := QT.out.c1 (i) hi
  have y2 := QT.out.c2 (i) hi
  have y3 := QT.out.c3 (i) hi
  rw [← HX.out] at y0 y1 y2 y3
  have hgl := lt_of_cell y0
  go_upto_region 4 with fail
  clear b0 b1 b2 b3 b4 fb1 y0 y1 y2 y3 hgl
  obtain ⟨Z2, hZ2⟩ : ∃ Zz, Zz = W1.alloc (.cells #[.int .i64 (kS x), .int .i64 x.v, .string ⟨(wS x).toArray⟩, .int .i64 (x.at' : Int)] 40) := ⟨_, rfl⟩
  rw [← hZ2]
  have A2 : Hid (Below w.heap.size w Z2) := by rw [hZ2]; exact below_alloc' A1.out _
  have Hb2 : Hid (Z2.heap[w.heap.size]? = some (.cells #[.slice (some ⟨g, 0, none⟩) N c, .int .i64 ((i : Int)), .int .i64 (o : Int), .int .i64 0, .int .i64 (a : Int)] 38)) := by rw [hZ2]; exact blk_alloc Hb1.out _
  have Hr2 : Hid (Z2.heap[w.heap.size + 1]? = some (.cells #[.slice none 0 0, .int .i64 0, .int .i64 0, .int .i64 0, .int .i64 0] 38)) := by rw [hZ2]; exact blk_alloc Hr1.out _
  obtain ⟨bt2, hbt2⟩ : ∃ b, b = W1.heap.size := ⟨_, rfl⟩
  rw [← hbt2]
  have nbt2b : ¬ bt2 = w.heap.size := by have := blk_lt Hb1.out; omega
  have nbt2b' : ¬ w.heap.size = bt2 := fun e => nbt2b e.symm
  have nbt2r : ¬ bt2 = w.heap.size + 1 := by have := blk_lt Hr1.out; omega
  have nbt2r' : ¬ w.heap.size + 1 = bt2 := fun e => nbt2r e.symm
  have lbt2 : w.heap.size ≤ bt2 := by rw [hbt2]; exact A1.out.size
  have Ht2 : Hid (Z2.heap[bt2]? = some (.cells #[.int .i64 (kS x), .int .i64 x.v, .string ⟨(wS x).toArray⟩, .int .i64 (x.at' : Int)] 40)) := by rw [hZ2, hbt2]; exact blk_new _ _
  clear hbt2
  clear hZ2
  have b0 := (blk_cell Hb2.out 0).trans rfl
  have b1 := (blk_cell Hb2.out 1).trans rfl
  have b2 := (blk_cell Hb2.out 2).trans rfl
  have b3 := (blk_cell Hb2.out 3).trans rfl
  have b4 := (blk_cell Hb2.out 4).trans rfl
  have fb1 := blk_unfrozen Hb2.out 1
  have t0 := (blk_cell Ht2.out 0).trans rfl
  have t1 := (blk_cell Ht2.out 1).trans rfl
  have t2 := (blk_cell Ht2.out 2).trans rfl
  have t3 := (blk_cell Ht2.out 3).trans rfl
  have CF2 := Hid.mk (CF.out _ A2.out)
  go_wp2_with fail
  refine CF2.out.mono ?_
  rintro e' w3 ⟨rfl, hb⟩
  clear b0 b1 b2 b3 b4 fb1 t0 t1 t2 t3
  have A3 := Hid.mk (below_then A2.out hb)
  have Hb3 := Hid.mk (blk_below Hb2.out hb)
  have Hr3 := Hid.mk (blk_below Hr2.out hb)
  have Ht3 := Hid.mk (blk_below Ht2.out hb)
  clear hb
  have r0 := (blk_cell Hr3.out 0).trans rfl
  have r1 := (blk_cell Hr3.out 1).trans rfl
  have r2 := (blk_cell Hr3.out 2).trans rfl
  have r3 := (blk_cell Hr3.out 3).trans rfl
  have r4 := (blk_cell Hr3.out 4).trans rfl
  have fr0 := blk_unfrozen Hr3.out 0
  have fr1 := blk_unfrozen Hr3.out 1
  have fr2 := blk_unfrozen Hr3.out 2
  have fr3 := blk_unfrozen Hr3.out 3
  have fr4 := blk_unfrozen Hr3.out 4
  go_wp2
  refine bodyPost_ret (by simp [results, Tryd.results29, go_sem, r0, r1, r2, r3, r4]; try rfl) rfl ?_
  exact ⟨rfl, (((((A3.out.setCell (p := ⟨w.heap.size + 1, 0, none⟩) (by simp) _).setCell (p := ⟨w.heap.size + 1, 1, none⟩) (by simp) _).setCell (p := ⟨w.heap.size + 1, 2, none⟩) (by simp) _).setCell (p := ⟨w.heap.size + 1, 3, none⟩) (by simp) _).setCell (p := ⟨w.heap.size + 1, 4, none⟩) (by simp) _)⟩

set_option maxHeartbeats 3200000 in
set_option maxRecDepth 1000000 in
theorem tagN (t : List UInt8) (g N c i o a : Nat) (w : World) (hT : Tq t N g w) (hi : i < N) (hN : N ≤ 100000) (hk : kS (tkT t i) = 1) (hg : tagT (tkT t i) ≠ true) :
    Calls Tryd.prog 29 #[parV g N c i o 0 a] w fun e' w' => e' = .returned (.tuple #[parV g N c i o (fcode 4 (tkT t i)) (tkT t i).at', .int .i64 0]) ∧ Below w.heap.size w w' := by
  have htc := tk_cl t i
  have hn16 : (tkT t i).n.length ≤ 65536 := n_len t i
  obtain ⟨W1, hW1⟩ : ∃ Zz, Zz = (w.alloc (.cells #[.slice (some ⟨g, 0, none⟩) N c, .int .i64 ((i : Int)), .int .i64 (o : Int), .int .i64 0, .int .i64 (a : Int)] 38)).alloc (.cells #[.slice none 0 0, .int .i64 0, .int .i64 0, .int .i64 0, .int .i64 0] 38) := ⟨_, rfl⟩
  have A1 : Hid (Below w.heap.size w W1) := by rw [hW1]; exact below_alloc' (below_alloc' (Below.refl _ _) _) _
  have Hb1 : Hid (W1.heap[w.heap.size]? = some (.cells #[.slice (some ⟨g, 0, none⟩) N c, .int .i64 ((i : Int)), .int .i64 (o : Int), .int .i64 0, .int .i64 (a : Int)] 38)) := by rw [hW1]; exact blk_alloc (blk_new _ _) _
  have Hr1 : Hid (W1.heap[w.heap.size + 1]? = some (.cells #[.slice none 0 0, .int .i64 0, .int .i64 0, .int .i64 0, .int .i64 0] 38)) := by rw [hW1]; exact blk_new1 _ _ _
  have CF := Hid.mk (fun (w2 : World) (hb : Below w.heap.size w w2) => failS t g N c i o 0 a 4 w2 (hT.below hb) hi hN)
  unfold parV at CF
  have HT := Hid.mk hT
  have e9 : IntKind.i64.wrap ((i : Int) + 1) = (i : Int) + 1 := by rw [IntKind.wrap_i64]; omega
  obtain ⟨x, hx⟩ : ∃ x, x = tkT t i := ⟨_, rfl⟩
  rw [← hx] at htc hn16 hk hg CF ⊢
  have q1 : (kS x != 1) = false := by rw [hk]; rfl
  obtain ⟨hwn, hwl⟩ := word_of htc hk
  have CT : Hid (∀ W, Calls Tryd.prog 42 #[.string ⟨(wS x).toArray⟩] W fun e w' => e = .returned (.bool false) ∧ w' = W) := fun W => by
    have := isTagS x.n hn16 hwl W
    rw [hwn]
    rw [show (x.n.length == 1 && decide ((x.n.getD 0 0).toNat ≤ 112)) = false from Bool.eq_false_iff.2 (fun e => hg ((tagT_iff htc).2 ⟨hk, by simp at e; exact ⟨e.1, by simpa using e.2⟩⟩))] at this
    exact this
  clear hwn hwl hk hg
  have HX := Hid.mk hx
  clear hT hx htc hn16
  unfold parV
  have k0 : (0 : Int) ≤ (i : Int) := by omega
  have k1 : (i : Int) < (N : Int) := by omega
  go_enter Tryd.func29, Tryd.ntmps29
  go_upto_region 3 with fail
  rw [← hW1]
  clear hW1
  have b0 := (blk_cell Hb1.out 0).trans rfl
  have b1 := (blk_cell Hb1.out 1).trans rfl
  have b2 := (blk_cell Hb1.out 2).trans rfl
  have b3 := (blk_cell Hb1.out 3).trans rfl
  have b4 := (blk_cell Hb1.out 4).trans rfl
  have fb1 := blk_unfrozen Hb1.out 1
  have QT := Hid.mk (HT.out.below A1.out)
  have y0 := QT.out.c0 (i) hi
  have y1 := QT.out.c1 (i) hi
  have y2 := QT.out.c2 (i) hi
  have y3 := QT.out.c3 (i) hi
  rw [← HX.out] at y0 y1 y2 y3
  have hgl := lt_of_cell y0
  go_upto_region 4 with fail
  clear b0 b1 b2 b3 b4 fb1 y0 y1 y2 y3 hgl
  obtain ⟨Z2, hZ2⟩ : ∃ Zz, Zz = W1.alloc (.cells #[.int .i64 (kS x), .int .i64 x.v, .string ⟨(wS x).toArray⟩, .int .i64 (x.at' : Int)] 40) := ⟨_, rfl⟩
  rw [← hZ2]
  have A2 : Hid (Below w.heap.size w Z2) := by rw [hZ2]; exact below_alloc' A1.out _
  have Hb2 : Hid (Z2.heap[w.heap.size]? = some (.cells #[.slice (some ⟨g, 0, none⟩) N c, .int .i64 ((i : Int)), .int .i64 (o : Int), .int .i64 0, .int .i64 (a : Int)] 38)) := by rw [hZ2]; exact blk_alloc Hb1.out _
  have Hr2 : Hid (Z2.heap[w.heap.size + 1]? = some (.cells #[.slice none 0 0, .int .i64 0, .int .i64 0, .int .i64 0, .int .i64 0] 38)) := by rw [hZ2]; exact blk_alloc Hr1.out _
  obtain ⟨bt2, hbt2⟩ : ∃ b, b = W1.heap.size := ⟨_, rfl⟩
  rw [← hbt2]
  have nbt2b : ¬ bt2 = w.heap.size := by have := blk_lt Hb1.out; omega
  have nbt2b' : ¬ w.heap.size = bt2 := fun e => nbt2b e.symm
  have nbt2r : ¬ bt2 = w.heap.size + 1 := by have := blk_lt Hr1.out; omega
  have nbt2r' : ¬ w.heap.size + 1 = bt2 := fun e => nbt2r e.symm
  have lbt2 : w.heap.size ≤ bt2 := by rw [hbt2]; exact A1.out.size
  have Ht2 : Hid (Z2.heap[bt2]? = some (.cells #[.int .i64 (kS x), .int .i64 x.v, .string ⟨(wS x).toArray⟩, .int .i64 (x.at' : Int)] 40)) := by rw [hZ2, hbt2]; exact blk_new _ _
  clear hbt2
  clear hZ2
  have b0 := (blk_cell Hb2.out 0).trans rfl
  have b1 := (blk_cell Hb2.out 1).trans rfl
  have b2 := (blk_cell Hb2.out 2).trans rfl
  have b3 := (blk_cell Hb2.out 3).trans rfl
  have b4 := (blk_cell Hb2.out 4).trans rfl
  have fb1 := blk_unfrozen Hb2.out 1
  have t0 := (blk_cell Ht2.out 0).trans rfl
  have t1 := (blk_cell Ht2.out 1).trans rfl
  have t2 := (blk_cell Ht2.out 2).trans rfl
  have t3 := (blk_cell Ht2.out 3).trans rfl
  have CF2 := Hid.mk (CF.out _ A2.out)
  go_wp2_with (go_at_call 42; go_must (refine (CT.out _).mono ?_; rintro e w' ⟨rfl, hww⟩; rw [hww]; clear hww))
  refine CF2.out.mono ?_
  rintro e' w3 ⟨rfl, hb⟩
  clear b0 b1 b2 b3 b4 fb1 t0 t1 t2 t3
  have A3 := Hid.mk (below_then A2.out hb)
  have Hb3 := Hid.mk (blk_below Hb2.out hb)
  have Hr3 := Hid.mk (blk_below Hr2.out hb)
  have Ht3 := Hid.mk (blk_below Ht2.out hb)
  clear hb
  have r0 := (blk_cell Hr3.out 0).trans rfl
  have r1 := (blk_cell Hr3.out 1).trans rfl
  have r2 := (blk_cell Hr3.out 2).trans rfl
  have r3 := (blk_cell Hr3.out 3).trans rfl
  have r4 := (blk_cell Hr3.out 4).trans rfl
  have fr0 := blk_unfrozen Hr3.out 0
  have fr1 := blk_unfrozen Hr3.out 1
  have fr2 := blk_unfrozen Hr3.out 2
  have fr3 := blk_unfrozen Hr3.out 3
  have fr4 := blk_unfrozen Hr3.out 4
  go_wp2
  refine bodyPost_ret (by simp [results, Tryd.results29, go_sem, r0, r1, r2, r3, r4]; try rfl) rfl ?_
  exact ⟨rfl, (((((A3.out.setCell (p := ⟨w.heap.size + 1, 0, none⟩) (by simp) _).setCell (p := ⟨w.heap.size + 1, 1, none⟩) (by simp) _).setCell (p := ⟨w.heap.size + 1, 2, none⟩) (by simp) _).setCell (p := ⟨w.heap.size + 1, 3, none⟩) (by simp) _).setCell (p := ⟨w.heap.size + 1, 4, none⟩) (by simp) _)⟩

set_option maxHeartbeats 3200000 in
set_option maxRecDepth 1000000 in
theorem tagG (t : List UInt8) (g N c i o a : Nat) (w : World) (hT : Tq t N g w) (hi : i < N) (hN : N ≤ 100000) (hg : tagT (tkT t i) = true) :
    Calls Tryd.prog 29 #[parV g N c i o 0 a] w fun e' w' => e' = .returned (.tuple #[parV g N c (i + 1) o 0 a, .int .i64 ((((tkT t i).n.getD 0 0).toNat : Int) - 97)]) ∧ Below w.heap.size w w' := by
  have htc := tk_cl t i
  have hn16 : (tkT t i).n.length ≤ 65536 := n_len t i
  obtain ⟨W1, hW1⟩ : ∃ Zz, Zz = (w.alloc (.cells #[.slice (some ⟨g, 0, none⟩) N c, .int .i64 ((i : Int)), .int .i64 (o : Int), .int .i64 0, .int .i64 (a : Int)] 38)).alloc (.cells #[.slice none 0 0, .int .i64 0, .int .i64 0, .int .i64 0, .int .i64 0] 38) := ⟨_, rfl⟩
  have A1 : Hid (Below w.heap.size w W1) := by rw [hW1]; exact below_alloc' (below_alloc' (Below.refl _ _) _) _
  have Hb1 : Hid (W1.heap[w.heap.size]? = some (.cells #[.slice (some ⟨g, 0, none⟩) N c, .int .i64 ((i : Int)), .int .i64 (o : Int), .int .i64 0, .int .i64 (a : Int)] 38)) := by rw [hW1]; exact blk_alloc (blk_new _ _) _
  have Hr1 : Hid (W1.heap[w.heap.size + 1]? = some (.cells #[.slice none 0 0, .int .i64 0, .int .i64 0, .int .i64 0, .int .i64 0] 38)) := by rw [hW1]; exact blk_new1 _ _ _
  have HT := Hid.mk hT
  have e9 : IntKind.i64.wrap ((i : Int) + 1) = (i : Int) + 1 := by rw [IntKind.wrap_i64]; omega
  obtain ⟨x, hx⟩ : ∃ x, x = tkT t i := ⟨_, rfl⟩
  rw [← hx] at htc hn16 hg ⊢
  obtain ⟨hk, h1, h112⟩ := (tagT_iff htc).1 hg
  have q1 : (kS x != 1) = false := by rw [hk]; rfl
  obtain ⟨hwn, hwl⟩ := word_of htc hk
  obtain ⟨ch, hch⟩ : ∃ ch, x.n = [ch] := by
    cases hn : x.n with
    | nil => rw [hn] at h1; simp at h1
    | cons d r => cases r with
      | nil => exact ⟨d, rfl⟩
      | cons e r => rw [hn] at h1; simp at h1
  have HW : Hid (wS x = [ch]) := hwn.trans hch
  rw [hch] at hwl h112 ⊢
  have CT : Hid (∀ W, Calls Tryd.prog 42 #[.string ⟨#[ch]⟩] W fun e w' => e = .returned (.bool true) ∧ w' = W) := fun W => by
    have := isTagS [ch] (by simp) hwl W
    rw [show ((([ch] : List UInt8).length == 1) && decide ((([ch] : List UInt8).getD 0 0).toNat ≤ 112)) = true by simpa using h112] at this
    exact this
  have e7 : IntKind.i64.wrap ((ch.toNat : Int) - 97) = (ch.toNat : Int) - 97 := by rw [IntKind.wrap_i64]; have : ch.toNat < 256 := ch.toNat_lt; omega
  clear hwn hwl hk hg h1 h112 hch
  have HX := Hid.mk hx
  clear hT hx htc hn16
  unfold parV
  have k0 : (0 : Int) ≤ (i : Int) := by omega
  have k1 : (i : Int) < (N : Int) := by omega
  go_enter Tryd.func29, Tryd.ntmps29
  go_upto_region 3 with fail
  rw [← hW1]
  clear hW1
  have b0 := (blk_cell Hb1.out 0).trans rfl
  have b1 := (blk_cell Hb1.out 1).trans rfl
  have b2 := (blk_cell Hb1.out 2).trans rfl
  have b3 := (blk_cell Hb1.out 3).trans rfl
  have b4 := (blk_cell Hb1.out 4).trans rfl
  have fb1 := blk_unfrozen Hb1.out 1
  have QT := Hid.mk (HT.out.below A1.out)
  have y0 := QT.out.c0 (i) hi
  have y1 := QT.out.c1 (i) hi
  have y2 := QT.out.c2 (i) hi
  have y3 := QT.out.c3 (i) hi
  rw [← HX.out] at y0 y1 y2 y3
  have hgl := lt_of_cell y0
  rw [HW.out] at y2
  go_upto_region 4 with fail
  clear b0 b1 b2 b3 b4 fb1 y0 y1 y2 y3 hgl
  obtain ⟨Z2, hZ2⟩ : ∃ Zz, Zz = W1.alloc (.cells #[.int .i64 (kS x), .int .i64 x.v, .string ⟨#[ch]⟩, .int .i64 (x.at' : Int)] 40) := ⟨_, rfl⟩
  rw [← hZ2]
  have A2 : Hid (Below w.heap.size w Z2) := by rw [hZ2]; exact below_alloc' A1.out _
  have Hb2 : Hid (Z2.heap[w.heap.size]? = some (.cells #[.slice (some ⟨g, 0, none⟩) N c, .int .i64 ((i : Int)), .int .i64 (o : Int), .int .i64 0, .int .i64 (a : Int)] 38)) := by rw [hZ2]; exact blk_alloc Hb1.out _
  have Hr2 : Hid (Z2.heap[w.heap.size + 1]? = some (.cells #[.slice none 0 0, .int .i64 0, .int .i64 0, .int .i64 0, .int .i64 0] 38)) := by rw [hZ2]; exact blk_alloc Hr1.out _
  obtain ⟨bt2, hbt2⟩ : ∃ b, b = W1.heap.size := ⟨_, rfl⟩
  rw [← hbt2]
  have nbt2b : ¬ bt2 = w.heap.size := by have := blk_lt Hb1.out; omega
  have nbt2b' : ¬ w.heap.size = bt2 := fun e => nbt2b e.symm
  have nbt2r : ¬ bt2 = w.heap.size + 1 := by have := blk_lt Hr1.out; omega
  have nbt2r' : ¬ w.heap.size + 1 = bt2 := fun e => nbt2r e.symm
  have lbt2 : w.heap.size ≤ bt2 := by rw [hbt2]; exact A1.out.size
  have Ht2 : Hid (Z2.heap[bt2]? = some (.cells #[.int .i64 (kS x), .int .i64 x.v, .string ⟨#[ch]⟩, .int .i64 (x.at' : Int)] 40)) := by rw [hZ2, hbt2]; exact blk_new _ _
  clear hbt2
  clear hZ2
  have b0 := (blk_cell Hb2.out 0).trans rfl
  have b1 := (blk_cell Hb2.out 1).trans rfl
  have b2 := (blk_cell Hb2.out 2).trans rfl
  have b3 := (blk_cell Hb2.out 3).trans rfl
  have b4 := (blk_cell Hb2.out 4).trans rfl
  have fb1 := blk_unfrozen Hb2.out 1
  have t0 := (blk_cell Ht2.out 0).trans rfl
  have t1 := (blk_cell Ht2.out 1).trans rfl
  have t2 := (blk_cell Ht2.out 2).trans rfl
  have t3 := (blk_cell Ht2.out 3).trans rfl
  go_upto_region 6 with (go_at_call 42; go_must (refine (CT.out _).mono ?_; rintro e w' ⟨rfl, hww⟩; rw [hww]; clear hww))
  go_upto_region 7 with fail
  clear b0 b1 b2 b3 b4 fb1 t0 t1 t2 t3
  obtain ⟨Z3, hZ3⟩ : ∃ Zz, Zz = Z2.setCell ⟨w.heap.size, 1, none⟩ (.int .i64 ((i : Int) + 1)) := ⟨_, rfl⟩
  rw [← hZ3]
  have A3 : Hid (Below w.heap.size w Z3) := by rw [hZ3]; exact (A2.out.setCell (p := ⟨w.heap.size, 1, none⟩) (by show w.heap.size ≤ w.heap.size; have := A2.out.size; omega) _)
  have Hb3 : Hid (Z3.heap[w.heap.size]? = some (.cells #[.slice (some ⟨g, 0, none⟩) N c, .int .i64 ((i : Int) + 1), .int .i64 (o : Int), .int .i64 0, .int .i64 (a : Int)] 38)) := by rw [hZ3]; exact (blk_set Hb2.out 1 _)
  have Hr3 : Hid (Z3.heap[w.heap.size + 1]? = some (.cells #[.slice none 0 0, .int .i64 0, .int .i64 0, .int .i64 0, .int .i64 0] 38)) := by rw [hZ3]; exact (blk_set_other Hr2.out (by show ¬ w.heap.size + 1 = w.heap.size; omega) _)
  have Ht3 : Hid (Z3.heap[bt2]? = some (.cells #[.int .i64 (kS x), .int .i64 x.v, .string ⟨#[ch]⟩, .int .i64 (x.at' : Int)] 40)) := by rw [hZ3]; exact (blk_set_other Ht2.out (by show ¬ bt2 = w.heap.size; omega) _)
  clear hZ3
  have b0 := (blk_cell Hb3.out 0).trans rfl
  have b1 := (blk_cell Hb3.out 1).trans rfl
  have b2 := (blk_cell Hb3.out 2).trans rfl
  have b3 := (blk_cell Hb3.out 3).trans rfl
  have b4 := (blk_cell Hb3.out 4).trans rfl
  have t0 := (blk_cell Ht3.out 0).trans rfl
  have t1 := (blk_cell Ht3.out 1).trans rfl
  have t2 := (blk_cell Ht3.out 2).trans rfl
  have t3 := (blk_cell Ht3.out 3).trans rfl
  have r0 := (blk_cell Hr3.out 0).trans rfl
  have r1 := (blk_cell Hr3.out 1).trans rfl
  have r2 := (blk_cell Hr3.out 2).trans rfl
  have r3 := (blk_cell Hr3.out 3).trans rfl
  have r4 := (blk_cell Hr3.out 4).trans rfl
  have fr0 := blk_unfrozen Hr3.out 0
  have fr1 := blk_unfrozen Hr3.out 1
  have fr2 := blk_unfrozen Hr3.out 2
  have fr3 := blk_unfrozen Hr3.out 3
  have fr4 := blk_unfrozen Hr3.out 4
  go_region
  clear b0 b1 b2 b3 b4 t0 t1 t2 t3 r0 r1 r2 r3 r4 fr0 fr1 fr2 fr3 fr4
  obtain ⟨Y, hY⟩ : ∃ Zz, Zz = (((((Z3.setCell ⟨w.heap.size + 1, 0, none⟩ (.slice (some ⟨g, 0, none⟩) N c)).setCell ⟨w.heap.size + 1, 1, none⟩ (.int .i64 ((i : Int) + 1))).setCell ⟨w.heap.size + 1, 2, none⟩ (.int .i64 (o : Int))).setCell ⟨w.heap.size + 1, 3, none⟩ (.int .i64 0)).setCell ⟨w.heap.size + 1, 4, none⟩ (.int .i64 (a : Int))).drew := ⟨_, rfl⟩
  rw [← hY]
  have A4 : Hid (Below w.heap.size w Y) := by rw [hY]; exact ((((((A3.out.setCell (p := ⟨w.heap.size + 1, 0, none⟩) (by simp) _).setCell (p := ⟨w.heap.size + 1, 1, none⟩) (by simp) _).setCell (p := ⟨w.heap.size + 1, 2, none⟩) (by simp) _).setCell (p := ⟨w.heap.size + 1, 3, none⟩) (by simp) _).setCell (p := ⟨w.heap.size + 1, 4, none⟩) (by simp) _)).drew
  have Hr4 : Hid (Y.heap[w.heap.size + 1]? = some (.cells #[.slice (some ⟨g, 0, none⟩) N c, .int .i64 ((i : Int) + 1), .int .i64 (o : Int), .int .i64 0, .int .i64 (a : Int)] 38)) := by rw [hY]; exact (blk_set (blk_set (blk_set (blk_set (blk_set Hr3.out 0 _) 1 _) 2 _) 3 _) 4 _)
  clear hY
  have r0 := (blk_cell Hr4.out 0).trans rfl
  have r1 := (blk_cell Hr4.out 1).trans rfl
  have r2 := (blk_cell Hr4.out 2).trans rfl
  have r3 := (blk_cell Hr4.out 3).trans rfl
  have r4 := (blk_cell Hr4.out 4).trans rfl
  go_wp2
  refine bodyPost_ret (by simp [results, Tryd.results29, go_sem, r0, r1, r2, r3, r4]; try rfl) rfl ?_
  refine ⟨?_, A4.out⟩
  rw [show ((i + 1 : Nat) : Int) = (i : Int) + 1 by omega]
  exact congrArg (fun z => Ending.returned (.tuple #[.agg #[.slice (some ⟨g, 0, none⟩) N c, .int .i64 ((i : Int) + 1), .int .i64 (o : Int), .int .i64 0, .int .i64 (a : Int)], .int .i64 z])) (w64_tag ch)
end Go.Proofs.YtfoigigbggickaaDoor.Par
