import Derived.Test.YthobdaeglhdhnaaGreatDoorPp12
import Derived.Test.YthobdaeglhdhnaaGreatDoorPp10
import Derived.WalkLawsBesides
namespace Go.Proofs.YthobdaeglhdhnaaGreatDoor.Syn
open Go Go.RowKit Go.Proofs.YthobdaeglhdhnaaGreatDoor.Mem
set_option linter.unusedVariables false
set_option linter.unusedSimpArgs false
attribute [local go_sem ↓] Go.wp_at_zero Go.wp_at_succ

structure Tabs (w : World) : Prop where
  t : TabW w
  o : TabO w
  b : TabB w
theorem Tabs.below {w w' : World} (h : Tabs w) (hb : Below w.heap.size w w') : Tabs w' := ⟨h.t.below hb, h.o.below hb, h.b.below hb⟩

set_option maxHeartbeats 1600000 in
theorem wellI (E : Nat → Po) (a : Option Addr) (n cap : Nat) (w : World) (hs : SliceAt w a n 3 (fun i => (E i).cells)) (hn : n ≤ 1000000) (hT : Tabs w) :
    Calls Tryz.prog 61 #[.slice a n cap] w fun e w' => e = .returned (.bool (exprB E n)) ∧ Below w.heap.size w w' := by
  have H := Hid.mk hs
  have HT := Hid.mk hT
  clear hs hT
  go_enter Tryz.func61, Tryz.ntmps61
  go_wp2_with fail
  refine (treeI E a n cap _ H.out (by omega) HT.out.t HT.out.o).mono ?_
  rintro e w1 (⟨v, t, rfl, hst, hd, hb⟩ | ⟨rfl, hst, hb⟩)
  · have HD := Hid.mk hd
    have HB := Hid.mk hb
    have hi := stk_inv hst
    have hw : t.wf := hi.1 t (by simp)
    have hz : t.sz ≤ 1000000 := by have := hi.2; simp [szs] at this; omega
    have NO := Hid.mk (nestOk t hw hz)
    have hv : Hid (exprB E n = decide (t.nst ≤ 64)) := by unfold Hid exprB; rw [hst]
    obtain ⟨q, hq⟩ : ∃ q, q = t.nst := ⟨_, rfl⟩
    have HQ := Hid.mk hq
    rw [← hq] at hv
    clear hd hb hi hw hz hst hq
    obtain ⟨T, u, rfl⟩ := HD.out.form
    have D' := HD.out
    cases D'
    all_goals
      go_wp2_with fail
      refine (NO.out _ _ _ HD.out (HT.out.b.below HB.out)).mono ?_
      rintro e w2 ⟨rfl, hb2⟩
      rw [← HQ.out]
      have HB2 := Hid.mk (below_then HB.out hb2)
      clear hb2
      go_wp2
      go_ret
      rw [hv.out]
      exact ⟨rfl, HB2.out⟩
  · have HB := Hid.mk hb
    have hv : Hid (exprB E n = false) := by
      unfold Hid exprB
      split
      · rename_i t h; exact absurd h (hst t)
      · rfl
    clear hb hst
    go_wp2
    go_ret
    rw [hv.out]
    exact ⟨rfl, HB.out⟩
def exB (E : Nat → Po) (n : Nat) (u : Bool) : Bool := if u = true then exprB E n else n == 0
theorem validExprI (E : Nat → Po) (a : Option Addr) (n cap : Nat) (u : Bool) (w : World) (hs : SliceAt w a n 3 (fun i => (E i).cells)) (hn : n ≤ 1000000) (hT : Tabs w) :
    Calls Tryz.prog 47 #[.slice a n cap, .bool u] w fun e w' => e = .returned (.bool (exB E n u)) ∧ Below w.heap.size w w' := by
  cases u with
  | true =>
    have hv : Hid (exB E n true = exprB E n) := rfl
    go_enter Tryz.func47, Tryz.ntmps47
    go_wp2_with fail
    refine (wellI E a n cap _ hs hn hT).mono ?_
    rintro e w1 ⟨rfl, hb⟩
    go_wp2
    go_ret
    rw [hv.out]
    exact ⟨rfl, hb⟩
  | false =>
    have hv : Hid (exB E n false = ((n : Int) == 0)) := by unfold Hid exB; rw [Bool.eq_iff_iff]; simp
    clear hs hT
    go_enter Tryz.func47, Tryz.ntmps47
    go_wp2
    go_ret
    rw [hv.out]
    exact ⟨rfl, Below.refl _ _⟩
def nmB (n : List UInt8) (u : Bool) : Bool := if u = true then nameB n else n == []
theorem itemNameI (n : List UInt8) (u : Bool) (w : World) (hT : TabW w) : Calls Tryz.prog 46 #[.string ⟨n.toArray⟩, .bool u] w fun e w' => e = .returned (.bool (nmB n u)) ∧ w' = w := by
  cases u with
  | true =>
    have hv : Hid (nmB n true = nameB n) := rfl
    go_enter Tryz.func46, Tryz.ntmps46
    go_wp2_with fail
    refine (validNameI n _ hT).mono ?_
    rintro e w1 ⟨rfl, hb⟩
    rw [hb]
    go_wp2
    go_ret
    rw [hv.out]
    exact ⟨rfl, rfl⟩
  | false =>
    have hv : Hid (nmB n false = (n == [])) := rfl
    clear hT
    go_enter Tryz.func46, Tryz.ntmps46
    go_wp2
    go_ret
    rw [hv.out]
    exact ⟨ret_b (by cases n <;> rfl), rfl⟩
def fldB (x u : Int) : Bool := if u = 1 then inR x 0 15 else if u = 2 then inR x 0 999999999 else if u = 3 then inR x (-999999999) 999999999 else x == 0
theorem fieldI (x u : Int) (w : World) (h0 : 0 ≤ u) (h1 : u ≤ 3) : Calls Tryz.prog 48 #[.int .i64 x, .int .i64 u] w fun e w' => e = .returned (.bool (fldB x u)) ∧ w' = w := by
  have : u = 0 ∨ u = 1 ∨ u = 2 ∨ u = 3 := by omega
  clear h0 h1
  rcases this with rfl | rfl | rfl | rfl
  all_goals
    go_enter Tryz.func48, Tryz.ntmps48
    go_wp2_with (go_at_call 45; refine (inRI _ _ _ _).mono ?_; rintro e w' ⟨rfl, hw⟩; rw [hw]; clear hw)
    go_ret
    exact ⟨ret_b (by simp [fldB]), rfl⟩

/-- An item, and where its lists lie. -/
structure It where
  (k : Int) (n : List UInt8) (nE nF : Nat) (E F : Nat → Po) (K lo hi : Int)
structure Lo where
  (aE aF : Option Addr) (cE cF : Nat)
def It.cells (i : It) (l : Lo) : List Value := [.int .i64 i.k, .string ⟨i.n.toArray⟩, .slice l.aE i.nE l.cE, .slice l.aF i.nF l.cF, .int .i64 i.K, .int .i64 i.lo, .int .i64 i.hi]
theorem It.len (i : It) (l : Lo) : (i.cells l).length = 7 := rfl
theorem It.one (i : It) (l : Lo) : (i.cells l).toArray.all (·.oneCell') = true := by simp [It.cells, Value.oneCell']
theorem It.at {w : World} {b o : Nat} {i : It} {l : Lo} (h : w.rangeAt b o (i.cells l)) : w.cell? ⟨b, o, none⟩ = some (.int .i64 i.k) ∧ w.cell? ⟨b, o + 1, none⟩ = some (.string ⟨i.n.toArray⟩) ∧ w.cell? ⟨b, o + 2, none⟩ = some (.slice l.aE i.nE l.cE) ∧ w.cell? ⟨b, o + 3, none⟩ = some (.slice l.aF i.nF l.cF) ∧ w.cell? ⟨b, o + 4, none⟩ = some (.int .i64 i.K) ∧ w.cell? ⟨b, o + 5, none⟩ = some (.int .i64 i.lo) ∧ w.cell? ⟨b, o + 6, none⟩ = some (.int .i64 i.hi) :=
  ⟨h 0 _ rfl, h 1 _ rfl, h 2 _ rfl, h 3 _ rfl, h 4 _ rfl, h 5 _ rfl, h 6 _ rfl⟩
/-- A program and where it lies. -/
structure Pr where
  (n : Nat) (I : Nat → It)
structure PrAt (w : World) (a : Option Addr) (P : Pr) (L : Nat → Lo) : Prop where
  s : SliceAt w a P.n 7 (fun i => (P.I i).cells (L i))
  e : ∀ i, i < P.n → SliceAt w (L i).aE (P.I i).nE 3 (fun j => ((P.I i).E j).cells)
  f : ∀ i, i < P.n → SliceAt w (L i).aF (P.I i).nF 3 (fun j => ((P.I i).F j).cells)
theorem PrAt.below {w w' : World} {a : Option Addr} {P : Pr} {L : Nat → Lo} (h : PrAt w a P L) (hb : Below w.heap.size w w') : PrAt w' a P L := ⟨h.s.below hb, fun i hi => (h.e i hi).below hb, fun i hi => (h.f i hi).below hb⟩

/-- Which fields the items of a kind have. -/
structure Sh where
  (n e f : Bool) (k lo hi : Int)
def shTab : List Sh := [⟨false, false, false, 0, 0, 0⟩, ⟨true, true, false, 0, 0, 0⟩, ⟨false, true, false, 0, 0, 0⟩, ⟨false, true, false, 0, 0, 0⟩, ⟨false, true, false, 3, 3, 3⟩, ⟨false, true, true, 0, 0, 0⟩, ⟨false, false, false, 1, 1, 0⟩, ⟨false, false, false, 2, 0, 0⟩, ⟨false, true, false, 0, 3, 3⟩, ⟨false, true, false, 2, 0, 0⟩]
def sh (m : Nat) : Sh := shTab.getD m ⟨false, false, false, 0, 0, 0⟩
theorem sh_bd (m : Nat) (h : m < 10) : 0 ≤ (sh m).k ∧ (sh m).k ≤ 3 ∧ 0 ≤ (sh m).lo ∧ (sh m).lo ≤ 3 ∧ 0 ≤ (sh m).hi ∧ (sh m).hi ≤ 3 := by
  have : m = 0 ∨ m = 1 ∨ m = 2 ∨ m = 3 ∨ m = 4 ∨ m = 5 ∨ m = 6 ∨ m = 7 ∨ m = 8 ∨ m = 9 := by omega
  rcases this with rfl | rfl | rfl | rfl | rfl | rfl | rfl | rfl | rfl | rfl <;> decide
def TabS (w : World) : Prop := ∀ m, m < 10 → w.cell? ⟨1, m * 6, none⟩ = some (.bool (sh m).n) ∧ w.cell? ⟨1, m * 6 + 1, none⟩ = some (.bool (sh m).e) ∧ w.cell? ⟨1, m * 6 + 2, none⟩ = some (.bool (sh m).f) ∧ w.cell? ⟨1, m * 6 + 3, none⟩ = some (.int .i64 (sh m).k) ∧ w.cell? ⟨1, m * 6 + 4, none⟩ = some (.int .i64 (sh m).lo) ∧ w.cell? ⟨1, m * 6 + 5, none⟩ = some (.int .i64 (sh m).hi)
theorem TabS.below {w w' : World} (h : TabS w) (hb : Below w.heap.size w w') : TabS w' := fun m hm => by
  obtain ⟨h0, h1, h2, h3, h4, h5⟩ := h m hm
  exact ⟨cell_keep hb h0, cell_keep hb h1, cell_keep hb h2, cell_keep hb h3, cell_keep hb h4, cell_keep hb h5⟩
def itB (i : It) : Bool := inR i.k 1 9 && (nmB i.n (sh i.k.toNat).n && (exB i.E i.nE (sh i.k.toNat).e && (exB i.F i.nF (sh i.k.toNat).f && (fldB i.K (sh i.k.toNat).k && (fldB i.lo (sh i.k.toNat).lo && fldB i.hi (sh i.k.toNat).hi)))))
end Go.Proofs.YthobdaeglhdhnaaGreatDoor.Syn
namespace Go.Proofs.YthobdaeglhdhnaaGreatDoor.Print
open Go Go.RowKit Go.Proofs.YthobdaeglhdhnaaGreatDoor.Mem
set_option linter.unusedVariables false

def bit (s : Int) (t : Nat) : Bool := (s.toNat / 2 ^ t) % 2 == 1
/-- The letters of a set's tags below k. -/
def tg (s : Int) : Nat → List UInt8
  | 0 => []
  | k + 1 => if bit s k then tg s k ++ [UInt8.ofNat (97 + k)] else tg s k
theorem tg_len (s : Int) (k : Nat) : (tg s k).length ≤ k := by
  induction k with
  | zero => simp [tg]
  | succ m ih => unfold tg; split <;> (try simp) <;> omega
def tagText (s : Int) : List UInt8 := if tg s 16 = [] then [45] else tg s 16

theorem bit_eq (s : Int) (k : Nat) (h : 0 ≤ s) : ((s / 2 ^ k).tmod 2 == 1) = bit s k := by
  obtain ⟨n, rfl⟩ := Int.eq_ofNat_of_zero_le h
  have e : ((n : Int) / 2 ^ k) = ((n / 2 ^ k : Nat) : Int) := by
    rw [Int.natCast_ediv]; norm_cast
  rw [e, Int.tmod_eq_emod_of_nonneg (Int.natCast_nonneg _)]
  unfold bit
  simp only [Int.toNat_natCast]
  generalize n / 2 ^ k = q
  rw [Bool.eq_iff_iff]
  simp
  omega
theorem tg_no {s : Int} {k : Nat} (h : bit s k = false) : tg s (k + 1) = tg s k := by rw [tg, if_neg (by rw [h]; exact Bool.false_ne_true)]
theorem tg_yes {s : Int} {k : Nat} (h : bit s k = true) : tg s (k + 1) = tg s k ++ [UInt8.ofNat (97 + k)] := by rw [tg, if_pos h]

/-- Bytes that lie somewhere and can be read. -/
def Rb (w : World) (g o n : Nat) (bs : List UInt8) : Prop := n = bs.length ∧ g < w.heap.size ∧ ∀ j u, (Lib.byteCells bs)[j]? = some u → w.cell? ((⟨g, o, none⟩ : Addr).add j) = some u
theorem Rb.below {w w' : World} {g o n : Nat} {bs : List UInt8} (h : Rb w g o n bs) (hb : Below w.heap.size w w') : Rb w' g o n bs :=
  ⟨h.1, Nat.lt_of_lt_of_le h.2.1 hb.size, fun j u hu => by rw [hb.cell (by rw [Addr.add_mid]; exact h.2.1)]; exact h.2.2 j u hu⟩
theorem Rb.alloc {w : World} {g o n : Nat} {bs : List UInt8} (h : Rb w g o n bs) (x : Obj) : Rb (w.alloc x) g o n bs := h.below ((Below.refl _ _).alloc (Nat.le_refl _) x)
theorem Rb.new (w : World) (bs : List UInt8) (cs : Array Value) (t : TypeId) (fr : Nat × Nat) (hc : cs = (Lib.byteCells bs).toArray) : Rb (w.alloc (.cells cs t fr)) w.heap.size 0 bs.length bs := by
  subst hc
  refine ⟨rfl, by simp, fun j u hu => ?_⟩
  rw [Addr.add_mid, Nat.zero_add, blk_cell (blk_new _ _) j]
  simpa using hu
theorem Own.rb {B : Nat} {w : World} {v : Value} {bs : List UInt8} (h : Own B w v bs) (hp : 0 < bs.length) : ∃ g o n c, v = .slice (some ⟨g, o, none⟩) n c ∧ B ≤ g ∧ Rb w g o n bs := by
  obtain ⟨g, cap, hv, hg, hc⟩ := Own.form h hp
  refine ⟨g, 0, bs.length, cap, hv, hg, rfl, ?_, hc⟩
  cases bs with
  | nil => simp at hp
  | cons b r =>
    have := hc 0 _ rfl
    rw [Addr.add_mid] at this
    exact World.block_lt_of_cell? w _ this
theorem Own.shape {B : Nat} {w : World} {v : Value} {bs : List UInt8} (h : Own B w v bs) : ∃ a c, v = .slice a bs.length c := by
  rcases Joins.ownsRow_forms h with ⟨rfl, h0⟩ | ⟨g, cap, rfl⟩
  · exact ⟨none, 0, by rw [h0]⟩
  · exact ⟨_, _, rfl⟩
theorem own_empty (w : World) (cs : Array Value) (h : cs = #[]) : Own w.heap.size (w.alloc (.cells cs 5)) (.slice (some ⟨w.heap.size, 0, none⟩) 0 0) [] := by
  have := own_new w [] cs (by rw [h]; rfl) (by simp)
  exact this
theorem u8_letter (d : Nat) (h : d < 16) : ((UInt8.ofNat (97 + d)).toNat : Int) = 97 + (d : Int) := by
  rw [UInt8.toNat_ofNat']; omega
theorem own_snoc {B : Nat} {w : World} {v : Value} {bs : List UInt8} {b : UInt8} {z : Int} (hz : (b.toNat : Int) = z) (h : w.ownsRow B 5 1 v (bs.length + 1) (Lib.byteCells bs ++ [Value.int .u8 z])) : Own B w v (bs ++ [b]) := by
  unfold Own
  rw [List.length_append, List.length_singleton, Lib.byteCells_append]
  simp only [Lib.byteCells, List.map_cons, List.map_nil, hz] at *
  exact h

theorem size_drew (w : World) : w.drew.heap.size = w.heap.size := rfl
theorem itoa_pos (z : Int) : 0 < (Lib.itoa z).length := by
  unfold Lib.itoa
  split
  · simp
  · exact dec_pos _
theorem decimalR (z : Int) (w : World) (h0 : -1000000000000 ≤ z) (h1 : z ≤ 1000000000000) : Calls Tryz.prog 24 #[.int .i64 z] w fun e w' => ∃ g o n c, e = .returned (.slice (some ⟨g, o, none⟩) n c) ∧ w.heap.size ≤ g ∧ Rb w' g o n (Lib.itoa z) ∧ Below w.heap.size w w' := by
  refine (decimal z w h0 h1).mono ?_
  rintro e w1 ⟨v, rfl, ho, hb⟩
  obtain ⟨g, o, n, c, rfl, hg, hr⟩ := Own.rb ho (itoa_pos z)
  exact ⟨g, o, n, c, rfl, hg, hr, hb⟩

end Go.Proofs.YthobdaeglhdhnaaGreatDoor.Print
