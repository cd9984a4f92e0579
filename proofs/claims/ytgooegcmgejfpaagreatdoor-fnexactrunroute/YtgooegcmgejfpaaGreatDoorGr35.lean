import Derived.Test.YtgooegcmgejfpaaGreatDoorGr34
import Derived.Test.YtgooegcmgejfpaaGreatDoorGr22
import Derived.Test.YtgooegcmgejfpaaGreatDoorGr29
import Derived.Test.YtgooegcmgejfpaaGreatDoorGr30
import Derived.Test.YtgooegcmgejfpaaGreatDoorGr31
import Derived.Test.YtgooegcmgejfpaaGreatDoorGr28
import Derived.Deep.DrawnRows
import Derived.StillTailTactics
namespace Go.Proofs.YtgooegcmgejfpaaGreatDoor.Mac
open Go Go.RowKit Go.Proofs.YtgooegcmgejfpaaGreatDoor.Mem
set_option linter.unusedVariables false

/-- The specification runs a block. -/
theorem execS (E : En) (B : Nat → Is) (n : Nat) (bl : Option Addr) (cb : Nat) (R S : Int) (nr ns : Nat) (hok : ∀ i, i < n → OkI R S i n (B i)) : ∀ f, Rec E B n bl cb R S nr ns f := by
  intro f
  induction f with
  | zero =>
    intro k r s ar al cr cs w hf hM
    exact exEnd E B n bl cb nr ns 0 k r s ar al cr cs w hM.hr hM.hs (by omega) hM.hn
  | succ f ih =>
    intro k r s ar al cr cs w hf hM
    by_cases hk : k < n
    · have h := hok k hk
      obtain ⟨p, a, b, c, hB⟩ : ∃ p a b c, B k = ⟨p, a, b, c⟩ := ⟨_, _, _, _, rfl⟩
      rw [hB] at h
      have p0 : 1 ≤ p := h.p0
      have p1 : p ≤ 20 := h.p1
      by_cases e17 : p = 17
      · exact ex17 E B n bl cb R S nr ns f ih k r s ar al cr cs w hf hM hk p a b c hB h e17
      by_cases e15 : p = 15
      · exact ex15 E B n bl cb R S nr ns f ih k r s ar al cr cs w hf hM hk p a b c hB h e15
      by_cases e16 : p = 16
      · exact ex16 E B n bl cb R S nr ns f ih k r s ar al cr cs w hf hM hk p a b c hB h e16
      by_cases e18 : p = 18
      · exact ex18 E B n bl cb R S nr ns f ih k r s ar al cr cs w hf hM hk p a b c hB h e18
      by_cases e19 : p = 19
      · exact ex19 E B n bl cb R S nr ns f ih k r s ar al cr cs w hf hM hk p a b c hB h e19
      exact exSet E B n bl cb R S nr ns f ih k r s ar al cr cs w hf hM hk p a b c hB h (by omega)
    · exact exEnd E B n bl cb nr ns (f + 1) k r s ar al cr cs w hM.hr hM.hs (by omega) hM.hn
/-- What a block of a valid code may hold. -/
theorem blk_ok {R S : Int} {n : Nat} {B : Nat → Is} (h : ValC.okBlk R S n B = true) : n ≤ 16384 ∧ ∀ i, i < n → OkI R S i n (B i) := by
  simp only [ValC.okBlk, Bool.and_eq_true, Bool.not_eq_true', decide_eq_false_iff_not] at h
  refine ⟨by omega, fun i hi => ok_ins ?_⟩
  cases hf : ValC.okI R S i n (B i) with
  | true => rfl
  | false => have := allB_false (f := fun i => ValC.okI R S i n (B i)) hi hf; rw [this] at h; cases h.2
end Go.Proofs.YtgooegcmgejfpaaGreatDoor.Mac
namespace Go.Proofs.YtgooegcmgejfpaaGreatDoor.Mac
open Go Go.RowKit Go.Proofs.YtgooegcmgejfpaaGreatDoor.Mem Go.Proofs.YtgooegcmgejfpaaGreatDoor.Travel
open Go.Proofs.YtgooegcmgejfpaaGreatDoor.Valid (inB nodes nodes_bd validB ret_bool)
open Go.Proofs.YtgooegcmgejfpaaGreatDoor.StV (stopB)
open Go.Proofs.YtgooegcmgejfpaaGreatDoor.Arith (cl cl_bd sadd smul)
set_option linter.unusedVariables false
set_option linter.unusedSimpArgs false
attribute [local go_sem ↓] Go.wp_at_zero Go.wp_at_succ

theorem anyB_yes {n k : Nat} {f : Nat → Bool} (hk : k < n) (h : f k = true) : anyB n f = true := by unfold anyB; rw [allB_false (f := fun i => !f i) hk (by simp [h])]; rfl
theorem anyB_no {n : Nat} {f : Nat → Bool} (h : allB n (fun i => !f i) = true) : anyB n f = false := by unfold anyB; rw [h]; rfl

set_option maxHeartbeats 1600000 in
set_option maxRecDepth 100000 in
theorem indexI (a : Option Addr) (n c : Nat) (L : Nat → Int) (x : Int) (w : World) (hs : NumsAt w a n L) (hn : n ≤ 1048576) :
    Calls Tryz.prog 182 #[.slice a n c, .int .i64 x] w fun e w' => ∃ i : Int, e = .returned (.int .i64 i) ∧ decide (0 ≤ i) = anyB n (fun i => L i == x) ∧ w' = w := by
  have HS := Hid.mk hs
  clear hs
  go_enter Tryz.func182, Tryz.ntmps182
  go_wp2
  go_loopw [8] (fun i wr => wr = w ∧ ∃ k : Nat, k ≤ n ∧ i = .int .i64 (k : Int) ∧ Hid (allB k (fun i => !(L i == x)) = true)) (fun i _ => n - (intOf i).toNat)
  case atStart => exact ⟨rfl, 0, Nat.zero_le _, rfl, rfl⟩
  case round =>
    obtain ⟨rfl, k, hk, rfl, hall⟩ := hrel
    by_cases hlt : k < n
    · obtain ⟨b, off, rfl, c0⟩ := HS.out.at hlt
      have k0 : (0 : Int) ≤ (k : Int) := by omega
      have k1 : (k : Int) < (n : Int) := by omega
      by_cases he : L k = x
      · have hy : Hid (anyB n (fun i => L i == x) = true) := anyB_yes hlt (by simp [he])
        have e1 : (x == L k) = true := by simp [he]
        clear he
        go_wp2
        go_ret
        exact ⟨(k : Int), rfl, by rw [hy.out]; simp, rfl⟩
      · have e1 : (x == L k) = false := by simp; exact fun h => he h.symm
        have hall' : Hid (allB (k + 1) (fun i => !(L i == x)) = true) := allB_succ hall.out (by simp [he])
        clear he hall
        go_wp2
        exact ⟨⟨by first | rfl | trivial, k + 1, by omega, by first | rfl | go_num | omega, hall'⟩, by simp [intOf]; omega⟩
    · obtain rfl : n = k := by omega
      have hy : Hid (anyB n (fun i => L i == x) = false) := anyB_no hall.out
      go_wp2
      go_ret
      exact ⟨-1, rfl, by rw [hy.out]; rfl, rfl⟩
set_option maxHeartbeats 1600000 in
set_option maxRecDepth 100000 in
theorem containsI (a : Option Addr) (n c : Nat) (L : Nat → Int) (x : Int) (w : World) (hs : NumsAt w a n L) (hn : n ≤ 1048576) :
    Calls Tryz.prog 170 #[.slice a n c, .int .i64 x] w fun e w' => e = .returned (.bool (anyB n (fun i => L i == x))) ∧ w' = w := by
  have HS := Hid.mk hs
  clear hs
  go_enter Tryz.func170, Tryz.ntmps170
  go_wp2_with fail
  refine (indexI a n c L x _ HS.out hn).mono ?_
  rintro e w1 ⟨i, rfl, hi, rfl⟩
  have HI := Hid.mk hi
  clear hi
  go_wp2
  go_ret
  exact ⟨ret_bool HI.out, rfl⟩

/-- A frame that runs, with its machine, its status list T and what is bounded. -/
structure Fra (w0 w : World) (F : Nat) (f : Fr) (r s T : List Int) (mp : Mp) (v : Nat) : Prop where
  ok : Ok w F f r s
  bel : Below w0.heap.size w0 w
  bF : w0.heap.size ≤ F
  bR : w0.heap.size ≤ f.gR
  bS : w0.heap.size ≤ f.gS
  hM : w.heap[f.M]? = some (.cells (mcC mp) 153)
  mF : f.M ≠ F
  mR : f.M ≠ f.gR
  mS : f.M ≠ f.gS
  hI : InAt w0 mp.b1 mp.b2 mp.b3 mp.I
  hC : CoAt w0 mp.a1 mp.a2 mp.a3 mp.C
  b5 : Box w F f.gR f.gS mp.k5 144
  b6 : Box w F f.gR f.gS mp.k6 145
  b7 : Box w F f.gR f.gS mp.k7 146
  b8 : Box w F f.gR f.gS mp.k8 147
  b9 : Box w F f.gR f.gS mp.k9 148
  b10 : Box w F f.gR f.gS mp.k10 149
  b11 : Box w F f.gR f.gS mp.k11 150
  b12 : Box w F f.gR f.gS mp.k12 151
  val : validB mp.I = true
  co : ValC.okCo mp.C = true
  mv : mp.v = (v : Int)
  hv : v < mp.I.nV
  nr : (f.nr : Int) = mp.C.R
  ns : (f.ns : Int) = mp.C.S * mp.I.nQ
  Br : Bd r
  Bs : Bd s
  u : f.u = -1
  p0 : 0 ≤ f.p
  p1 : f.p ≤ 4097
  d0 : 0 ≤ f.d
  d1 : f.d ≤ nodes mp.I - 1
  nT : f.nT = T.length
  lT : T.length = mp.I.nQ
  lS : f.gS < w.heap.size
  st : T.length = 0 ∨ ∃ g, f.aT = some ⟨g, 0, none⟩ ∧ w0.heap.size ≤ g ∧ g ≠ F ∧ g ≠ f.gR ∧ g ≠ f.gS ∧ Rw w g T

theorem Rw.nums {w : World} {g : Nat} {l : List Int} (h : Rw w g l) : NumsAt w (some ⟨g, 0, none⟩) l.length (fun i => l.getD i 0) := by
  refine Or.inr ⟨g, 0, rfl, fun i hi => ?_⟩
  intro j u hj
  obtain ⟨rfl, rfl⟩ : j = 0 ∧ u = .int .i64 (l.getD i 0) := by
    cases j with
    | zero => simp [ci] at hj; exact ⟨rfl, hj.symm⟩
    | succ j => simp [ci] at hj
  simpa using (h i hi).1
theorem Fra.nums {w0 w : World} {F : Nat} {f : Fr} {r s T : List Int} {mp : Mp} {v : Nat} (h : Fra w0 w F f r s T mp v) : NumsAt w f.aT f.nT (fun i => T.getD i 0) := by
  rw [h.nT]
  rcases h.st with h0 | ⟨g, h1, h2, h3, h4, h5, h6⟩
  · exact Or.inl h0
  · rw [h1]; exact h6.nums
theorem Rw.oth {w w' : World} {B F gR gS g : Nat} {l : List Int} (h : Rw w g l) (ho : Oth B F gR gS w w') (h1 : g ≠ F) (h2 : g ≠ gR) (h3 : g ≠ gS) : Rw w' g l := fun i hi => by
  have hb := ho.oth g (lt_of_cell (h i hi).1) h1 h2 h3
  have := h i hi
  simp only [World.cell?, World.frozen?] at this ⊢
  rw [hb]; exact this

/-- Behind a move. -/
theorem Fra.moved {w0 w w' : World} {F : Nat} {f : Fr} {r s T : List Int} {mp : Mp} {v : Nat} (h : Fra w0 w F f r s T mp v) {n : Int} (n0 : 0 ≤ n) (n1 : n ≤ nodes mp.I - 1) (hp : f.p ≤ 4096)
    (ho : Ok w' F { f with d := n, p := f.p + 1, t := nxT mp.I f n, s := nxS mp.I f n, l := nxL mp.I f n } (over r (nextL mp.I v (stF f) n)) s) (ht : Oth w0.heap.size F f.gR f.gS w w') :
    Fra w0 w' F { f with d := n, p := f.p + 1, t := nxT mp.I f n, s := nxS mp.I f n, l := nxL mp.I f n } (over r (nextL mp.I v (stF f) n)) s T mp v :=
  ⟨ho, h.bel.trans ht.bel, h.bF, h.bR, h.bS, ht.blk h.hM h.mF h.mR h.mS, h.mF, h.mR, h.mS, h.hI, h.hC, h.b5.oth ht, h.b6.oth ht, h.b7.oth ht, h.b8.oth ht, h.b9.oth ht, h.b10.oth ht, h.b11.oth ht, h.b12.oth ht, h.val, h.co, h.mv, h.hv, h.nr, h.ns,
   bd_over (next_bd h.val h.hv (S := stF f) h.d0 h.d1 n0 n1 h.p0 (by have := h.p1; show f.p ≤ 100000; omega)) h.Br, h.Bs, h.u, by show 0 ≤ f.p + 1; have := h.p0; omega, by show f.p + 1 ≤ 4097; omega, n0, n1, h.nT, h.lT, Nat.lt_of_lt_of_le h.lS ht.bel.size, by
    rcases h.st with h0 | ⟨g, h1, h2, h3, h4, h5, h6⟩
    · exact Or.inl h0
    · exact Or.inr ⟨g, h1, h2, h3, h4, h5, h6.oth ht h3 h4 h5⟩⟩

theorem Box.below {w w' : World} {F gR gS k : Nat} {fid : FuncId} (h : Box w F gR gS k fid) (hb : Below w.heap.size w w') : Box w' F gR gS k fid := ⟨blk_below h.blk hb, h.f, h.r, h.s⟩
theorem Fra.below {w0 w w' : World} {F : Nat} {f : Fr} {r s T : List Int} {mp : Mp} {v : Nat} (h : Fra w0 w F f r s T mp v) (hb : Below w.heap.size w w') : Fra w0 w' F f r s T mp v :=
  ⟨h.ok.below hb, below_then h.bel hb, h.bF, h.bR, h.bS, blk_below h.hM hb, h.mF, h.mR, h.mS, h.hI, h.hC, h.b5.below hb, h.b6.below hb, h.b7.below hb, h.b8.below hb, h.b9.below hb, h.b10.below hb, h.b11.below hb, h.b12.below hb, h.val, h.co, h.mv, h.hv, h.nr, h.ns, h.Br, h.Bs, h.u, h.p0, h.p1, h.d0, h.d1, h.nT, h.lT, Nat.lt_of_lt_of_le h.lS hb.size, by
    rcases h.st with h0 | ⟨g, h1, h2, h3, h4, h5, h6⟩
    · exact Or.inl h0
    · exact Or.inr ⟨g, h1, h2, h3, h4, h5, h6.below hb⟩⟩

/-- The surroundings of a block at a node. -/
def enAt (I : In) (v : Nat) (n : Int) : En := ⟨reqOf I n, I.nQ, if stopB I n then (I.Q (reqOf I n).toNat).b else 0, (I.V v).b⟩
theorem enAt_home {I : In} {v : Nat} (hv : v < I.nV) : enAt I v (v : Int) = enHome I v := by
  have := home_no hv
  unfold enAt enHome reqOf
  simp [this]
theorem enAt_ok {I : In} {v : Nat} (h : validB I = true) (hv : v < I.nV) (n : Int) : EnOk (enAt I v n) := by
  have hq := veh_bd h hv
  have hi := (lens_bd (validB_parts h).1).2.1
  by_cases hs : stopB I n = true
  · obtain ⟨g1, g2, g3, g4⟩ := stop_bd hs
    have hr := req_bd h (q := ((n - I.nV) / 2).toNat) (by omega)
    exact ⟨by simp [enAt, reqOf, hs]; omega, by simp [enAt, reqOf, hs]; omega, by simpa [enAt] using hi, by simp [enAt, reqOf, hs]; omega, by simp [enAt, reqOf, hs]; omega, by simpa [enAt] using hq.2.2.1, by simpa [enAt] using hq.2.2.2⟩
  · exact ⟨by simp [enAt, reqOf, hs], by simp [enAt, reqOf, hs]; omega, by simpa [enAt] using hi, by simp [enAt, reqOf, hs], by simp [enAt, reqOf, hs], by simpa [enAt] using hq.2.2.1, by simpa [enAt] using hq.2.2.2⟩
theorem Fra.run {w0 w w' : World} {F : Nat} {f : Fr} {r s T : List Int} {mp : Mp} {v : Nat} (h : Fra w0 w F f r s T mp v) (ho : Ok w' F { f with q := (enAt mp.I v f.d).q, nx := 0, u := -1 } r s) (ht : Oth w0.heap.size F f.gR f.gS w w') :
    Run w0 w' F { f with q := (enAt mp.I v f.d).q, nx := 0, u := -1 } r s mp (enAt mp.I v f.d) mp.C.R mp.C.S := by
  obtain ⟨k0, k1, k2, k3⟩ := StV.co_bd h.co
  have hn := h.nr
  exact ⟨ho, h.bel.trans ht.bel, h.bF, h.bR, h.bS, ht.blk h.hM h.mF h.mR h.mS, h.mF, h.mR, h.mS, h.hI, h.b5.oth ht, h.b6.oth ht, h.b7.oth ht, h.b8.oth ht, h.b9.oth ht, h.b10.oth ht, h.b11.oth ht, h.b12.oth ht, rfl, rfl, enAt_ok h.val h.hv _,
    fun q hq => by
      by_cases hs : stopB mp.I f.d = true
      · have e : reqOf mp.I f.d = (q : Int) := hq
        simp only [enAt, hs, if_true, e, Int.toNat_natCast]
      · simp [enAt, reqOf, hs] at hq,
    by rw [h.mv, Int.toNat_natCast]; rfl, by rw [h.mv]; omega, by rw [h.mv]; have := h.hv; omega, hn, by show f.nr ≤ 1000; omega, h.ns, k3, h.Br, h.Bs⟩
/-- A frame runs a block of its code. -/
theorem Fra.block {w0 w : World} {F : Nat} {f : Fr} {r s T : List Int} {mp : Mp} {v : Nat} (h : Fra w0 w F f r s T mp v) (B : Nat → Is) (n cb : Nat) (bl : Option Addr) (hbl : SliceAt w0 bl n 4 (fun i => (B i).cells)) (hb : ValC.okBlk mp.C.R mp.C.S n B = true) :
    Calls Tryz.prog 108 #[.pointer (some ⟨F, 0, none⟩), .slice bl n cb] w (RunPost w0 w F { f with q := (enAt mp.I v f.d).q } mp (enAt mp.I v f.d) mp.C.R mp.C.S (exec (enAt mp.I v f.d) B n n 0 r s)) := by
  obtain ⟨l1, l2, l3⟩ := lens_bd (validB_parts h.val).1
  exact loopI w0 w F f r s mp (enAt mp.I v f.d) mp.C.R mp.C.S B n cb bl hbl (blk_ok hb).2 (blk_ok hb).1 l1 l2 h.ok h.bel h.bF h.hM h.mF h.u rfl (fun w' ho ht => h.run ho ht)
end Go.Proofs.YtgooegcmgejfpaaGreatDoor.Mac
namespace Go.Proofs.YtgooegcmgejfpaaGreatDoor.Mac
open Go Go.RowKit Go.Proofs.YtgooegcmgejfpaaGreatDoor.Mem Go.Proofs.YtgooegcmgejfpaaGreatDoor.Travel
open Go.Proofs.YtgooegcmgejfpaaGreatDoor.Valid (inB nodes nodes_bd validB ret_bool)
open Go.Proofs.YtgooegcmgejfpaaGreatDoor.StV (stopB)
open Go.Proofs.YtgooegcmgejfpaaGreatDoor.Arith (cl cl_bd sadd smul)
set_option linter.unusedVariables false
set_option linter.unusedSimpArgs false
attribute [local go_sem ↓] Go.wp_at_zero Go.wp_at_succ

theorem infoVdI : (Tryz.prog.info? 59).map (·.size) = some 3 := by kernel_rfl
theorem vsetI {w : World} {V : Nat} {t : TypeId} {fr : Nat × Nat} {x y z : Value} (h : w.heap[V]? = some (.cells #[x, y, z] t fr)) (a b c : Value) : (((w.setCell ⟨V, 0, none⟩ a).setCell ⟨V, 1, none⟩ b).setCell ⟨V, 2, none⟩ c).heap[V]? = some (.cells #[a, b, c] t fr) := by
  have := blk_set (blk_set (blk_set h 0 a) 1 b) 2 c
  simp only [List.setIfInBounds_toArray, List.set_cons_zero, List.set_cons_succ] at this
  exact this
theorem vbelI {B : Nat} {w0 w : World} {V : Nat} (h : Below B w0 w) (hV : B ≤ V) (a b c : Value) : Below B w0 (((w.setCell ⟨V, 0, none⟩ a).setCell ⟨V, 1, none⟩ b).setCell ⟨V, 2, none⟩ c) :=
  ((h.setCell (p := ⟨V, 0, none⟩) hV _).setCell (p := ⟨V, 1, none⟩) hV _).setCell (p := ⟨V, 2, none⟩) hV _
set_option maxHeartbeats 1600000 in
set_option maxRecDepth 100000 in
theorem rejectedI (p u : Int) (w : World) : Calls Tryz.prog 127 #[.int .i64 p, .int .i64 u] w fun e w' => e = .returned (.agg #[.int .i64 2, .int .i64 p, .int .i64 u]) ∧ Below w.heap.size w w' := by
  go_enter Tryz.func127, Tryz.ntmps127
  go_wp2
  go_returns
  exact ⟨rfl, by go_grown⟩

/-- What stands in a frame: where it is, and the rule that is broken or -1. -/
def At (w : World) (F : Nat) (p u : Int) : Prop := ∃ cs, w.heap[F]? = some (.cells cs 93) ∧ cs[0]? = some (.int .i64 p) ∧ cs[1]? = some (.int .i64 u)
/-- The rule that the return breaks, or -1. -/
def homeU (mp : Mp) (v : Nat) (f : Fr) (r s T : List Int) : Int :=
  if anyB T.length (fun i => T.getD i 0 == 1) = true then 0 else (exec (enHome mp.I v) mp.C.B3 mp.C.n3 mp.C.n3 0 (over r (nextL mp.I v (stF f) v)) s).2.2

set_option maxHeartbeats 4000000 in
set_option maxRecDepth 100000 in
theorem goHomeI (w0 w : World) (F : Nat) (f : Fr) (r s T : List Int) (mp : Mp) (v : Nat) (h : Fra w0 w F f r s T mp v) (hp : f.p ≤ 4096) :
    Calls Tryz.prog 126 #[.pointer (some ⟨F, 0, none⟩)] w fun e w' => (∃ v, e = .returned v) ∧ Oth w0.heap.size F f.gR f.gS w w' ∧ At w' F (f.p + 1) (homeU mp v f r s T) := by
  have H := Hid.mk h
  have y9 := blk_cell h.ok.hF 9
  have m3 := blk_cell h.hM 3
  simp only [frC, mcC, List.getElem?_toArray, List.getElem?_cons_zero, List.getElem?_cons_succ] at y9 m3
  rw [h.mv] at m3
  obtain ⟨l1, l2, l3⟩ := lens_bd (validB_parts h.val).1
  have hv := h.hv
  have vn0 : (0 : Int) ≤ (v : Int) := by omega
  have vn1 : (v : Int) ≤ nodes mp.I - 1 := by unfold nodes; omega
  obtain ⟨k0, k1, k2, k3⟩ := StV.co_bd h.co
  have hnr := h.nr
  have hTn : Hid (f.nT = T.length) := h.nT
  have hTle : f.nT ≤ 1048576 := by have a1 := h.nT; have a2 := h.lT; omega
  clear h
  go_enter Tryz.func126, Tryz.ntmps126
  go_wp2_with fail
  refine (moveToI w0.heap.size F f r s mp v (v : Int) _ H.out.ok H.out.hM (H.out.hI.below H.out.bel) H.out.val H.out.mv hv H.out.d0 H.out.d1 vn0 vn1 H.out.p0 (by omega) H.out.bel.size H.out.bF H.out.bR (by omega) H.out.mF H.out.mR H.out.mS).mono ?_
  rintro e w1 ⟨⟨vv, rfl⟩, ho, ht⟩
  have G := Hid.mk (H.out.moved vn0 vn1 hp ho ht)
  have T1 := Hid.mk ht
  clear ho ht y9 m3
  have y6 := blk_cell G.out.ok.hF 6
  simp only [frC, mcC, List.getElem?_toArray, List.getElem?_cons_zero, List.getElem?_cons_succ] at y6
  have hN : Hid (NumsAt w1 f.aT f.nT (fun i => T.getD i 0)) := G.out.nums
  go_wp2_with fail
  with_reducible refine (containsI f.aT f.nT f.cT (fun i => T.getD i 0) 1 _ hN.out hTle).mono ?_
  rintro e w' ⟨rfl, rfl⟩
  clear y6
  cases ha : anyB f.nT (fun i => T.getD i 0 == 1) with
  | true =>
    have hU : Hid (homeU mp v f r s T = 0) := by unfold Hid homeU; rw [← hTn.out, if_pos ha]
    go_wp2_with fail
    refine (failI w0.heap.size F _ 0 _ G.out.ok.hF H.out.bF f.gR f.gS).mono ?_
    rintro e w2 ⟨⟨vv, rfl⟩, hF, ht⟩
    have HF := Hid.mk hF
    have HT := Hid.mk ht
    clear hF ht
    go_wp2
    refine bodyPost_ret (results_none rfl _ _ _) rfl ?_
    exact ⟨⟨_, rfl⟩, T1.out.trans HT.out, _, HF.out, rfl, by rw [hU.out]; rfl⟩
  | false =>
    have y9 := blk_cell G.out.ok.hF 9
    have m8 := blk_cell G.out.hM 8
    simp only [frC, mcC, List.getElem?_toArray, List.getElem?_cons_zero, List.getElem?_cons_succ] at y9 m8
    have hU : Hid (homeU mp v f r s T = (exec (enAt mp.I v (v : Int)) mp.C.B3 mp.C.n3 mp.C.n3 0 (over r (nextL mp.I v (stF f) v)) s).2.2) := by
      unfold Hid homeU; rw [← hTn.out, if_neg (by rw [ha]; exact Bool.false_ne_true), enAt_home hv]
    have hb3 : Hid (ValC.okBlk mp.C.R mp.C.S mp.C.n3 mp.C.B3 = true) := by
      have := H.out.co
      unfold ValC.okCo at this
      simp only [Bool.and_eq_true] at this
      exact this.2
    go_wp2_with fail
    refine (G.out.block mp.C.B3 mp.C.n3 mp.c3 mp.a3 H.out.hC.b3 hb3.out).mono ?_
    rintro e w2 ⟨⟨vv, rfl⟩, ht, hr⟩
    have HT := Hid.mk ht
    have HR := Hid.mk hr
    clear ht hr y9 m8
    go_wp2
    go_end0
    refine ⟨⟨_, rfl⟩, T1.out.trans HT.out, ?_⟩
    rcases HR.out with ⟨e1, nx, hrun⟩ | ⟨e1, nx, hF⟩
    · exact ⟨_, hrun.ok.hF, rfl, by rw [hU.out, e1]; rfl⟩
    · exact ⟨_, hF, rfl, by rw [hU.out]; rfl⟩
end Go.Proofs.YtgooegcmgejfpaaGreatDoor.Mac
