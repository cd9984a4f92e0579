import Derived.Test.YtgooegcmgejfpaaGreatDoorGr09
import Derived.Test.YtgooegcmgejfpaaGreatDoorGr13
import Derived.Test.YtgooegcmgejfpaaGreatDoorGr16
namespace Go.Proofs.YtgooegcmgejfpaaGreatDoor.Mac
open Go Go.RowKit Go.Proofs.YtgooegcmgejfpaaGreatDoor.Mem
open Go.Proofs.YtgooegcmgejfpaaGreatDoor.Arith (cl cl_bd sadd smul)
set_option linter.unusedVariables false
set_option linter.unusedSimpArgs false

/-- A box that holds a function. -/
structure Box (w : World) (F gR gS k : Nat) (fid : FuncId) : Prop where
  blk : w.heap[k]? = some (.cells #[fnV fid] 130)
  f : k ≠ F
  r : k ≠ gR
  s : k ≠ gS
/-- A frame at work: w0 is the world in which the call began. -/
structure Run (w0 w : World) (F : Nat) (f : Fr) (r s : List Int) (mp : Mp) (E : En) (R S : Int) : Prop where
  ok : Ok w F f r s
  bel : Below w0.heap.size w0 w
  bF : w0.heap.size ≤ F
  bR : w0.heap.size ≤ f.gR
  bS : w0.heap.size ≤ f.gS
  hM : w.heap[f.M]? = some (.cells (mcC mp) 153)
  mF : f.M ≠ F
  mR : f.M ≠ f.gR
  mS : f.M ≠ f.gS
  hI : InAt w0 mp.b1 mp.b2 mp.b3 mp.I
  b5 : Box w F f.gR f.gS mp.k5 144
  b6 : Box w F f.gR f.gS mp.k6 145
  b7 : Box w F f.gR f.gS mp.k7 146
  b8 : Box w F f.gR f.gS mp.k8 147
  b9 : Box w F f.gR f.gS mp.k9 148
  b10 : Box w F f.gR f.gS mp.k10 149
  b11 : Box w F f.gR f.gS mp.k11 150
  b12 : Box w F f.gR f.gS mp.k12 151
  hq : f.q = E.q
  eQ : E.nQ = mp.I.nQ
  hE : EnOk E
  tag : ∀ q : Nat, E.q = (q : Int) → E.tags = (mp.I.Q q).b
  ski : E.skills = (mp.I.V mp.v.toNat).b
  v0 : 0 ≤ mp.v
  v1 : mp.v < mp.I.nV
  hR : (f.nr : Int) = R
  lR : f.nr ≤ 1000
  hS : (f.ns : Int) = S * E.nQ
  S1 : S ≤ 100
  Br : Bd r
  Bs : Bd s
theorem Run.hB {w0 w : World} {F : Nat} {f : Fr} {r s : List Int} {mp : Mp} {E : En} {R S : Int} (h : Run w0 w F f r s mp E R S) : w0.heap.size ≤ w.heap.size := h.bel.size
theorem Run.inst {w0 w : World} {F : Nat} {f : Fr} {r s : List Int} {mp : Mp} {E : En} {R S : Int} (h : Run w0 w F f r s mp E R S) : InAt w mp.b1 mp.b2 mp.b3 mp.I := h.hI.below h.bel
theorem Box.oth {w w' : World} {B F gR gS k : Nat} {fid : FuncId} (h : Box w F gR gS k fid) (ho : Oth B F gR gS w w') : Box w' F gR gS k fid := ⟨ho.blk h.blk h.f h.r h.s, h.f, h.r, h.s⟩
/-- One step on. -/
theorem Run.step {w0 w w' : World} {F : Nat} {f : Fr} {r s r' s' : List Int} {mp : Mp} {E : En} {R S : Int} {nx u : Int} (h : Run w0 w F f r s mp E R S) (ho : Ok w' F { f with nx := nx, u := u } r' s') (ht : Oth w0.heap.size F f.gR f.gS w w') (br : Bd r') (bs : Bd s') : Run w0 w' F { f with nx := nx, u := u } r' s' mp E R S :=
  ⟨ho, h.bel.trans ht.bel, h.bF, h.bR, h.bS, ht.blk h.hM h.mF h.mR h.mS, h.mF, h.mR, h.mS, h.hI, h.b5.oth ht, h.b6.oth ht, h.b7.oth ht, h.b8.oth ht, h.b9.oth ht, h.b10.oth ht, h.b11.oth ht, h.b12.oth ht, h.hq, h.eQ, h.hE, h.tag, h.ski, h.v0, h.v1, h.hR, h.lR, h.hS, h.S1, br, bs⟩
/-- What is left behind one instruction: the block goes on elsewhere, or a rule is broken. -/
def StP (w0 : World) (F : Nat) (f : Fr) (r s : List Int) (mp : Mp) (E : En) (R S : Int) (B : Nat → Is) (n k : Nat) (w : World) (e : Ending) (w' : World) : Prop :=
  (∃ v, e = .returned v) ∧ ∃ (k' : Nat) (u : Int) (r' s' : List Int), k < k' ∧ k' ≤ n ∧ Run w0 w' F { f with nx := (k' : Int), u := u } r' s' mp E R S ∧ Oth w0.heap.size F f.gR f.gS w w' ∧
    ((u = -1 ∧ ∀ fl, exec E B n (fl + 1) k r s = exec E B n fl k' r' s') ∨ (1 ≤ u ∧ ∀ fl, exec E B n (fl + 1) k r s = (r', s', u)))
theorem st1 (w0 w : World) (F : Nat) (f : Fr) (r s : List Int) (mp : Mp) (E : En) (R S : Int) (B : Nat → Is) (n k : Nat) (h : Run w0 w F f r s mp E R S) (hk : k < n) (hnx : f.nx = ((k + 1 : Nat) : Int)) (hu : f.u = -1) (a b c : Int) (hB : B k = ⟨1, a, b, c⟩) (hok : OkI R S k n ⟨1, a, b, c⟩) :
    Calls Tryz.prog 138 #[.pointer (some ⟨F, 0, none⟩), .agg #[.int .i64 1, .int .i64 a, .int .i64 b, .int .i64 c]] w (StP w0 F f r s mp E R S B n k w) := by
  have hf : ({ f with nx := ((k + 1 : Nat) : Int), u := -1 } : Fr) = f := by rw [← hnx, ← hu]
  have ha := hok.set (by simp)
  simp only at ha
  have h5 := h.hR
  have h6 := h.lR
  obtain ⟨ma, rfl⟩ : ∃ m : Nat, a = (m : Int) := ⟨a.toNat, by omega⟩
  have hbb := hok.num (by simp)
  simp only at hbb
  have hvb := val_bd (E := E) (x := ⟨1, (ma : Int), b, c⟩) (r := r) (s := s) hbb.1 hbb.2 h.Br h.Bs
  have hv : val E ⟨1, (ma : Int), b, c⟩ r s = b := by rfl
  rw [hv] at hvb
  refine (constI w0.heap.size F f r s w h.ok h.hB h.bF h.bR h.bS h.lR 1 b c ma (by omega)).mono ?_
  rintro e w' ⟨he, ho, ht⟩
  refine ⟨he, k + 1, -1, r.set ma (b), s, by omega, by omega, ?_, ht, Or.inl ⟨rfl, fun fl => ?_⟩⟩
  · exact h.step (by rw [hf]; exact ho) ht (h.Br.set hvb.1 hvb.2) h.Bs
  · rw [exec, if_neg (by omega), hB]; dsimp only; rw [if_neg (by omega)]; rw [if_neg (by omega)]; rw [if_neg (by omega)]; rw [if_neg (by omega)]; rw [if_neg (by omega)]; rw [hv, Int.toNat_natCast]

theorem st2 (w0 w : World) (F : Nat) (f : Fr) (r s : List Int) (mp : Mp) (E : En) (R S : Int) (B : Nat → Is) (n k : Nat) (h : Run w0 w F f r s mp E R S) (hk : k < n) (hnx : f.nx = ((k + 1 : Nat) : Int)) (hu : f.u = -1) (a b c : Int) (hB : B k = ⟨2, a, b, c⟩) (hok : OkI R S k n ⟨2, a, b, c⟩) :
    Calls Tryz.prog 139 #[.pointer (some ⟨F, 0, none⟩), .agg #[.int .i64 2, .int .i64 a, .int .i64 b, .int .i64 c]] w (StP w0 F f r s mp E R S B n k w) := by
  have hf : ({ f with nx := ((k + 1 : Nat) : Int), u := -1 } : Fr) = f := by rw [← hnx, ← hu]
  have ha := hok.set (by simp)
  simp only at ha
  have h5 := h.hR
  have h6 := h.lR
  obtain ⟨ma, rfl⟩ : ∃ m : Nat, a = (m : Int) := ⟨a.toNat, by omega⟩
  have hrb := hok.reg (by simp)
  simp only at hrb
  obtain ⟨mb, rfl⟩ : ∃ m : Nat, b = (m : Int) := ⟨b.toNat, by omega⟩
  have hbb : -1000000000 ≤ (mb : Int) ∧ (mb : Int) ≤ 1000000000 := by omega
  have hvb := val_bd (E := E) (x := ⟨2, (ma : Int), (mb : Int), c⟩) (r := r) (s := s) hbb.1 hbb.2 h.Br h.Bs
  have hv : val E ⟨2, (ma : Int), (mb : Int), c⟩ r s = r.getD mb 0 := by rfl
  rw [hv] at hvb
  refine (moveI w0.heap.size F f r s w h.ok h.hB h.bF h.bR h.bS h.lR 2 c ma mb (by omega) (by omega) (h.Br mb)).mono ?_
  rintro e w' ⟨he, ho, ht⟩
  refine ⟨he, k + 1, -1, r.set ma (r.getD mb 0), s, by omega, by omega, ?_, ht, Or.inl ⟨rfl, fun fl => ?_⟩⟩
  · exact h.step (by rw [hf]; exact ho) ht (h.Br.set hvb.1 hvb.2) h.Bs
  · rw [exec, if_neg (by omega), hB]; dsimp only; rw [if_neg (by omega)]; rw [if_neg (by omega)]; rw [if_neg (by omega)]; rw [if_neg (by omega)]; rw [if_neg (by omega)]; rw [hv, Int.toNat_natCast]

theorem st3 (w0 w : World) (F : Nat) (f : Fr) (r s : List Int) (mp : Mp) (E : En) (R S : Int) (B : Nat → Is) (n k : Nat) (h : Run w0 w F f r s mp E R S) (hk : k < n) (hnx : f.nx = ((k + 1 : Nat) : Int)) (hu : f.u = -1) (a b c : Int) (hB : B k = ⟨3, a, b, c⟩) (hok : OkI R S k n ⟨3, a, b, c⟩) :
    Calls Tryz.prog 140 #[.pointer (some ⟨F, 0, none⟩), .agg #[.int .i64 3, .int .i64 a, .int .i64 b, .int .i64 c]] w (StP w0 F f r s mp E R S B n k w) := by
  have hf : ({ f with nx := ((k + 1 : Nat) : Int), u := -1 } : Fr) = f := by rw [← hnx, ← hu]
  have ha := hok.set (by simp)
  simp only at ha
  have h5 := h.hR
  have h6 := h.lR
  obtain ⟨ma, rfl⟩ : ∃ m : Nat, a = (m : Int) := ⟨a.toNat, by omega⟩
  have hrb := hok.reg (by simp)
  simp only at hrb
  obtain ⟨mb, rfl⟩ : ∃ m : Nat, b = (m : Int) := ⟨b.toNat, by omega⟩
  have hbb : -1000000000 ≤ (mb : Int) ∧ (mb : Int) ≤ 1000000000 := by omega
  have hvb := val_bd (E := E) (x := ⟨3, (ma : Int), (mb : Int), c⟩) (r := r) (s := s) hbb.1 hbb.2 h.Br h.Bs
  have hv : val E ⟨3, (ma : Int), (mb : Int), c⟩ r s = -r.getD mb 0 := by rfl
  rw [hv] at hvb
  refine (negI w0.heap.size F f r s w h.ok h.hB h.bF h.bR h.bS h.lR 3 c ma mb (by omega) (by omega) (h.Br mb)).mono ?_
  rintro e w' ⟨he, ho, ht⟩
  refine ⟨he, k + 1, -1, r.set ma (-r.getD mb 0), s, by omega, by omega, ?_, ht, Or.inl ⟨rfl, fun fl => ?_⟩⟩
  · exact h.step (by rw [hf]; exact ho) ht (h.Br.set hvb.1 hvb.2) h.Bs
  · rw [exec, if_neg (by omega), hB]; dsimp only; rw [if_neg (by omega)]; rw [if_neg (by omega)]; rw [if_neg (by omega)]; rw [if_neg (by omega)]; rw [if_neg (by omega)]; rw [hv, Int.toNat_natCast]

theorem st4 (w0 w : World) (F : Nat) (f : Fr) (r s : List Int) (mp : Mp) (E : En) (R S : Int) (B : Nat → Is) (n k : Nat) (h : Run w0 w F f r s mp E R S) (hk : k < n) (hnx : f.nx = ((k + 1 : Nat) : Int)) (hu : f.u = -1) (a b c : Int) (hB : B k = ⟨4, a, b, c⟩) (hok : OkI R S k n ⟨4, a, b, c⟩) :
    Calls Tryz.prog 141 #[.pointer (some ⟨F, 0, none⟩), .agg #[.int .i64 4, .int .i64 a, .int .i64 b, .int .i64 c]] w (StP w0 F f r s mp E R S B n k w) := by
  have hf : ({ f with nx := ((k + 1 : Nat) : Int), u := -1 } : Fr) = f := by rw [← hnx, ← hu]
  have ha := hok.set (by simp)
  simp only at ha
  have h5 := h.hR
  have h6 := h.lR
  obtain ⟨ma, rfl⟩ : ∃ m : Nat, a = (m : Int) := ⟨a.toNat, by omega⟩
  have hrb := hok.reg (by simp)
  simp only at hrb
  obtain ⟨mb, rfl⟩ : ∃ m : Nat, b = (m : Int) := ⟨b.toNat, by omega⟩
  have hbb : -1000000000 ≤ (mb : Int) ∧ (mb : Int) ≤ 1000000000 := by omega
  have hvb := val_bd (E := E) (x := ⟨4, (ma : Int), (mb : Int), c⟩) (r := r) (s := s) hbb.1 hbb.2 h.Br h.Bs
  have hv : val E ⟨4, (ma : Int), (mb : Int), c⟩ r s = bit (r.getD mb 0 == 0) := by rfl
  rw [hv] at hvb
  refine (notI w0.heap.size F f r s w h.ok h.hB h.bF h.bR h.bS h.lR 4 c ma mb (by omega) (by omega)).mono ?_
  rintro e w' ⟨he, ho, ht⟩
  refine ⟨he, k + 1, -1, r.set ma (bit (r.getD mb 0 == 0)), s, by omega, by omega, ?_, ht, Or.inl ⟨rfl, fun fl => ?_⟩⟩
  · exact h.step (by rw [hf]; exact ho) ht (h.Br.set hvb.1 hvb.2) h.Bs
  · rw [exec, if_neg (by omega), hB]; dsimp only; rw [if_neg (by omega)]; rw [if_neg (by omega)]; rw [if_neg (by omega)]; rw [if_neg (by omega)]; rw [if_neg (by omega)]; rw [hv, Int.toNat_natCast]

theorem st5 (w0 w : World) (F : Nat) (f : Fr) (r s : List Int) (mp : Mp) (E : En) (R S : Int) (B : Nat → Is) (n k : Nat) (h : Run w0 w F f r s mp E R S) (hk : k < n) (hnx : f.nx = ((k + 1 : Nat) : Int)) (hu : f.u = -1) (a b c : Int) (hB : B k = ⟨5, a, b, c⟩) (hok : OkI R S k n ⟨5, a, b, c⟩) :
    Calls Tryz.prog 176 #[.pointer (some ⟨F, 0, none⟩), .agg #[.int .i64 5, .int .i64 a, .int .i64 b, .int .i64 c], .pointer (some ⟨mp.k5, 0, none⟩)] w (StP w0 F f r s mp E R S B n k w) := by
  have hf : ({ f with nx := ((k + 1 : Nat) : Int), u := -1 } : Fr) = f := by rw [← hnx, ← hu]
  have ha := hok.set (by simp)
  simp only at ha
  have h5 := h.hR
  have h6 := h.lR
  obtain ⟨ma, rfl⟩ : ∃ m : Nat, a = (m : Int) := ⟨a.toNat, by omega⟩
  have hrb := hok.reg (by simp)
  simp only at hrb
  obtain ⟨mb, rfl⟩ : ∃ m : Nat, b = (m : Int) := ⟨b.toNat, by omega⟩
  have hbb : -1000000000 ≤ (mb : Int) ∧ (mb : Int) ≤ 1000000000 := by omega
  have hrc := hok.two (by simp)
  simp only at hrc
  obtain ⟨mc, rfl⟩ : ∃ m : Nat, c = (m : Int) := ⟨c.toNat, by omega⟩
  have hvb := val_bd (E := E) (x := ⟨5, (ma : Int), (mb : Int), (mc : Int)⟩) (r := r) (s := s) hbb.1 hbb.2 h.Br h.Bs
  have hv : val E ⟨5, (ma : Int), (mb : Int), (mc : Int)⟩ r s = smul (r.getD mb 0) (r.getD mc 0) := by simp [val, gt_nat]
  rw [hv] at hvb
  refine (pair5 w0.heap.size F f r s w h.ok h.hB h.bF h.bR h.bS h.lR 5 ma mb mc (by omega) (by omega) (by omega) _ _ rfl rfl mp.k5 (blk_cell h.b5.blk 0) (h.Br mb).1 (h.Br mb).2 (h.Br mc).1 (h.Br mc).2).mono ?_
  rintro e w' ⟨he, ho, ht⟩
  refine ⟨he, k + 1, -1, r.set ma (smul (r.getD mb 0) (r.getD mc 0)), s, by omega, by omega, ?_, ht, Or.inl ⟨rfl, fun fl => ?_⟩⟩
  · exact h.step (by rw [hf]; exact ho) ht (h.Br.set hvb.1 hvb.2) h.Bs
  · rw [exec, if_neg (by omega), hB]; dsimp only; rw [if_neg (by omega)]; rw [if_neg (by omega)]; rw [if_neg (by omega)]; rw [if_neg (by omega)]; rw [if_neg (by omega)]; rw [hv, Int.toNat_natCast]

theorem st6 (w0 w : World) (F : Nat) (f : Fr) (r s : List Int) (mp : Mp) (E : En) (R S : Int) (B : Nat → Is) (n k : Nat) (h : Run w0 w F f r s mp E R S) (hk : k < n) (hnx : f.nx = ((k + 1 : Nat) : Int)) (hu : f.u = -1) (a b c : Int) (hB : B k = ⟨6, a, b, c⟩) (hok : OkI R S k n ⟨6, a, b, c⟩) :
    Calls Tryz.prog 176 #[.pointer (some ⟨F, 0, none⟩), .agg #[.int .i64 6, .int .i64 a, .int .i64 b, .int .i64 c], .pointer (some ⟨mp.k6, 0, none⟩)] w (StP w0 F f r s mp E R S B n k w) := by
  have hf : ({ f with nx := ((k + 1 : Nat) : Int), u := -1 } : Fr) = f := by rw [← hnx, ← hu]
  have ha := hok.set (by simp)
  simp only at ha
  have h5 := h.hR
  have h6 := h.lR
  obtain ⟨ma, rfl⟩ : ∃ m : Nat, a = (m : Int) := ⟨a.toNat, by omega⟩
  have hrb := hok.reg (by simp)
  simp only at hrb
  obtain ⟨mb, rfl⟩ : ∃ m : Nat, b = (m : Int) := ⟨b.toNat, by omega⟩
  have hbb : -1000000000 ≤ (mb : Int) ∧ (mb : Int) ≤ 1000000000 := by omega
  have hrc := hok.two (by simp)
  simp only at hrc
  obtain ⟨mc, rfl⟩ : ∃ m : Nat, c = (m : Int) := ⟨c.toNat, by omega⟩
  have hvb := val_bd (E := E) (x := ⟨6, (ma : Int), (mb : Int), (mc : Int)⟩) (r := r) (s := s) hbb.1 hbb.2 h.Br h.Bs
  have hv : val E ⟨6, (ma : Int), (mb : Int), (mc : Int)⟩ r s = sadd (r.getD mb 0) (r.getD mc 0) := by simp [val, gt_nat]
  rw [hv] at hvb
  refine (pair6 w0.heap.size F f r s w h.ok h.hB h.bF h.bR h.bS h.lR 6 ma mb mc (by omega) (by omega) (by omega) _ _ rfl rfl mp.k6 (blk_cell h.b6.blk 0) (h.Br mb).1 (h.Br mb).2 (h.Br mc).1 (h.Br mc).2).mono ?_
  rintro e w' ⟨he, ho, ht⟩
  refine ⟨he, k + 1, -1, r.set ma (sadd (r.getD mb 0) (r.getD mc 0)), s, by omega, by omega, ?_, ht, Or.inl ⟨rfl, fun fl => ?_⟩⟩
  · exact h.step (by rw [hf]; exact ho) ht (h.Br.set hvb.1 hvb.2) h.Bs
  · rw [exec, if_neg (by omega), hB]; dsimp only; rw [if_neg (by omega)]; rw [if_neg (by omega)]; rw [if_neg (by omega)]; rw [if_neg (by omega)]; rw [if_neg (by omega)]; rw [hv, Int.toNat_natCast]

theorem st7 (w0 w : World) (F : Nat) (f : Fr) (r s : List Int) (mp : Mp) (E : En) (R S : Int) (B : Nat → Is) (n k : Nat) (h : Run w0 w F f r s mp E R S) (hk : k < n) (hnx : f.nx = ((k + 1 : Nat) : Int)) (hu : f.u = -1) (a b c : Int) (hB : B k = ⟨7, a, b, c⟩) (hok : OkI R S k n ⟨7, a, b, c⟩) :
    Calls Tryz.prog 176 #[.pointer (some ⟨F, 0, none⟩), .agg #[.int .i64 7, .int .i64 a, .int .i64 b, .int .i64 c], .pointer (some ⟨mp.k7, 0, none⟩)] w (StP w0 F f r s mp E R S B n k w) := by
  have hf : ({ f with nx := ((k + 1 : Nat) : Int), u := -1 } : Fr) = f := by rw [← hnx, ← hu]
  have ha := hok.set (by simp)
  simp only at ha
  have h5 := h.hR
  have h6 := h.lR
  obtain ⟨ma, rfl⟩ : ∃ m : Nat, a = (m : Int) := ⟨a.toNat, by omega⟩
  have hrb := hok.reg (by simp)
  simp only at hrb
  obtain ⟨mb, rfl⟩ : ∃ m : Nat, b = (m : Int) := ⟨b.toNat, by omega⟩
  have hbb : -1000000000 ≤ (mb : Int) ∧ (mb : Int) ≤ 1000000000 := by omega
  have hrc := hok.two (by simp)
  simp only at hrc
  obtain ⟨mc, rfl⟩ : ∃ m : Nat, c = (m : Int) := ⟨c.toNat, by omega⟩
  have hvb := val_bd (E := E) (x := ⟨7, (ma : Int), (mb : Int), (mc : Int)⟩) (r := r) (s := s) hbb.1 hbb.2 h.Br h.Bs
  have hv : val E ⟨7, (ma : Int), (mb : Int), (mc : Int)⟩ r s = sadd (r.getD mb 0) (-r.getD mc 0) := by simp [val, gt_nat]
  rw [hv] at hvb
  refine (pair7 w0.heap.size F f r s w h.ok h.hB h.bF h.bR h.bS h.lR 7 ma mb mc (by omega) (by omega) (by omega) _ _ rfl rfl mp.k7 (blk_cell h.b7.blk 0) (h.Br mb).1 (h.Br mb).2 (h.Br mc).1 (h.Br mc).2).mono ?_
  rintro e w' ⟨he, ho, ht⟩
  refine ⟨he, k + 1, -1, r.set ma (sadd (r.getD mb 0) (-r.getD mc 0)), s, by omega, by omega, ?_, ht, Or.inl ⟨rfl, fun fl => ?_⟩⟩
  · exact h.step (by rw [hf]; exact ho) ht (h.Br.set hvb.1 hvb.2) h.Bs
  · rw [exec, if_neg (by omega), hB]; dsimp only; rw [if_neg (by omega)]; rw [if_neg (by omega)]; rw [if_neg (by omega)]; rw [if_neg (by omega)]; rw [if_neg (by omega)]; rw [hv, Int.toNat_natCast]

theorem st8 (w0 w : World) (F : Nat) (f : Fr) (r s : List Int) (mp : Mp) (E : En) (R S : Int) (B : Nat → Is) (n k : Nat) (h : Run w0 w F f r s mp E R S) (hk : k < n) (hnx : f.nx = ((k + 1 : Nat) : Int)) (hu : f.u = -1) (a b c : Int) (hB : B k = ⟨8, a, b, c⟩) (hok : OkI R S k n ⟨8, a, b, c⟩) :
    Calls Tryz.prog 176 #[.pointer (some ⟨F, 0, none⟩), .agg #[.int .i64 8, .int .i64 a, .int .i64 b, .int .i64 c], .pointer (some ⟨mp.k8, 0, none⟩)] w (StP w0 F f r s mp E R S B n k w) := by
  have hf : ({ f with nx := ((k + 1 : Nat) : Int), u := -1 } : Fr) = f := by rw [← hnx, ← hu]
  have ha := hok.set (by simp)
  simp only at ha
  have h5 := h.hR
  have h6 := h.lR
  obtain ⟨ma, rfl⟩ : ∃ m : Nat, a = (m : Int) := ⟨a.toNat, by omega⟩
  have hrb := hok.reg (by simp)
  simp only at hrb
  obtain ⟨mb, rfl⟩ : ∃ m : Nat, b = (m : Int) := ⟨b.toNat, by omega⟩
  have hbb : -1000000000 ≤ (mb : Int) ∧ (mb : Int) ≤ 1000000000 := by omega
  have hrc := hok.two (by simp)
  simp only at hrc
  obtain ⟨mc, rfl⟩ : ∃ m : Nat, c = (m : Int) := ⟨c.toNat, by omega⟩
  have hvb := val_bd (E := E) (x := ⟨8, (ma : Int), (mb : Int), (mc : Int)⟩) (r := r) (s := s) hbb.1 hbb.2 h.Br h.Bs
  have hv : val E ⟨8, (ma : Int), (mb : Int), (mc : Int)⟩ r s = bit (decide (r.getD mb 0 < r.getD mc 0)) := by simp [val, gt_nat]
  rw [hv] at hvb
  refine (pair8 w0.heap.size F f r s w h.ok h.hB h.bF h.bR h.bS h.lR 8 ma mb mc (by omega) (by omega) (by omega) _ _ rfl rfl mp.k8 (blk_cell h.b8.blk 0) (h.Br mb).1 (h.Br mb).2 (h.Br mc).1 (h.Br mc).2).mono ?_
  rintro e w' ⟨he, ho, ht⟩
  refine ⟨he, k + 1, -1, r.set ma (bit (decide (r.getD mb 0 < r.getD mc 0))), s, by omega, by omega, ?_, ht, Or.inl ⟨rfl, fun fl => ?_⟩⟩
  · exact h.step (by rw [hf]; exact ho) ht (h.Br.set hvb.1 hvb.2) h.Bs
  · rw [exec, if_neg (by omega), hB]; dsimp only; rw [if_neg (by omega)]; rw [if_neg (by omega)]; rw [if_neg (by omega)]; rw [if_neg (by omega)]; rw [if_neg (by omega)]; rw [hv, Int.toNat_natCast]

theorem st9 (w0 w : World) (F : Nat) (f : Fr) (r s : List Int) (mp : Mp) (E : En) (R S : Int) (B : Nat → Is) (n k : Nat) (h : Run w0 w F f r s mp E R S) (hk : k < n) (hnx : f.nx = ((k + 1 : Nat) : Int)) (hu : f.u = -1) (a b c : Int) (hB : B k = ⟨9, a, b, c⟩) (hok : OkI R S k n ⟨9, a, b, c⟩) :
    Calls Tryz.prog 176 #[.pointer (some ⟨F, 0, none⟩), .agg #[.int .i64 9, .int .i64 a, .int .i64 b, .int .i64 c], .pointer (some ⟨mp.k9, 0, none⟩)] w (StP w0 F f r s mp E R S B n k w) := by
  have hf : ({ f with nx := ((k + 1 : Nat) : Int), u := -1 } : Fr) = f := by rw [← hnx, ← hu]
  have ha := hok.set (by simp)
  simp only at ha
  have h5 := h.hR
  have h6 := h.lR
  obtain ⟨ma, rfl⟩ : ∃ m : Nat, a = (m : Int) := ⟨a.toNat, by omega⟩
  have hrb := hok.reg (by simp)
  simp only at hrb
  obtain ⟨mb, rfl⟩ : ∃ m : Nat, b = (m : Int) := ⟨b.toNat, by omega⟩
  have hbb : -1000000000 ≤ (mb : Int) ∧ (mb : Int) ≤ 1000000000 := by omega
  have hrc := hok.two (by simp)
  simp only at hrc
  obtain ⟨mc, rfl⟩ : ∃ m : Nat, c = (m : Int) := ⟨c.toNat, by omega⟩
  have hvb := val_bd (E := E) (x := ⟨9, (ma : Int), (mb : Int), (mc : Int)⟩) (r := r) (s := s) hbb.1 hbb.2 h.Br h.Bs
  have hv : val E ⟨9, (ma : Int), (mb : Int), (mc : Int)⟩ r s = bit (decide (r.getD mb 0 ≤ r.getD mc 0)) := by simp [val, gt_nat]
  rw [hv] at hvb
  refine (pair9 w0.heap.size F f r s w h.ok h.hB h.bF h.bR h.bS h.lR 9 ma mb mc (by omega) (by omega) (by omega) _ _ rfl rfl mp.k9 (blk_cell h.b9.blk 0) (h.Br mb).1 (h.Br mb).2 (h.Br mc).1 (h.Br mc).2).mono ?_
  rintro e w' ⟨he, ho, ht⟩
  refine ⟨he, k + 1, -1, r.set ma (bit (decide (r.getD mb 0 ≤ r.getD mc 0))), s, by omega, by omega, ?_, ht, Or.inl ⟨rfl, fun fl => ?_⟩⟩
  · exact h.step (by rw [hf]; exact ho) ht (h.Br.set hvb.1 hvb.2) h.Bs
  · rw [exec, if_neg (by omega), hB]; dsimp only; rw [if_neg (by omega)]; rw [if_neg (by omega)]; rw [if_neg (by omega)]; rw [if_neg (by omega)]; rw [if_neg (by omega)]; rw [hv, Int.toNat_natCast]

theorem st10 (w0 w : World) (F : Nat) (f : Fr) (r s : List Int) (mp : Mp) (E : En) (R S : Int) (B : Nat → Is) (n k : Nat) (h : Run w0 w F f r s mp E R S) (hk : k < n) (hnx : f.nx = ((k + 1 : Nat) : Int)) (hu : f.u = -1) (a b c : Int) (hB : B k = ⟨10, a, b, c⟩) (hok : OkI R S k n ⟨10, a, b, c⟩) :
    Calls Tryz.prog 176 #[.pointer (some ⟨F, 0, none⟩), .agg #[.int .i64 10, .int .i64 a, .int .i64 b, .int .i64 c], .pointer (some ⟨mp.k10, 0, none⟩)] w (StP w0 F f r s mp E R S B n k w) := by
  have hf : ({ f with nx := ((k + 1 : Nat) : Int), u := -1 } : Fr) = f := by rw [← hnx, ← hu]
  have ha := hok.set (by simp)
  simp only at ha
  have h5 := h.hR
  have h6 := h.lR
  obtain ⟨ma, rfl⟩ : ∃ m : Nat, a = (m : Int) := ⟨a.toNat, by omega⟩
  have hrb := hok.reg (by simp)
  simp only at hrb
  obtain ⟨mb, rfl⟩ : ∃ m : Nat, b = (m : Int) := ⟨b.toNat, by omega⟩
  have hbb : -1000000000 ≤ (mb : Int) ∧ (mb : Int) ≤ 1000000000 := by omega
  have hrc := hok.two (by simp)
  simp only at hrc
  obtain ⟨mc, rfl⟩ : ∃ m : Nat, c = (m : Int) := ⟨c.toNat, by omega⟩
  have hvb := val_bd (E := E) (x := ⟨10, (ma : Int), (mb : Int), (mc : Int)⟩) (r := r) (s := s) hbb.1 hbb.2 h.Br h.Bs
  have hv : val E ⟨10, (ma : Int), (mb : Int), (mc : Int)⟩ r s = bit (r.getD mb 0 == r.getD mc 0) := by simp [val, gt_nat]
  rw [hv] at hvb
  refine (pair10 w0.heap.size F f r s w h.ok h.hB h.bF h.bR h.bS h.lR 10 ma mb mc (by omega) (by omega) (by omega) _ _ rfl rfl mp.k10 (blk_cell h.b10.blk 0) (h.Br mb).1 (h.Br mb).2 (h.Br mc).1 (h.Br mc).2).mono ?_
  rintro e w' ⟨he, ho, ht⟩
  refine ⟨he, k + 1, -1, r.set ma (bit (r.getD mb 0 == r.getD mc 0)), s, by omega, by omega, ?_, ht, Or.inl ⟨rfl, fun fl => ?_⟩⟩
  · exact h.step (by rw [hf]; exact ho) ht (h.Br.set hvb.1 hvb.2) h.Bs
  · rw [exec, if_neg (by omega), hB]; dsimp only; rw [if_neg (by omega)]; rw [if_neg (by omega)]; rw [if_neg (by omega)]; rw [if_neg (by omega)]; rw [if_neg (by omega)]; rw [hv, Int.toNat_natCast]

theorem st11 (w0 w : World) (F : Nat) (f : Fr) (r s : List Int) (mp : Mp) (E : En) (R S : Int) (B : Nat → Is) (n k : Nat) (h : Run w0 w F f r s mp E R S) (hk : k < n) (hnx : f.nx = ((k + 1 : Nat) : Int)) (hu : f.u = -1) (a b c : Int) (hB : B k = ⟨11, a, b, c⟩) (hok : OkI R S k n ⟨11, a, b, c⟩) :
    Calls Tryz.prog 176 #[.pointer (some ⟨F, 0, none⟩), .agg #[.int .i64 11, .int .i64 a, .int .i64 b, .int .i64 c], .pointer (some ⟨mp.k11, 0, none⟩)] w (StP w0 F f r s mp E R S B n k w) := by
  have hf : ({ f with nx := ((k + 1 : Nat) : Int), u := -1 } : Fr) = f := by rw [← hnx, ← hu]
  have ha := hok.set (by simp)
  simp only at ha
  have h5 := h.hR
  have h6 := h.lR
  obtain ⟨ma, rfl⟩ : ∃ m : Nat, a = (m : Int) := ⟨a.toNat, by omega⟩
  have hrb := hok.reg (by simp)
  simp only at hrb
  obtain ⟨mb, rfl⟩ : ∃ m : Nat, b = (m : Int) := ⟨b.toNat, by omega⟩
  have hbb : -1000000000 ≤ (mb : Int) ∧ (mb : Int) ≤ 1000000000 := by omega
  have hrc := hok.two (by simp)
  simp only at hrc
  obtain ⟨mc, rfl⟩ : ∃ m : Nat, c = (m : Int) := ⟨c.toNat, by omega⟩
  have hvb := val_bd (E := E) (x := ⟨11, (ma : Int), (mb : Int), (mc : Int)⟩) (r := r) (s := s) hbb.1 hbb.2 h.Br h.Bs
  have hv : val E ⟨11, (ma : Int), (mb : Int), (mc : Int)⟩ r s = min (r.getD mb 0) (r.getD mc 0) := by simp [val, gt_nat]
  rw [hv] at hvb
  refine (pair11 w0.heap.size F f r s w h.ok h.hB h.bF h.bR h.bS h.lR 11 ma mb mc (by omega) (by omega) (by omega) _ _ rfl rfl mp.k11 (blk_cell h.b11.blk 0) (h.Br mb).1 (h.Br mb).2 (h.Br mc).1 (h.Br mc).2).mono ?_
  rintro e w' ⟨he, ho, ht⟩
  refine ⟨he, k + 1, -1, r.set ma (min (r.getD mb 0) (r.getD mc 0)), s, by omega, by omega, ?_, ht, Or.inl ⟨rfl, fun fl => ?_⟩⟩
  · exact h.step (by rw [hf]; exact ho) ht (h.Br.set hvb.1 hvb.2) h.Bs
  · rw [exec, if_neg (by omega), hB]; dsimp only; rw [if_neg (by omega)]; rw [if_neg (by omega)]; rw [if_neg (by omega)]; rw [if_neg (by omega)]; rw [if_neg (by omega)]; rw [hv, Int.toNat_natCast]

theorem st12 (w0 w : World) (F : Nat) (f : Fr) (r s : List Int) (mp : Mp) (E : En) (R S : Int) (B : Nat → Is) (n k : Nat) (h : Run w0 w F f r s mp E R S) (hk : k < n) (hnx : f.nx = ((k + 1 : Nat) : Int)) (hu : f.u = -1) (a b c : Int) (hB : B k = ⟨12, a, b, c⟩) (hok : OkI R S k n ⟨12, a, b, c⟩) :
    Calls Tryz.prog 176 #[.pointer (some ⟨F, 0, none⟩), .agg #[.int .i64 12, .int .i64 a, .int .i64 b, .int .i64 c], .pointer (some ⟨mp.k12, 0, none⟩)] w (StP w0 F f r s mp E R S B n k w) := by
  have hf : ({ f with nx := ((k + 1 : Nat) : Int), u := -1 } : Fr) = f := by rw [← hnx, ← hu]
  have ha := hok.set (by simp)
  simp only at ha
  have h5 := h.hR
  have h6 := h.lR
  obtain ⟨ma, rfl⟩ : ∃ m : Nat, a = (m : Int) := ⟨a.toNat, by omega⟩
  have hrb := hok.reg (by simp)
  simp only at hrb
  obtain ⟨mb, rfl⟩ : ∃ m : Nat, b = (m : Int) := ⟨b.toNat, by omega⟩
  have hbb : -1000000000 ≤ (mb : Int) ∧ (mb : Int) ≤ 1000000000 := by omega
  have hrc := hok.two (by simp)
  simp only at hrc
  obtain ⟨mc, rfl⟩ : ∃ m : Nat, c = (m : Int) := ⟨c.toNat, by omega⟩
  have hvb := val_bd (E := E) (x := ⟨12, (ma : Int), (mb : Int), (mc : Int)⟩) (r := r) (s := s) hbb.1 hbb.2 h.Br h.Bs
  have hv : val E ⟨12, (ma : Int), (mb : Int), (mc : Int)⟩ r s = max (r.getD mb 0) (r.getD mc 0) := by simp [val, gt_nat]
  rw [hv] at hvb
  refine (pair12 w0.heap.size F f r s w h.ok h.hB h.bF h.bR h.bS h.lR 12 ma mb mc (by omega) (by omega) (by omega) _ _ rfl rfl mp.k12 (blk_cell h.b12.blk 0) (h.Br mb).1 (h.Br mb).2 (h.Br mc).1 (h.Br mc).2).mono ?_
  rintro e w' ⟨he, ho, ht⟩
  refine ⟨he, k + 1, -1, r.set ma (max (r.getD mb 0) (r.getD mc 0)), s, by omega, by omega, ?_, ht, Or.inl ⟨rfl, fun fl => ?_⟩⟩
  · exact h.step (by rw [hf]; exact ho) ht (h.Br.set hvb.1 hvb.2) h.Bs
  · rw [exec, if_neg (by omega), hB]; dsimp only; rw [if_neg (by omega)]; rw [if_neg (by omega)]; rw [if_neg (by omega)]; rw [if_neg (by omega)]; rw [if_neg (by omega)]; rw [hv, Int.toNat_natCast]

theorem st13 (w0 w : World) (F : Nat) (f : Fr) (r s : List Int) (mp : Mp) (E : En) (R S : Int) (B : Nat → Is) (n k : Nat) (h : Run w0 w F f r s mp E R S) (hk : k < n) (hnx : f.nx = ((k + 1 : Nat) : Int)) (hu : f.u = -1) (a b c : Int) (hB : B k = ⟨13, a, b, c⟩) (hok : OkI R S k n ⟨13, a, b, c⟩) :
    Calls Tryz.prog 152 #[.pointer (some ⟨F, 0, none⟩), .agg #[.int .i64 13, .int .i64 a, .int .i64 b, .int .i64 c]] w (StP w0 F f r s mp E R S B n k w) := by
  have hf : ({ f with nx := ((k + 1 : Nat) : Int), u := -1 } : Fr) = f := by rw [← hnx, ← hu]
  have ha := hok.set (by simp)
  simp only at ha
  have h5 := h.hR
  have h6 := h.lR
  obtain ⟨ma, rfl⟩ : ∃ m : Nat, a = (m : Int) := ⟨a.toNat, by omega⟩
  have hbt := hok.tag (by simp)
  simp only at hbt
  have hbb : -1000000000 ≤ b ∧ b ≤ 1000000000 := by omega
  obtain ⟨q0, q1, hQ, t0, t1, s0, s1⟩ := h.hE
  have hvb := val_bd (E := E) (x := ⟨13, (ma : Int), b, c⟩) (r := r) (s := s) hbb.1 hbb.2 h.Br h.Bs
  by_cases hq : E.q < 0
  · have hv : val E ⟨13, (ma : Int), b, c⟩ r s = 0 := by unfold val; simp [hq]
    rw [hv] at hvb
    refine (tagNo w0.heap.size F f r s w h.ok h.hB h.bF h.bR h.bS h.lR mp 0 h.hM h.mR h.mS h.inst 13 b c ma (by omega) (by rw [h.hq]; omega)).mono ?_
    rintro e w' ⟨he, ho, ht⟩
    refine ⟨he, k + 1, -1, r.set ma 0, s, by omega, by omega, ?_, ht, Or.inl ⟨rfl, fun fl => ?_⟩⟩
    · exact h.step (by rw [hf]; exact ho) ht (h.Br.set hvb.1 hvb.2) h.Bs
    · rw [exec, if_neg (by omega), hB]; dsimp only; rw [if_neg (by omega)]; rw [if_neg (by omega)]; rw [if_neg (by omega)]; rw [if_neg (by omega)]; rw [if_neg (by omega)]; rw [hv, Int.toNat_natCast]
  · obtain ⟨q, hq'⟩ : ∃ q : Nat, E.q = (q : Int) := ⟨E.q.toNat, by omega⟩
    have htg := h.tag q hq'
    have hv : val E ⟨13, (ma : Int), b, c⟩ r s = bit (hasB (mp.I.Q q).b b) := by unfold val; rw [← htg]; simp [hq]
    rw [hv] at hvb
    rw [htg] at t0 t1
    have h7 := h.eQ
    refine (tagAt w0.heap.size F f r s w h.ok h.hB h.bF h.bR h.bS h.lR mp 0 h.hM h.mR h.mS h.inst 13 b c ma (by omega) q (by rw [h.hq, hq']) (by omega) t0 t1 hbt.1 hbt.2).mono ?_
    rintro e w' ⟨he, ho, ht⟩
    refine ⟨he, k + 1, -1, r.set ma (bit (hasB (mp.I.Q q).b b)), s, by omega, by omega, ?_, ht, Or.inl ⟨rfl, fun fl => ?_⟩⟩
    · exact h.step (by rw [hf]; exact ho) ht (h.Br.set hvb.1 hvb.2) h.Bs
    · rw [exec, if_neg (by omega), hB]; dsimp only; rw [if_neg (by omega)]; rw [if_neg (by omega)]; rw [if_neg (by omega)]; rw [if_neg (by omega)]; rw [if_neg (by omega)]; rw [hv, Int.toNat_natCast]

theorem st14 (w0 w : World) (F : Nat) (f : Fr) (r s : List Int) (mp : Mp) (E : En) (R S : Int) (B : Nat → Is) (n k : Nat) (h : Run w0 w F f r s mp E R S) (hk : k < n) (hnx : f.nx = ((k + 1 : Nat) : Int)) (hu : f.u = -1) (a b c : Int) (hB : B k = ⟨14, a, b, c⟩) (hok : OkI R S k n ⟨14, a, b, c⟩) :
    Calls Tryz.prog 154 #[.pointer (some ⟨F, 0, none⟩), .agg #[.int .i64 14, .int .i64 a, .int .i64 b, .int .i64 c]] w (StP w0 F f r s mp E R S B n k w) := by
  have hf : ({ f with nx := ((k + 1 : Nat) : Int), u := -1 } : Fr) = f := by rw [← hnx, ← hu]
  have ha := hok.set (by simp)
  simp only at ha
  have h5 := h.hR
  have h6 := h.lR
  obtain ⟨ma, rfl⟩ : ∃ m : Nat, a = (m : Int) := ⟨a.toNat, by omega⟩
  have hbt := hok.tag (by simp)
  simp only at hbt
  have hbb : -1000000000 ≤ b ∧ b ≤ 1000000000 := by omega
  obtain ⟨q0, q1, hQ, t0, t1, s0, s1⟩ := h.hE
  have hvb := val_bd (E := E) (x := ⟨14, (ma : Int), b, c⟩) (r := r) (s := s) hbb.1 hbb.2 h.Br h.Bs
  have hv : val E ⟨14, (ma : Int), b, c⟩ r s = bit (hasB (mp.I.V mp.v.toNat).b b) := by unfold val; rw [← h.ski]; rfl
  rw [hv] at hvb
  refine (skillAt w0.heap.size F f r s w h.ok h.hB h.bF h.bR h.bS h.lR mp 0 h.hM h.mR h.mS h.inst 14 b c ma (by omega) mp.v.toNat (by have := h.v0; omega) (by have := h.v0; have := h.v1; omega) (by rw [← h.ski]; exact s0) (by rw [← h.ski]; exact s1) hbt.1 hbt.2).mono ?_
  rintro e w' ⟨he, ho, ht⟩
  refine ⟨he, k + 1, -1, r.set ma (bit (hasB (mp.I.V mp.v.toNat).b b)), s, by omega, by omega, ?_, ht, Or.inl ⟨rfl, fun fl => ?_⟩⟩
  · exact h.step (by rw [hf]; exact ho) ht (h.Br.set hvb.1 hvb.2) h.Bs
  · rw [exec, if_neg (by omega), hB]; dsimp only; rw [if_neg (by omega)]; rw [if_neg (by omega)]; rw [if_neg (by omega)]; rw [if_neg (by omega)]; rw [if_neg (by omega)]; rw [hv, Int.toNat_natCast]

theorem st15 (w0 w : World) (F : Nat) (f : Fr) (r s : List Int) (mp : Mp) (E : En) (R S : Int) (B : Nat → Is) (n k : Nat) (h : Run w0 w F f r s mp E R S) (hk : k < n) (hnx : f.nx = ((k + 1 : Nat) : Int)) (hu : f.u = -1) (a b c : Int) (hB : B k = ⟨15, a, b, c⟩) (hok : OkI R S k n ⟨15, a, b, c⟩) :
    Calls Tryz.prog 156 #[.pointer (some ⟨F, 0, none⟩), .agg #[.int .i64 15, .int .i64 a, .int .i64 b, .int .i64 c]] w (StP w0 F f r s mp E R S B n k w) := by
  have hf : ({ f with nx := ((k + 1 : Nat) : Int), u := -1 } : Fr) = f := by rw [← hnx, ← hu]
  have ha := hok.tst (by simp)
  have hj := hok.jmp (by simp)
  simp only at ha hj
  have h5 := h.hR
  have h6 := h.lR
  obtain ⟨ma, rfl⟩ : ∃ m : Nat, a = (m : Int) := ⟨a.toNat, by omega⟩
  obtain ⟨mb, rfl⟩ : ∃ m : Nat, b = (m : Int) := ⟨b.toNat, by omega⟩
  by_cases hz : r.getD ma 0 = 0
  · have hz0 : r.getD ma 0 = 0 := hz
    refine (jzT w0.heap.size F f r s w h.ok h.hB h.bF h.bR h.bS h.lR 15 (mb : Int) c ma (by omega) hz0).mono ?_
    rintro e w' ⟨he, ho, ht⟩
    refine ⟨he, mb, -1, r, s, by omega, by omega, ?_, ht, Or.inl ⟨rfl, fun fl => ?_⟩⟩
    · have e1 : ({ f with nx := (mb : Int), u := -1 } : Fr) = { f with nx := (mb : Int) } := by rw [← hu]
      exact h.step (by rw [e1]; exact ho) ht h.Br h.Bs
    · rw [exec, if_neg (by omega), hB]; dsimp only; rw [if_neg (by omega)]; rw [if_pos rfl, gt_nat, if_pos hz0]; rfl
  · have hz0 : ¬ r.getD ma 0 = 0 := hz
    refine (jzF w0.heap.size F f r s w h.ok h.hB h.bF h.bR h.bS h.lR 15 (mb : Int) c ma (by omega) hz0).mono ?_
    rintro e w' ⟨he, ho, ht⟩
    refine ⟨he, k + 1, -1, r, s, by omega, by omega, ?_, ht, Or.inl ⟨rfl, fun fl => ?_⟩⟩
    · exact h.step (by rw [hf]; exact ho) ht h.Br h.Bs
    · rw [exec, if_neg (by omega), hB]; dsimp only; rw [if_neg (by omega)]; rw [if_pos rfl, gt_nat, if_neg hz0]

theorem st16 (w0 w : World) (F : Nat) (f : Fr) (r s : List Int) (mp : Mp) (E : En) (R S : Int) (B : Nat → Is) (n k : Nat) (h : Run w0 w F f r s mp E R S) (hk : k < n) (hnx : f.nx = ((k + 1 : Nat) : Int)) (hu : f.u = -1) (a b c : Int) (hB : B k = ⟨16, a, b, c⟩) (hok : OkI R S k n ⟨16, a, b, c⟩) :
    Calls Tryz.prog 158 #[.pointer (some ⟨F, 0, none⟩), .agg #[.int .i64 16, .int .i64 a, .int .i64 b, .int .i64 c]] w (StP w0 F f r s mp E R S B n k w) := by
  have hf : ({ f with nx := ((k + 1 : Nat) : Int), u := -1 } : Fr) = f := by rw [← hnx, ← hu]
  have ha := hok.tst (by simp)
  have hj := hok.jmp (by simp)
  simp only at ha hj
  have h5 := h.hR
  have h6 := h.lR
  obtain ⟨ma, rfl⟩ : ∃ m : Nat, a = (m : Int) := ⟨a.toNat, by omega⟩
  obtain ⟨mb, rfl⟩ : ∃ m : Nat, b = (m : Int) := ⟨b.toNat, by omega⟩
  by_cases hz : r.getD ma 0 = 0
  · have hz0 : r.getD ma 0 = 0 := hz
    refine (jnzF w0.heap.size F f r s w h.ok h.hB h.bF h.bR h.bS h.lR 16 (mb : Int) c ma (by omega) hz0).mono ?_
    rintro e w' ⟨he, ho, ht⟩
    refine ⟨he, k + 1, -1, r, s, by omega, by omega, ?_, ht, Or.inl ⟨rfl, fun fl => ?_⟩⟩
    · exact h.step (by rw [hf]; exact ho) ht h.Br h.Bs
    · rw [exec, if_neg (by omega), hB]; dsimp only; rw [if_neg (by omega)]; rw [if_neg (by omega)]; rw [if_pos rfl, gt_nat, if_pos hz0]
  · have hz0 : ¬ r.getD ma 0 = 0 := hz
    refine (jnzT w0.heap.size F f r s w h.ok h.hB h.bF h.bR h.bS h.lR 16 (mb : Int) c ma (by omega) hz0).mono ?_
    rintro e w' ⟨he, ho, ht⟩
    refine ⟨he, mb, -1, r, s, by omega, by omega, ?_, ht, Or.inl ⟨rfl, fun fl => ?_⟩⟩
    · have e1 : ({ f with nx := (mb : Int), u := -1 } : Fr) = { f with nx := (mb : Int) } := by rw [← hu]
      exact h.step (by rw [e1]; exact ho) ht h.Br h.Bs
    · rw [exec, if_neg (by omega), hB]; dsimp only; rw [if_neg (by omega)]; rw [if_neg (by omega)]; rw [if_pos rfl, gt_nat, if_neg hz0]; rfl

theorem st17 (w0 w : World) (F : Nat) (f : Fr) (r s : List Int) (mp : Mp) (E : En) (R S : Int) (B : Nat → Is) (n k : Nat) (h : Run w0 w F f r s mp E R S) (hk : k < n) (hnx : f.nx = ((k + 1 : Nat) : Int)) (hu : f.u = -1) (a b c : Int) (hB : B k = ⟨17, a, b, c⟩) (hok : OkI R S k n ⟨17, a, b, c⟩) :
    Calls Tryz.prog 159 #[.pointer (some ⟨F, 0, none⟩), .agg #[.int .i64 17, .int .i64 a, .int .i64 b, .int .i64 c]] w (StP w0 F f r s mp E R S B n k w) := by
  have hf : ({ f with nx := ((k + 1 : Nat) : Int), u := -1 } : Fr) = f := by rw [← hnx, ← hu]
  have hj := hok.jmp (by simp)
  simp only at hj
  obtain ⟨mb, rfl⟩ : ∃ m : Nat, b = (m : Int) := ⟨b.toNat, by omega⟩
  refine (goI w0.heap.size F f r s w h.ok h.hB h.bF h.bR h.bS h.lR 17 a (mb : Int) c).mono ?_
  rintro e w' ⟨he, ho, ht⟩
  refine ⟨he, mb, -1, r, s, by omega, by omega, ?_, ht, Or.inl ⟨rfl, fun fl => ?_⟩⟩
  · have e1 : ({ f with nx := (mb : Int), u := -1 } : Fr) = { f with nx := (mb : Int) } := by rw [← hu]
    exact h.step (by rw [e1]; exact ho) ht h.Br h.Bs
  · rw [exec, if_neg (by omega), hB]; dsimp only; rw [if_pos rfl]; rfl

theorem st18 (w0 w : World) (F : Nat) (f : Fr) (r s : List Int) (mp : Mp) (E : En) (R S : Int) (B : Nat → Is) (n k : Nat) (h : Run w0 w F f r s mp E R S) (hk : k < n) (hnx : f.nx = ((k + 1 : Nat) : Int)) (hu : f.u = -1) (a b c : Int) (hB : B k = ⟨18, a, b, c⟩) (hok : OkI R S k n ⟨18, a, b, c⟩) :
    Calls Tryz.prog 160 #[.pointer (some ⟨F, 0, none⟩), .agg #[.int .i64 18, .int .i64 a, .int .i64 b, .int .i64 c]] w (StP w0 F f r s mp E R S B n k w) := by
  have hf : ({ f with nx := ((k + 1 : Nat) : Int), u := -1 } : Fr) = f := by rw [← hnx, ← hu]
  have ha := hok.tst (by simp)
  have hru := hok.rul (by simp)
  simp only at ha hru
  have h5 := h.hR
  have h6 := h.lR
  obtain ⟨ma, rfl⟩ : ∃ m : Nat, a = (m : Int) := ⟨a.toNat, by omega⟩
  by_cases hz : r.getD ma 0 = 0
  · refine (checkT w0.heap.size F f r s w h.ok h.hB h.bF h.bR h.bS h.lR 18 b c ma (by omega) hz).mono ?_
    rintro e w' ⟨he, ho, ht⟩
    refine ⟨he, k + 1, b, r, s, by omega, by omega, ?_, ht, Or.inr ⟨hru.1, fun fl => ?_⟩⟩
    · have e1 : ({ f with nx := ((k + 1 : Nat) : Int), u := b } : Fr) = { f with u := b } := by rw [← hnx]
      exact h.step (by rw [e1]; exact ho) ht h.Br h.Bs
    · rw [exec, if_neg (by omega), hB]; dsimp only; rw [if_neg (by omega)]; rw [if_neg (by omega)]; rw [if_neg (by omega)]; rw [if_pos rfl, gt_nat, if_pos hz]
  · refine (checkF w0.heap.size F f r s w h.ok h.hB h.bF h.bR h.bS h.lR 18 b c ma (by omega) hz).mono ?_
    rintro e w' ⟨he, ho, ht⟩
    refine ⟨he, k + 1, -1, r, s, by omega, by omega, ?_, ht, Or.inl ⟨rfl, fun fl => ?_⟩⟩
    · exact h.step (by rw [hf]; exact ho) ht h.Br h.Bs
    · rw [exec, if_neg (by omega), hB]; dsimp only; rw [if_neg (by omega)]; rw [if_neg (by omega)]; rw [if_neg (by omega)]; rw [if_pos rfl, gt_nat, if_neg hz]

theorem st19 (w0 w : World) (F : Nat) (f : Fr) (r s : List Int) (mp : Mp) (E : En) (R S : Int) (B : Nat → Is) (n k : Nat) (h : Run w0 w F f r s mp E R S) (hk : k < n) (hnx : f.nx = ((k + 1 : Nat) : Int)) (hu : f.u = -1) (a b c : Int) (hB : B k = ⟨19, a, b, c⟩) (hok : OkI R S k n ⟨19, a, b, c⟩) :
    Calls Tryz.prog 161 #[.pointer (some ⟨F, 0, none⟩), .agg #[.int .i64 19, .int .i64 a, .int .i64 b, .int .i64 c]] w (StP w0 F f r s mp E R S B n k w) := by
  have hf : ({ f with nx := ((k + 1 : Nat) : Int), u := -1 } : Fr) = f := by rw [← hnx, ← hu]
  have hsl := hok.slt (by simp)
  have hrb := hok.reg (by simp)
  simp only at hsl hrb
  have h5 := h.hR
  have h6 := h.lR
  obtain ⟨mb, rfl⟩ : ∃ m : Nat, b = (m : Int) := ⟨b.toNat, by omega⟩
  obtain ⟨q0, q1, hQ, t0, t1, s0, s1⟩ := h.hE
  by_cases hq : E.q < 0
  · refine (saveNo w0.heap.size F f r s w h.ok h.hB h.bF h.bR h.bS h.lR 19 a (mb : Int) c (by rw [h.hq]; omega)).mono ?_
    rintro e w' ⟨he, ho, ht⟩
    refine ⟨he, k + 1, -1, r, s, by omega, by omega, ?_, ht, Or.inl ⟨rfl, fun fl => ?_⟩⟩
    · exact h.step (by rw [hf]; exact ho) ht h.Br h.Bs
    · rw [exec, if_neg (by omega), hB]; dsimp only; rw [if_neg (by omega)]; rw [if_neg (by omega)]; rw [if_neg (by omega)]; rw [if_neg (by omega)]; rw [if_pos rfl, if_pos hq]
  · obtain ⟨q, hq'⟩ : ∃ q : Nat, E.q = (q : Int) := ⟨E.q.toNat, by omega⟩
    obtain ⟨j0, j1, j2, j3⟩ := slot_bd h.hS hsl.1 hsl.2 (by omega) q1 hQ h.S1
    obtain ⟨j, hj⟩ : ∃ j : Nat, a * (E.nQ : Int) + E.q = (j : Int) := ⟨(a * (E.nQ : Int) + E.q).toNat, by omega⟩
    have z1 : IntKind.i64.wrap (a * (mp.I.nQ : Int)) = a * (mp.I.nQ : Int) := by rw [← h.eQ, IntKind.wrap_i64]; omega
    have z2 : IntKind.i64.wrap (a * (mp.I.nQ : Int) + (q : Int)) = (j : Int) := by rw [← h.eQ, ← hq', IntKind.wrap_i64]; omega
    refine (saveAt w0.heap.size F f r s w h.ok h.hB h.bF h.bR h.bS h.lR mp h.hM h.mR h.mS 19 a c mb (by omega) q (by rw [h.hq, hq']) j (by omega) z1 z2).mono ?_
    rintro e w' ⟨he, ho, ht⟩
    refine ⟨he, k + 1, -1, r, s.set j (r.getD mb 0), by omega, by omega, ?_, ht, Or.inl ⟨rfl, fun fl => ?_⟩⟩
    · exact h.step (by rw [hf]; exact ho) ht h.Br (h.Bs.set (h.Br mb).1 (h.Br mb).2)
    · rw [exec, if_neg (by omega), hB]; dsimp only; rw [if_neg (by omega)]; rw [if_neg (by omega)]; rw [if_neg (by omega)]; rw [if_neg (by omega)]; rw [if_pos rfl, if_neg hq, hj]; rfl

theorem st20 (w0 w : World) (F : Nat) (f : Fr) (r s : List Int) (mp : Mp) (E : En) (R S : Int) (B : Nat → Is) (n k : Nat) (h : Run w0 w F f r s mp E R S) (hk : k < n) (hnx : f.nx = ((k + 1 : Nat) : Int)) (hu : f.u = -1) (a b c : Int) (hB : B k = ⟨20, a, b, c⟩) (hok : OkI R S k n ⟨20, a, b, c⟩) :
    Calls Tryz.prog 162 #[.pointer (some ⟨F, 0, none⟩), .agg #[.int .i64 20, .int .i64 a, .int .i64 b, .int .i64 c]] w (StP w0 F f r s mp E R S B n k w) := by
  have hf : ({ f with nx := ((k + 1 : Nat) : Int), u := -1 } : Fr) = f := by rw [← hnx, ← hu]
  have ha := hok.set (by simp)
  have hsl := hok.lod (by simp)
  simp only at ha hsl
  have h5 := h.hR
  have h6 := h.lR
  have h8 := h.S1
  obtain ⟨ma, rfl⟩ : ∃ m : Nat, a = (m : Int) := ⟨a.toNat, by omega⟩
  obtain ⟨q0, q1, hQ, t0, t1, s0, s1⟩ := h.hE
  by_cases hq : E.q < 0
  · have hv : val E ⟨20, (ma : Int), b, c⟩ r s = 0 := by unfold val; simp [hq]
    refine (loadNo w0.heap.size F f r s w h.ok h.hB h.bF h.bR h.bS h.lR 20 b c ma (by omega) (by rw [h.hq]; omega)).mono ?_
    rintro e w' ⟨he, ho, ht⟩
    refine ⟨he, k + 1, -1, r.set ma 0, s, by omega, by omega, ?_, ht, Or.inl ⟨rfl, fun fl => ?_⟩⟩
    · exact h.step (by rw [hf]; exact ho) ht (h.Br.set (by omega) (by omega)) h.Bs
    · rw [exec, if_neg (by omega), hB]; dsimp only; rw [if_neg (by omega)]; rw [if_neg (by omega)]; rw [if_neg (by omega)]; rw [if_neg (by omega)]; rw [if_neg (by omega)]; rw [hv, Int.toNat_natCast]
  · obtain ⟨q, hq'⟩ : ∃ q : Nat, E.q = (q : Int) := ⟨E.q.toNat, by omega⟩
    obtain ⟨j0, j1, j2, j3⟩ := slot_bd h.hS hsl.1 hsl.2 (by omega) q1 hQ h.S1
    obtain ⟨j, hj⟩ : ∃ j : Nat, b * (E.nQ : Int) + E.q = (j : Int) := ⟨(b * (E.nQ : Int) + E.q).toNat, by omega⟩
    have z1 : IntKind.i64.wrap (b * (mp.I.nQ : Int)) = b * (mp.I.nQ : Int) := by rw [← h.eQ, IntKind.wrap_i64]; omega
    have z2 : IntKind.i64.wrap (b * (mp.I.nQ : Int) + (q : Int)) = (j : Int) := by rw [← h.eQ, ← hq', IntKind.wrap_i64]; omega
    have hv : val E ⟨20, (ma : Int), b, c⟩ r s = s.getD j 0 := by unfold val; simp only [if_neg hq, hj, gt_nat]; rfl
    refine (loadAt w0.heap.size F f r s w h.ok h.hB h.bF h.bR h.bS h.lR mp h.hM h.mR h.mS 20 b c ma (by omega) q (by rw [h.hq, hq']) j (by omega) z1 z2).mono ?_
    rintro e w' ⟨he, ho, ht⟩
    refine ⟨he, k + 1, -1, r.set ma (s.getD j 0), s, by omega, by omega, ?_, ht, Or.inl ⟨rfl, fun fl => ?_⟩⟩
    · exact h.step (by rw [hf]; exact ho) ht (h.Br.set (h.Bs j).1 (h.Bs j).2) h.Bs
    · rw [exec, if_neg (by omega), hB]; dsimp only; rw [if_neg (by omega)]; rw [if_neg (by omega)]; rw [if_neg (by omega)]; rw [if_neg (by omega)]; rw [if_neg (by omega)]; rw [hv, Int.toNat_natCast]

end Go.Proofs.YtgooegcmgejfpaaGreatDoor.Mac
