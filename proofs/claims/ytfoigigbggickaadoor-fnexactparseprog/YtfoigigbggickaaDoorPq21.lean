import Derived.Test.YtfoigigbggickaaDoorPq20
import Derived.Test.YtfoigigbggickaaDoorPq17
namespace Go.Proofs.YtfoigigbggickaaDoor.Par
open Go Go.RowKit Go.Proofs.YtfoigigbggickaaDoor.Mem Go.Proofs.YtfoigigbggickaaDoor.Syn Go.Proofs.YtfoigigbggickaaDoor.Parse
set_option linter.unusedVariables false
set_option linter.unusedSimpArgs false
attribute [local go_sem ↓] Go.wp_at_zero Go.wp_at_succ

theorem infoT : (Tryd.prog.info? 40).map (fun i => (i.zero, i.size, i.bytes)) = some (some (.agg #[.int .i64 0, .int .i64 0, .string ⟨#[]⟩, .int .i64 0]), 4, 40) := by kernel_rfl
theorem fillT (k v : Int) (s : ByteArray) (a : Int) : Instr.fill (fun i => some (i * 4, 4)) ((Array.range (1 * 4)).map ((Value.agg #[.int .i64 0, .int .i64 0, .string ⟨#[]⟩, .int .i64 0]).cells[· % (Value.agg #[.int .i64 0, .int .i64 0, .string ⟨#[]⟩, .int .i64 0]).cells.size]!)) [(0, .agg [Value.int .i64 k, .int .i64 v, .string s, .int .i64 a].toArray)] = some [Value.int .i64 k, .int .i64 v, .string s, .int .i64 a].toArray := by kernel_rfl
def toksC (t : List UInt8) (K : Nat) : List Value := (List.range K).flatMap fun k => tk4 (tkT t k)
theorem toks_succ (t : List UInt8) (K : Nat) : toksC t (K + 1) = toksC t K ++ tk4 (tkT t K) := by unfold toksC; rw [List.range_succ, List.flatMap_append]; simp
/-- The last token: the text's end, or a fault. -/
def finK (t : List UInt8) (k : Nat) : Prop := (tkT t k).k = 0 ∨ 50 ≤ (tkT t k).k
def posT (t : List UInt8) (K : Nat) : Nat := offT t K + skL false (t.drop (offT t K))
theorem tk_pos (t : List UInt8) (K : Nat) : tkT t K = (lexAt t (posT t K)).1 := rfl
theorem off_pos (t : List UInt8) (K : Nat) : offT t (K + 1) = (lexAt t (posT t K)).2 := rfl
/-- What the loop over the text keeps. -/
structure Lz (t : List UInt8) (w : World) (ov : Value) (K i : Nat) (m : Bool) (wr : World) : Prop where
  own : wr.ownsRow w.heap.size 40 4 ov K (toksC t K)
  nf : ∀ k, k < K → ¬ finK t k
  pos : i + skL m (t.drop i) = posT t K
  bel : Below w.heap.size w wr
  kle : K ≤ t.length
/-- The tokens, in memory of the call's own. -/
def LexP (t : List UInt8) (w : World) (e : Ending) (w' : World) : Prop := ∃ v N, e = .returned v ∧ w'.ownsRow w.heap.size 40 4 v N (toksC t N) ∧ 1 ≤ N ∧ N ≤ t.length + 1 ∧ finK t (N - 1) ∧ (∀ k, k + 1 < N → ¬ finK t k) ∧ Below w.heap.size w w'
theorem Lz.below {t : List UInt8} {w : World} {ov : Value} {K i : Nat} {m : Bool} {wr w' : World} (h : Lz t w ov K i m wr) (hb : Below wr.heap.size wr w') : Lz t w ov K i m w' := ⟨row_below h.own hb, h.nf, h.pos, below_then h.bel hb, h.kle⟩
theorem Lz.fin {t : List UInt8} {w : World} {ov v : Value} {K i : Nat} {m : Bool} {W w' : World} (h : Lz t w ov K i m W) (hf : finK t K) (row : w'.ownsRow w.heap.size 40 4 v (K + 1) (toksC t K ++ tk4 (tkT t K))) (g : W.grownBy w' ov.ownBlock) : LexP t w (.returned v) w' :=
  ⟨v, K + 1, rfl, by rw [toks_succ]; exact row, by omega, by have := h.kle; omega, by simpa using hf, fun k hk => h.nf k (by omega), h.bel.grown g h.bel.size (fun k hk => (h.own.lt k hk).1)⟩
theorem Lz.push {t : List UInt8} {w : World} {ov v : Value} {K i : Nat} {m : Bool} {W w' : World} (h : Lz t w ov K i m W) (hf : ¬ finK t K) (row : w'.ownsRow w.heap.size 40 4 v (K + 1) (toksC t K ++ tk4 (tkT t K))) (g : W.grownBy w' ov.ownBlock) (i' : Nat) (hi : i' = offT t (K + 1)) : Lz t w v (K + 1) i' false w' := by
  refine ⟨by rw [toks_succ]; exact row, fun k hk => ?_, by rw [hi]; rfl, h.bel.grown g h.bel.size (fun k hk => (h.own.lt k hk).1), ?_⟩
  · by_cases e : k = K
    · rw [e]; exact hf
    · exact h.nf k (by omega)
  · have h1 : (tkT t K).k ≠ 0 ∧ (tkT t K).k < 50 := by unfold finK at hf; omega
    have := tk_off t K h1
    have := off_le t (K + 1)
    omega
theorem newsT {w : World} (x : Tk) (g : Nat) (hg : g = w.heap.size) : ∀ j u, (tk4 x)[j]? = some u → (w.alloc (.cells (tk4 x).toArray 40)).cell? ((⟨g, 0, none⟩ : Addr).add j) = some u := fun j u hu => by
  subst hg; rw [Addr.add_lit, Nat.zero_add, blk_cell (blk_new w _) j]; simpa using hu
theorem oneT (x : Tk) : ∀ u ∈ tk4 x, u.oneCell' = true := fun u hu => by simp [tk4] at hu; rcases hu with rfl | rfl | rfl | rfl <;> rfl
theorem lex_run {t : List UInt8} {i : Nat} (hit : i < t.length) (hw : wB t[i] = true) (h95 : (t[i]).toNat ≠ 95) : lexAt t i = if 97 ≤ ((run (t.drop i)).getD 0 0).toNat then (if (run (t.drop i)).length ≤ 16 then (⟨wk (run (t.drop i)), i, run (t.drop i), 0⟩, i + (run (t.drop i)).length) else (⟨51, i, [], 0⟩, i)) else if plain (run (t.drop i)) = true then (⟨1, i, [], dec (run (t.drop i))⟩, i + (run (t.drop i)).length) else (⟨51, i, [], 0⟩, i) := by
  have h0 : (run (t.drop i)).getD 0 0 = t[i] := by rw [drop_cons hit]; unfold run; rw [List.takeWhile_cons, if_pos hw]; rfl
  by_cases hl : letB t[i] = true
  · have h97 : 97 ≤ ((run (t.drop i)).getD 0 0).toNat := by rw [h0]; unfold letB at hl; simp at hl; omega
    rw [lex_let hit hl, if_pos h97]
  · have hd : digB t[i] = true := by
      unfold wB at hw
      have h95' : ((t[i]).toNat == 95) = false := by simp; omega
      rw [h95'] at hw
      simp at hw
      rcases hw with h | h
      · exact absurd h hl
      · exact h
    have h97 : ¬ 97 ≤ ((run (t.drop i)).getD 0 0).toNat := by rw [h0]; unfold digB at hd; simp at hd; omega
    rw [lex_dig hit (by simpa using hl) hd, if_neg h97]
theorem lex_run1 {t : List UInt8} {i : Nat} (hit : i < t.length) (hw : wB t[i] = true) (h95 : (t[i]).toNat ≠ 95) : (lexAt t i).1 = if 97 ≤ ((run (t.drop i)).getD 0 0).toNat then (if (run (t.drop i)).length ≤ 16 then ⟨wk (run (t.drop i)), i, run (t.drop i), 0⟩ else ⟨51, i, [], 0⟩) else if plain (run (t.drop i)) = true then ⟨1, i, [], dec (run (t.drop i))⟩ else ⟨51, i, [], 0⟩ := by
  rw [lex_run hit hw h95]
  by_cases h1 : 97 ≤ ((run (t.drop i)).getD 0 0).toNat
  · rw [if_pos h1, if_pos h1]
    by_cases h2 : (run (t.drop i)).length ≤ 16
    · rw [if_pos h2, if_pos h2]
    · rw [if_neg h2, if_neg h2]
  · rw [if_neg h1, if_neg h1]
    by_cases h2 : plain (run (t.drop i)) = true
    · rw [if_pos h2, if_pos h2]
    · rw [if_neg h2, if_neg h2]
/-- A run's token: a fault of form, or it goes on behind the run. -/
theorem lex_run2 {t : List UInt8} {i : Nat} (hit : i < t.length) (hw : wB t[i] = true) (h95 : (t[i]).toNat ≠ 95) : ((lexAt t i).1.k = 51 ∧ kS (lexAt t i).1 = 6) ∨ ((lexAt t i).1.k ≠ 0 ∧ (lexAt t i).1.k < 50 ∧ kS (lexAt t i).1 ≤ 2 ∧ (lexAt t i).2 = i + (run (t.drop i)).length) := by
  have hne : run (t.drop i) ≠ [] := by rw [drop_cons hit]; unfold run; rw [List.takeWhile_cons, if_pos hw]; simp
  rw [lex_run hit hw h95]
  have hwl := wk_le (run (t.drop i))
  have hwg := wk_ge (run (t.drop i))
  by_cases h1 : 97 ≤ ((run (t.drop i)).getD 0 0).toNat
  · rw [if_pos h1]
    by_cases h2 : (run (t.drop i)).length ≤ 16
    · rw [if_pos h2]
      right
      refine ⟨by dsimp only; omega, by dsimp only; omega, ?_, rfl⟩
      unfold kS
      dsimp only
      rw [if_neg (by omega), if_neg (by omega), if_neg (by omega), if_neg (by omega), if_neg hne]
      omega
    · rw [if_neg h2]; exact Or.inl ⟨rfl, rfl⟩
  · rw [if_neg h1]
    by_cases h2 : plain (run (t.drop i)) = true
    · rw [if_pos h2]; exact Or.inr ⟨by simp, by simp, by unfold kS; simp, rfl⟩
    · rw [if_neg h2]; exact Or.inl ⟨rfl, rfl⟩
set_option maxHeartbeats 6400000 in
set_option maxRecDepth 1000000 in
theorem lexS (a : Option Addr) (t : List UInt8) (n c : Nat) (w : World) (hn : n = t.length) (ht : Txt w.heap.size w (.slice a n c) t) (hl : n ≤ 65536) :
    Calls Tryd.prog 12 #[.slice a n c] w fun e w' => LexP t w e w' := by
  obtain ⟨i0, hi, hz0, hz1, hz2⟩ := info_parts infoT
  have HN := Hid.mk hn
  have HTX := Hid.mk ht
  have hL0 : Hid (Lz t w (.slice (some ⟨w.heap.size, 0, none⟩) 0 0) 0 0 false (w.alloc (.cells #[] 40))) := ⟨World.ownsRow_made w #[] 0 (Nat.le_refl _) (by unfold maxLen; omega) (by simp), fun k hk => by omega, rfl, below_alloc' (Below.refl _ _) _, Nat.zero_le _⟩
  clear hn ht
  go_enter Tryd.func12, Tryd.ntmps12
  go_wp2_with fail
  go_loopg [3, 4] n (fun gk ov iv wr => ∃ (K i : Nat), i ≤ n ∧ gk = n - i ∧ iv = .int .i64 (i : Int) ∧ Hid (Lz t w ov K i false wr) ∧ ∃ a' n' c', ov = .slice a' n' c')
  case atStart => exact ⟨0, 0, Nat.zero_le _, by omega, rfl, hL0, ⟨_, _, _, rfl⟩⟩
  case round =>
    obtain ⟨K, i, hile, rfl, rfl, hz, oa, on, oc, rfl⟩ := hrel
    have hKn : K ≤ n := by rw [HN.out]; exact hz.out.kle
    have hBr : w.heap.size ≤ wr.heap.size := hz.out.bel.size
    by_cases hin : i < n
    · have k1 : (i : Int) < (n : Int) := by omega
      have k0 : (0 : Int) ≤ (i : Int) := by omega
      have hit : i < t.length := by rw [← HN.out]; exact hin
      have hTr := HTX.out.below hz.out.bel
      obtain ⟨g, q, rfl, y0, HRD, hcn⟩ : ∃ g q, a = some ⟨g, q, none⟩ ∧ wr.cell? ⟨g, q + i, none⟩ = some (.int .u8 ((t[i]).toNat : Int)) ∧ Hid (Rd wr (some ⟨g, q, none⟩) t) ∧ n ≤ c := by
        obtain ⟨p, c', e, hc, hp, hrd⟩ := hTr.rd
        injection e with e1 e2 e3
        subst e1
        subst e3
        obtain ⟨g, q, e, hc2⟩ := hrd i hit
        subst e
        exact ⟨g, q, rfl, hc2, hrd, by omega⟩
      clear hTr
      obtain ⟨u, hu⟩ : ∃ u, u = t[i] := ⟨_, rfl⟩
      rw [← hu] at y0
      have skF := sk_at hit false
      have skT := sk_at hit true
      dsimp only at skF skT
      rw [← hu] at skF skT
      have e9 : IntKind.i64.wrap ((i : Int) + 1) = (i : Int) + 1 := by rw [IntKind.wrap_i64]; omega
      by_cases h32 : u.toNat = 32 ∨ u.toNat = 10
      · rw [if_pos h32] at skF
        have hz2 : Hid (Lz t w (.slice oa on oc) K (i + 1) false wr) := ⟨hz.out.own, hz.out.nf, by have := hz.out.pos; omega, hz.out.bel, hz.out.kle⟩
        clear skF skT hu
        by_cases h3 : u.toNat = 32
        · have b1 : ((u.toNat : Int) == 32) = true := by simp; omega
          clear h3 h32
          go_wp2_with fail
          go_roundg (n - (i + 1))
          case measure => omega
          case rel => exact ⟨K, i + 1, by omega, rfl, by first | rfl | go_num, hz2, ⟨_, _, _, rfl⟩⟩
        · have b1 : ((u.toNat : Int) == 32) = false := by simp; omega
          have b2 : ((u.toNat : Int) == 10) = true := by simp; omega
          clear h3 h32
          go_wp2_with fail
          go_roundg (n - (i + 1))
          case measure => omega
          case rel => exact ⟨K, i + 1, by omega, rfl, by first | rfl | go_num, hz2, ⟨_, _, _, rfl⟩⟩
      rw [if_neg h32] at skF
      have b1 : ((u.toNat : Int) == 32) = false := by simp; omega
      have b2 : ((u.toNat : Int) == 10) = false := by simp; omega
      by_cases h35 : u.toNat = 35
      · rw [if_pos h35] at skF
        have b3 : ((u.toNat : Int) == 35) = true := by simp; omega
        have hz2 : Hid (Lz t w (.slice oa on oc) K i true wr) := ⟨hz.out.own, hz.out.nf, by have h1 := hz.out.pos; rw [if_neg (by omega)] at skT; omega, hz.out.bel, hz.out.kle⟩
        have HU : Hid ((t[i]).toNat ≠ 10) := by unfold Hid; rw [← hu]; omega
        clear skF skT hu h32 h35
        go_wp2_with fail
        go_loopg [4] (n - i) (fun k iv wy => ∃ i', i ≤ i' ∧ i' ≤ n ∧ k = n - i' ∧ iv = .int .i64 (i' : Int) ∧ wy = wr ∧ Hid (Lz t w (.slice oa on oc) K i' true wr))
        case atStart => exact ⟨i, Nat.le_refl _, hile, rfl, rfl, rfl, hz2⟩
        case round =>
          obtain ⟨i', hii, hin', rfl, rfl, rfl, hr'⟩ := hrel
          clear y0 k1 k0 e9
          by_cases hlt' : i' < n
          · have k1 : (i' : Int) < (n : Int) := by omega
            have k0 : (0 : Int) ≤ (i' : Int) := by omega
            have hit' : i' < t.length := by rw [← HN.out]; exact hlt'
            have y0 := HRD.out.at i' hit'
            obtain ⟨v, hv⟩ : ∃ v, v = t[i'] := ⟨_, rfl⟩
            have skF := sk_at hit' false
            have skT := sk_at hit' true
            dsimp only at skF skT
            rw [← hv] at y0 skF skT
            have HV : Hid ((t[i']).toNat = v.toNat) := by unfold Hid; rw [hv]
            clear hv
            by_cases h10 : v.toNat = 10
            · have c1 : ((v.toNat : Int) != 10) = false := by simp; omega
              rw [if_pos h10] at skT
              rw [if_pos (Or.inr h10)] at skF
              have hz3 : Hid (Lz t w (.slice oa on oc) K i' false wr) := ⟨hr'.out.own, hr'.out.nf, by have := hr'.out.pos; omega, hr'.out.bel, hr'.out.kle⟩
              have hgt : i < i' := Nat.lt_of_le_of_ne hii (fun e => by subst e; exact HU.out (HV.out.trans h10))
              clear skF skT h10
              go_wp2_with fail
              go_roundg (n - i')
              case measure => omega
              case rel => exact ⟨K, i', hin', rfl, rfl, hz3, ⟨_, _, _, rfl⟩⟩
            · have c1 : (v.toNat : Int) ≠ 10 := by omega
              rw [if_neg h10] at skT
              have hz3 : Hid (Lz t w (.slice oa on oc) K (i' + 1) true wr) := ⟨hr'.out.own, hr'.out.nf, by have := hr'.out.pos; omega, hr'.out.bel, hr'.out.kle⟩
              have e9 : IntKind.i64.wrap ((i' : Int) + 1) = (i' : Int) + 1 := by rw [IntKind.wrap_i64]; omega
              clear skF skT h10
              go_wp2_with fail
              go_roundg (n - (i' + 1))
              case measure => omega
              case rel => exact ⟨i' + 1, by omega, by omega, rfl, by first | rfl | go_num, rfl, hz3⟩
          · have k1 : decide ((i' : Int) < (n : Int)) = false := by simp; omega
            have hz3 : Hid (Lz t w (.slice oa on oc) K i' false wr) := ⟨hr'.out.own, hr'.out.nf, by have := hr'.out.pos; rw [sk_end (by rw [← HN.out]; omega)] at this ⊢; exact this, hr'.out.bel, hr'.out.kle⟩
            go_wp2_with fail
            go_roundg (n - i')
            case measure => omega
            case rel => exact ⟨K, i', hin', rfl, rfl, hz3, ⟨_, _, _, rfl⟩⟩
      rw [if_neg h35] at skF
      have b3 : ((u.toNat : Int) == 35) = false := by simp; omega
      have hpi : Hid (posT t K = i) := by unfold Hid; have := hz.out.pos; omega
      have hdr : Hid (t.drop i = u :: t.drop (i + 1)) := by unfold Hid; rw [hu]; exact drop_cons hit
      by_cases hw : wB u = true ∧ u.toNat ≠ 95
      · have b4 : ((u.toNat : Int) != 95) = true := by rw [bne_iff_ne]; omega
        have hwu := hw.1
        have hwt : wB t[i] = true := by rw [← hu]; exact hwu
        have h95t : (t[i]).toNat ≠ 95 := by rw [← hu]; exact hw.2
        have hx : tkT t K = if 97 ≤ ((run (t.drop i)).getD 0 0).toNat then (if (run (t.drop i)).length ≤ 16 then ⟨wk (run (t.drop i)), i, run (t.drop i), 0⟩ else ⟨51, i, [], 0⟩) else if plain (run (t.drop i)) = true then ⟨1, i, [], dec (run (t.drop i))⟩ else ⟨51, i, [], 0⟩ := by
          rw [tk_pos, hpi.out]; exact lex_run1 hit hwt h95t
        have hoff : ((tkT t K).k = 51 ∧ kS (tkT t K) = 6) ∨ ((tkT t K).k ≠ 0 ∧ (tkT t K).k < 50 ∧ kS (tkT t K) ≤ 2 ∧ offT t (K + 1) = i + (run (t.drop i)).length) := by
          rw [tk_pos, off_pos, hpi.out]; exact lex_run2 hit hwt h95t
        have hrun1 : 1 ≤ (run (t.drop i)).length := by rw [hdr.out]; exact run_pos hwu
        have hrl := run_le (t.drop i)
        rw [List.length_drop] at hrl
        have h45 : (run (t.drop i)).head? ≠ some 45 := by
          rw [hdr.out]; unfold run; rw [List.takeWhile_cons, if_pos hwu]
          simp
          intro e
          rw [e] at hwu
          exact absurd hwu (by decide)
        have hR : Hid (Rd wr (some ⟨g, q + i, none⟩) (run (t.drop i))) := by
          have := (HRD.out.drop i).take (run (t.drop i)).length
          rw [← run_take] at this
          exact this
        obtain ⟨nm, hnm⟩ : ∃ nm, nm = run (t.drop i) := ⟨_, rfl⟩
        have HST : Hid (∀ k, k ≤ nm.length → (hk : i + k < t.length) → (wB (t[i + k]) = true → k + 1 ≤ nm.length) ∧ (wB (t[i + k]) = false → k = nm.length)) := fun k hk hkt => by
          have := run_step (l := t.drop i) (k := k) (by rw [← hnm]; exact hk) (by rw [List.length_drop]; omega)
          rw [List.getElem_drop, ← hnm] at this
          exact this
        rw [← hnm] at hx hoff hrun1 hrl h45 hR
        obtain ⟨L, hL⟩ : ∃ L, L = nm.length := ⟨_, rfl⟩
        rw [← hL] at hrun1 hrl hoff HST
        have HL := Hid.mk hL
        have HX := Hid.mk hx
        have HOFF := Hid.mk hoff
        clear hwt h95t
        have H45 := Hid.mk h45
        have hrl2 : L ≤ n - i := by rw [HN.out]; exact hrl
        clear hx hoff h45 hnm hL skF skT hu h32 h35 hw hrl
        go_wp2_with (go_at_call 21; go_must (refine (wordByteS u _).mono ?_; rintro e w' ⟨rfl, hww⟩; rw [hww, hwu]; clear hww))
        go_loopg [6] L (fun gk jv wy => ∃ k : Nat, k ≤ L ∧ gk = L - k ∧ jv = .int .i64 ((i + k : Nat) : Int) ∧ wy = wr)
        case atStart => exact ⟨0, Nat.zero_le _, rfl, rfl, rfl⟩
        case round =>
          obtain ⟨k, hk, rfl, rfl, hwy⟩ := hrel
          subst hwy
          obtain ⟨j, hj⟩ : ∃ j, j = i + k := ⟨_, rfl⟩
          rw [← hj]
          have HJ := Hid.mk hj
          have z0 : (0 : Int) ≤ (j : Int) := by omega
          by_cases hlt : j < n
          · have z1 : (j : Int) < (n : Int) := by omega
            have hjt : j < t.length := by rw [← HN.out]; exact hlt
            have y1 := HRD.out.at j hjt
            obtain ⟨st1, st2⟩ := HST.out k hk (by rw [← hj]; exact hjt)
            have hjj : t[i + k]'(by rw [← hj]; exact hjt) = t[j] := by congr 1; exact hj.symm
            rw [hjj] at st1 st2
            obtain ⟨v, hv⟩ : ∃ v, v = t[j] := ⟨_, rfl⟩
            rw [← hv] at y1 st1 st2
            have e8 : IntKind.i64.wrap ((j : Int) + 1) = (j : Int) + 1 := by rw [IntKind.wrap_i64]; omega
            clear hv hjj hj
            cases hwv : wB v with
            | true =>
              have h1 := st1 hwv
              clear st1 st2
              go_wp2_with (go_at_call 21; go_must (refine (wordByteS v _).mono ?_; rintro e w' ⟨rfl, hww⟩; rw [hww, hwv]; clear hww))
              go_roundg (L - (k + 1))
              case measure => omega
              case rel => exact ⟨k + 1, h1, rfl, by rw [HJ.out]; go_num, rfl⟩
            | false =>
              have h1 := Hid.mk (st2 hwv)
              clear st1 st2
              have hjL : j = i + L := by have := h1.out; have := HJ.out; omega
              have s1 : j - i = L := by omega
              have s2 : ¬ c = i := by omega
              have s3 : (i : Int) ≤ (j : Int) := by omega
              have s4 : (j : Int) ≤ (n : Int) := by omega
              have HjL := Hid.mk hjL
              clear hjL
              obtain ⟨x, hxx⟩ : ∃ x, x = tkT t K := ⟨_, rfl⟩
              have CR := Hid.mk (runS g (q + i) (c - i) nm L i x wr hR.out HL.out (by omega) (by omega) (by omega) (by rw [hxx]; exact HX.out) H45.out)
              have HXX := Hid.mk hxx
              have HOF := Hid.mk HOFF.out
              rw [← hxx] at HOF
              clear hxx
              go_wp2_with (go_at_call 21; go_must (refine (wordByteS v _).mono ?_; rintro e w' ⟨rfl, hww⟩; rw [hww, hwv]; clear hww))
              refine CR.out.mono ?_
              rintro e w2 ⟨rfl, hb2⟩
              have A3 : Hid (Below w2.heap.size w2 (w2.alloc (.cells (tk4 x).toArray 40))) := below_alloc' (Below.refl _ _) _
              have A4 : Hid (Below w2.heap.size w2 ((w2.alloc (.cells (tk4 x).toArray 40)).alloc (.cells (tk4 x).toArray 40))) := below_alloc' A3.out _
              have Z2 := Hid.mk (hz.out.below hb2)
              have Z4 := Hid.mk (Z2.out.below A4.out)
              have hlt2 : ∀ k, (Value.slice oa on oc).ownBlock = some k → k < w2.heap.size := fun k e => (Z2.out.own.lt k e).2
              have hbx : ((w2.alloc (.cells (tk4 x).toArray 40)).alloc (.cells (tk4 x).toArray 40)).cell? ⟨w2.heap.size, 0, none⟩ = some (.int .i64 (kS x)) := by rw [blk_cell (blk_alloc (blk_new _ _) _) 0]; rfl
              have HBX := Hid.mk hbx
              have hs2 : w.heap.size ≤ w2.heap.size := Z2.out.bel.size
              have HLT := Hid.mk hlt2
              clear hb2 hbx hlt2
              unfold tk4
              go_wp2_with (first | (at_builtin; go_must (refine wpList_append_own_at _ rfl _ _ 35 rfl w.heap.size 40 i0 (.agg #[.int .i64 0, .int .i64 0, .string ⟨#[]⟩, .int .i64 0]) 4 40 Tryd.underlying35 hi hz0 hz1 hz2 rfl (by decide) _ _ _ rfl Z4.out.own ⟨(w2.alloc (.cells (tk4 x).toArray 40)).heap.size, 0, none⟩ 1 1 (tk4 x) rfl rfl (newsT (w := w2.alloc (.cells (tk4 x).toArray 40)) x _ rfl) (oneT x) (by unfold maxLen; omega) (by omega) (by simp; omega) ?_)) | (refine wpList_build1 rfl 35 40 _ rfl i0 _ Tryd.underlying35 hi hz0 4 hz1 (tk4 x) rfl (fillT _ _ _ _) (by decide) (by decide) ?_))
              intro v' w4 hown hgrow _ _
              have hbx4 : w4.cell? ⟨w2.heap.size, 0, none⟩ = some (.int .i64 (kS x)) := hgrow.cell HBX.out (fun e => by have := HLT.out _ e.symm; simp at this)
              obtain ⟨va, vc, rfl, -⟩ := row_shape hown
              rcases HOF.out with ⟨hk, hkS⟩ | ⟨hk0, hk50, hkS, hof⟩
              · have HFIN := Hid.mk (Z4.out.fin (v := .slice va (K + 1) vc) (by unfold finK; rw [← HXX.out]; exact Or.inr (by omega)) (by rw [← HXX.out]; exact hown) hgrow)
                have k9 : (4 : Int) < kS x := by omega
                clear hown hgrow hk hkS
                refine Hid.out ?_
                refine Lib.hid ?_
                go_wp2
                go_ret
                exact HFIN.out
              · have HP := Hid.mk (Z4.out.push (v := .slice va (K + 1) vc) (by unfold finK; rw [← HXX.out]; omega) (by rw [← HXX.out]; exact hown) hgrow j (by rw [hof]; exact HjL.out))
                have k9 : decide ((4 : Int) < kS x) = false := by simp; omega
                clear hown hgrow hk0 hk50 hkS hof
                refine Hid.out ?_
                refine Lib.hid ?_
                go_wp2_with fail
                go_roundg (n - j)
                case measure => (have := HjL.out; omega)
                case rel => exact ⟨K + 1, j, by omega, rfl, rfl, HP, ⟨_, _, _, rfl⟩⟩
          · have z1 : decide ((j : Int) < (n : Int)) = false := by simp; omega
            have z1n : decide (j < n) = false := by simp; omega
            have h1 : Hid (k = L) := by unfold Hid; omega
            clear hj
            have hjL : j = i + L := by have := h1.out; have := HJ.out; omega
            have s1 : j - i = L := by omega
            have s2 : ¬ c = i := by omega
            have s3 : (i : Int) ≤ (j : Int) := by omega
            have s4 : (j : Int) ≤ (n : Int) := by omega
            have HjL := Hid.mk hjL
            clear hjL
            obtain ⟨x, hxx⟩ : ∃ x, x = tkT t K := ⟨_, rfl⟩
            have CR := Hid.mk (runS g (q + i) (c - i) nm L i x wr hR.out HL.out (by omega) (by omega) (by omega) (by rw [hxx]; exact HX.out) H45.out)
            have HXX := Hid.mk hxx
            have HOF := Hid.mk HOFF.out
            rw [← hxx] at HOF
            clear hxx
            go_wp2_with fail
            refine CR.out.mono ?_
            rintro e w2 ⟨rfl, hb2⟩
            have A3 : Hid (Below w2.heap.size w2 (w2.alloc (.cells (tk4 x).toArray 40))) := below_alloc' (Below.refl _ _) _
            have A4 : Hid (Below w2.heap.size w2 ((w2.alloc (.cells (tk4 x).toArray 40)).alloc (.cells (tk4 x).toArray 40))) := below_alloc' A3.out _
            have Z2 := Hid.mk (hz.out.below hb2)
            have Z4 := Hid.mk (Z2.out.below A4.out)
            have hlt2 : ∀ k, (Value.slice oa on oc).ownBlock = some k → k < w2.heap.size := fun k e => (Z2.out.own.lt k e).2
            have hbx : ((w2.alloc (.cells (tk4 x).toArray 40)).alloc (.cells (tk4 x).toArray 40)).cell? ⟨w2.heap.size, 0, none⟩ = some (.int .i64 (kS x)) := by rw [blk_cell (blk_alloc (blk_new _ _) _) 0]; rfl
            have HBX := Hid.mk hbx
            have hs2 : w.heap.size ≤ w2.heap.size := Z2.out.bel.size
            have HLT := Hid.mk hlt2
            clear hb2 hbx hlt2
            unfold tk4
            go_wp2_with (first | (at_builtin; go_must (refine wpList_append_own_at _ rfl _ _ 35 rfl w.heap.size 40 i0 (.agg #[.int .i64 0, .int .i64 0, .string ⟨#[]⟩, .int .i64 0]) 4 40 Tryd.underlying35 hi hz0 hz1 hz2 rfl (by decide) _ _ _ rfl Z4.out.own ⟨(w2.alloc (.cells (tk4 x).toArray 40)).heap.size, 0, none⟩ 1 1 (tk4 x) rfl rfl (newsT (w := w2.alloc (.cells (tk4 x).toArray 40)) x _ rfl) (oneT x) (by unfold maxLen; omega) (by omega) (by simp; omega) ?_)) | (refine wpList_build1 rfl 35 40 _ rfl i0 _ Tryd.underlying35 hi hz0 4 hz1 (tk4 x) rfl (fillT _ _ _ _) (by decide) (by decide) ?_))
            intro v' w4 hown hgrow _ _
            have hbx4 : w4.cell? ⟨w2.heap.size, 0, none⟩ = some (.int .i64 (kS x)) := hgrow.cell HBX.out (fun e => by have := HLT.out _ e.symm; simp at this)
            obtain ⟨va, vc, rfl, -⟩ := row_shape hown
            rcases HOF.out with ⟨hk, hkS⟩ | ⟨hk0, hk50, hkS, hof⟩
            · have HFIN := Hid.mk (Z4.out.fin (v := .slice va (K + 1) vc) (by unfold finK; rw [← HXX.out]; exact Or.inr (by omega)) (by rw [← HXX.out]; exact hown) hgrow)
              have k9 : (4 : Int) < kS x := by omega
              clear hown hgrow hk hkS
              refine Hid.out ?_
              refine Lib.hid ?_
              go_wp2
              go_ret
              exact HFIN.out
            · have HP := Hid.mk (Z4.out.push (v := .slice va (K + 1) vc) (by unfold finK; rw [← HXX.out]; omega) (by rw [← HXX.out]; exact hown) hgrow j (by rw [hof]; exact HjL.out))
              have k9 : decide ((4 : Int) < kS x) = false := by simp; omega
              clear hown hgrow hk0 hk50 hkS hof
              refine Hid.out ?_
              refine Lib.hid ?_
              go_wp2_with fail
              go_roundg (n - j)
              case measure => have := HjL.out; omega
              case rel => exact ⟨K + 1, j, by omega, rfl, rfl, HP, ⟨_, _, _, rfl⟩⟩
      · have hld : letB u = false ∧ digB u = false := by
          by_cases hwb : wB u = true
          · have : u.toNat = 95 := Classical.byContradiction fun h => hw ⟨hwb, h⟩
            unfold letB digB
            simp
            omega
          · unfold wB at hwb
            simp at hwb
            exact ⟨by simpa using hwb.1.1, by simpa using hwb.1.2⟩
        obtain ⟨hlu, hdu⟩ := hld
        have HUU := Hid.mk hu
        have CS := Hid.mk (symbolS g q n c i u (t.drop (i + 1)) t wr HRD.out HN.out hcn hl hdr.out)
        cases hwb : wB u with
        | true =>
          have b4 : ((u.toNat : Int) != 95) = false := by
            have : u.toNat = 95 := Classical.byContradiction fun h => hw ⟨hwb, h⟩
            rw [this]; rfl
          clear skF skT hu h32 h35 hw
          skip
          by_cases h0 : symL (t.drop i) = 0
          · have x5 : Hid (tkT t K = ⟨50, i, [], 0⟩) := by unfold Hid; rw [tk_pos, hpi.out, lex_sym hit (by rw [← HUU.out]; exact hlu) (by rw [← HUU.out]; exact hdu), if_pos h0]
            have hS : Hid (symR u (t.drop (i + 1)) = []) := by unfold Hid; rw [symR_eq, ← hdr.out, h0]; rfl
            rw [hS.out] at CS
            have A4 : Hid (Below wr.heap.size wr (wr.alloc (.cells (tk4 ⟨50, i, [], 0⟩).toArray 40))) := below_alloc' (Below.refl _ _) _
            have Z4 := Hid.mk (hz.out.below A4.out)
            clear h0 hlu hdu
            go_wp2_with (first | (go_at_call 21; go_must (refine (wordByteS u _).mono ?_; rintro e w' ⟨rfl, hww⟩; rw [hww, hwb]; clear hww)) | (go_at_call 23; go_must (refine CS.out.mono ?_; rintro e w' ⟨rfl, hww⟩; rw [hww]; clear hww)) | (at_builtin; go_must (refine wpList_append_own_at _ rfl _ _ 35 rfl w.heap.size 40 i0 (.agg #[.int .i64 0, .int .i64 0, .string ⟨#[]⟩, .int .i64 0]) 4 40 Tryd.underlying35 hi hz0 hz1 hz2 rfl (by decide) _ _ _ rfl Z4.out.own ⟨wr.heap.size, 0, none⟩ 1 1 (tk4 ⟨50, i, [], 0⟩) rfl rfl (newsT (w := wr) ⟨50, i, [], 0⟩ _ rfl) (oneT ⟨50, i, [], 0⟩) (by unfold maxLen; omega) (by omega) (by simp; omega) ?_)) | (refine wpList_build1 rfl 35 40 _ rfl i0 _ Tryd.underlying35 hi hz0 4 hz1 (tk4 ⟨50, i, [], 0⟩) rfl (fillT _ _ _ _) (by decide) (by decide) ?_))
            intro v' w4 hown hgrow _ _
            obtain ⟨va, vc, rfl, -⟩ := row_shape hown
            have HFIN := Hid.mk (Z4.out.fin (v := .slice va (K + 1) vc) (by unfold finK; rw [x5.out]; exact Or.inr (by simp)) (by rw [x5.out]; exact hown) hgrow)
            clear hown hgrow
            refine Hid.out ?_
            refine Lib.hid ?_
            go_wp2
            go_ret
            exact HFIN.out
          · obtain ⟨M, hM⟩ : ∃ M, M = symL (t.drop i) := ⟨_, rfl⟩
            have hM14 : M < 14 := by rw [hM]; exact symL_le _
            have hM3 : 3 ≤ M := by have := symL_ge (t.drop i); omega
            have x5 : Hid (tkT t K = ⟨M, i, [], 0⟩) := by unfold Hid; rw [tk_pos, hpi.out, lex_sym hit (by rw [← HUU.out]; exact hlu) (by rw [← HUU.out]; exact hdu), if_neg h0, hM]
            have x6 : Hid (offT t (K + 1) = i + (twAt M).length) := by unfold Hid; rw [off_pos, hpi.out, lex_sym hit (by rw [← HUU.out]; exact hlu) (by rw [← HUU.out]; exact hdu), if_neg h0, hM]
            have hS : Hid (symR u (t.drop (i + 1)) = twAt M) := by unfold Hid; rw [symR_eq, ← hdr.out, hM]
            rw [hS.out] at CS
            have hpos := tw_pos hM3 hM14
            have hle : i + (twAt M).length ≤ n := by rw [HN.out, ← x6.out]; exact off_le t (K + 1)
            have hk4 : Hid (tk4 ⟨M, i, [], 0⟩ = [.int .i64 3, .int .i64 0, .string ⟨(twAt M).toArray⟩, .int .i64 (i : Int)]) := by
              unfold Hid tk4 kS wS; dsimp only
              rw [if_neg (by omega), if_neg (by omega), if_neg (by omega), if_neg (by omega), if_pos rfl, if_pos rfl]
            obtain ⟨SW, hSW⟩ : ∃ s, s = twAt M := ⟨_, rfl⟩
            rw [← hSW] at CS hk4 hpos hle x6
            have g5 : (SW == []) = false := by cases SW with
              | nil => simp at hpos
              | cons a r => rfl
            have A4 : Hid (Below wr.heap.size wr (wr.alloc (.cells (tk4 ⟨M, i, [], 0⟩).toArray 40))) := below_alloc' (Below.refl _ _) _
            have Z4 := Hid.mk (hz.out.below A4.out)
            have OW4 := Hid.mk Z4.out.own
            have NW := Hid.mk (newsT (w := wr) ⟨M, i, [], 0⟩ _ rfl)
            have ON := Hid.mk (oneT ⟨M, i, [], 0⟩)
            rw [hk4.out] at OW4 NW ON
            have e7 : IntKind.i64.wrap ((i : Int) + (SW.length : Int)) = (i : Int) + (SW.length : Int) := by rw [IntKind.wrap_i64]; omega
            clear h0 hlu hdu hM hSW
            go_wp2_with (first | (go_at_call 21; go_must (refine (wordByteS u _).mono ?_; rintro e w' ⟨rfl, hww⟩; rw [hww, hwb]; clear hww)) | (go_at_call 23; go_must (refine CS.out.mono ?_; rintro e w' ⟨rfl, hww⟩; rw [hww]; clear hww)) | (at_builtin; go_must (refine wpList_append_own_at _ rfl _ _ 35 rfl w.heap.size 40 i0 (.agg #[.int .i64 0, .int .i64 0, .string ⟨#[]⟩, .int .i64 0]) 4 40 Tryd.underlying35 hi hz0 hz1 hz2 rfl (by decide) _ _ _ rfl OW4.out ⟨wr.heap.size, 0, none⟩ 1 1 [.int .i64 3, .int .i64 0, .string ⟨SW.toArray⟩, .int .i64 (i : Int)] rfl rfl NW.out ON.out (by unfold maxLen; omega) (by omega) (by simp; omega) ?_)) | (refine wpList_build1 rfl 35 40 _ rfl i0 _ Tryd.underlying35 hi hz0 4 hz1 [.int .i64 3, .int .i64 0, .string ⟨SW.toArray⟩, .int .i64 (i : Int)] rfl (fillT _ _ _ _) (by decide) (by decide) ?_))
            intro v' w4 hown hgrow _ _
            obtain ⟨va, vc, rfl, -⟩ := row_shape hown
            have HP := Hid.mk (Z4.out.push (w' := w4) (v := .slice va (K + 1) vc) (by unfold finK; rw [x5.out]; dsimp only; omega) (by rw [x5.out, hk4.out]; exact hown) (by rw [hk4.out]; exact hgrow) (i + SW.length) x6.out.symm)
            clear hown hgrow
            refine Hid.out ?_
            refine Lib.hid ?_
            go_wp2_with fail
            go_roundg (n - (i + SW.length))
            case measure => omega
            case rel => exact ⟨K + 1, i + SW.length, by omega, rfl, by first | rfl | go_num, HP, ⟨_, _, _, rfl⟩⟩
        | false =>
          clear skF skT hu h32 h35 hw
          skip
          by_cases h0 : symL (t.drop i) = 0
          · have x5 : Hid (tkT t K = ⟨50, i, [], 0⟩) := by unfold Hid; rw [tk_pos, hpi.out, lex_sym hit (by rw [← HUU.out]; exact hlu) (by rw [← HUU.out]; exact hdu), if_pos h0]
            have hS : Hid (symR u (t.drop (i + 1)) = []) := by unfold Hid; rw [symR_eq, ← hdr.out, h0]; rfl
            rw [hS.out] at CS
            have A4 : Hid (Below wr.heap.size wr (wr.alloc (.cells (tk4 ⟨50, i, [], 0⟩).toArray 40))) := below_alloc' (Below.refl _ _) _
            have Z4 := Hid.mk (hz.out.below A4.out)
            clear h0 hlu hdu
            go_wp2_with (first | (go_at_call 21; go_must (refine (wordByteS u _).mono ?_; rintro e w' ⟨rfl, hww⟩; rw [hww, hwb]; clear hww)) | (go_at_call 23; go_must (refine CS.out.mono ?_; rintro e w' ⟨rfl, hww⟩; rw [hww]; clear hww)) | (at_builtin; go_must (refine wpList_append_own_at _ rfl _ _ 35 rfl w.heap.size 40 i0 (.agg #[.int .i64 0, .int .i64 0, .string ⟨#[]⟩, .int .i64 0]) 4 40 Tryd.underlying35 hi hz0 hz1 hz2 rfl (by decide) _ _ _ rfl Z4.out.own ⟨wr.heap.size, 0, none⟩ 1 1 (tk4 ⟨50, i, [], 0⟩) rfl rfl (newsT (w := wr) ⟨50, i, [], 0⟩ _ rfl) (oneT ⟨50, i, [], 0⟩) (by unfold maxLen; omega) (by omega) (by simp; omega) ?_)) | (refine wpList_build1 rfl 35 40 _ rfl i0 _ Tryd.underlying35 hi hz0 4 hz1 (tk4 ⟨50, i, [], 0⟩) rfl (fillT _ _ _ _) (by decide) (by decide) ?_))
            intro v' w4 hown hgrow _ _
            obtain ⟨va, vc, rfl, -⟩ := row_shape hown
            have HFIN := Hid.mk (Z4.out.fin (v := .slice va (K + 1) vc) (by unfold finK; rw [x5.out]; exact Or.inr (by simp)) (by rw [x5.out]; exact hown) hgrow)
            clear hown hgrow
            refine Hid.out ?_
            refine Lib.hid ?_
            go_wp2
            go_ret
            exact HFIN.out
          · obtain ⟨M, hM⟩ : ∃ M, M = symL (t.drop i) := ⟨_, rfl⟩
            have hM14 : M < 14 := by rw [hM]; exact symL_le _
            have hM3 : 3 ≤ M := by have := symL_ge (t.drop i); omega
            have x5 : Hid (tkT t K = ⟨M, i, [], 0⟩) := by unfold Hid; rw [tk_pos, hpi.out, lex_sym hit (by rw [← HUU.out]; exact hlu) (by rw [← HUU.out]; exact hdu), if_neg h0, hM]
            have x6 : Hid (offT t (K + 1) = i + (twAt M).length) := by unfold Hid; rw [off_pos, hpi.out, lex_sym hit (by rw [← HUU.out]; exact hlu) (by rw [← HUU.out]; exact hdu), if_neg h0, hM]
            have hS : Hid (symR u (t.drop (i + 1)) = twAt M) := by unfold Hid; rw [symR_eq, ← hdr.out, hM]
            rw [hS.out] at CS
            have hpos := tw_pos hM3 hM14
            have hle : i + (twAt M).length ≤ n := by rw [HN.out, ← x6.out]; exact off_le t (K + 1)
            have hk4 : Hid (tk4 ⟨M, i, [], 0⟩ = [.int .i64 3, .int .i64 0, .string ⟨(twAt M).toArray⟩, .int .i64 (i : Int)]) := by
              unfold Hid tk4 kS wS; dsimp only
              rw [if_neg (by omega), if_neg (by omega), if_neg (by omega), if_neg (by omega), if_pos rfl, if_pos rfl]
            obtain ⟨SW, hSW⟩ : ∃ s, s = twAt M := ⟨_, rfl⟩
            rw [← hSW] at CS hk4 hpos hle x6
            have g5 : (SW == []) = false := by cases SW with
              | nil => simp at hpos
              | cons a r => rfl
            have A4 : Hid (Below wr.heap.size wr (wr.alloc (.cells (tk4 ⟨M, i, [], 0⟩).toArray 40))) := below_alloc' (Below.refl _ _) _
            have Z4 := Hid.mk (hz.out.below A4.out)
            have OW4 := Hid.mk Z4.out.own
            have NW := Hid.mk (newsT (w := wr) ⟨M, i, [], 0⟩ _ rfl)
            have ON := Hid.mk (oneT ⟨M, i, [], 0⟩)
            rw [hk4.out] at OW4 NW ON
            have e7 : IntKind.i64.wrap ((i : Int) + (SW.length : Int)) = (i : Int) + (SW.length : Int) := by rw [IntKind.wrap_i64]; omega
            clear h0 hlu hdu hM hSW
            go_wp2_with (first | (go_at_call 21; go_must (refine (wordByteS u _).mono ?_; rintro e w' ⟨rfl, hww⟩; rw [hww, hwb]; clear hww)) | (go_at_call 23; go_must (refine CS.out.mono ?_; rintro e w' ⟨rfl, hww⟩; rw [hww]; clear hww)) | (at_builtin; go_must (refine wpList_append_own_at _ rfl _ _ 35 rfl w.heap.size 40 i0 (.agg #[.int .i64 0, .int .i64 0, .string ⟨#[]⟩, .int .i64 0]) 4 40 Tryd.underlying35 hi hz0 hz1 hz2 rfl (by decide) _ _ _ rfl OW4.out ⟨wr.heap.size, 0, none⟩ 1 1 [.int .i64 3, .int .i64 0, .string ⟨SW.toArray⟩, .int .i64 (i : Int)] rfl rfl NW.out ON.out (by unfold maxLen; omega) (by omega) (by simp; omega) ?_)) | (refine wpList_build1 rfl 35 40 _ rfl i0 _ Tryd.underlying35 hi hz0 4 hz1 [.int .i64 3, .int .i64 0, .string ⟨SW.toArray⟩, .int .i64 (i : Int)] rfl (fillT _ _ _ _) (by decide) (by decide) ?_))
            intro v' w4 hown hgrow _ _
            obtain ⟨va, vc, rfl, -⟩ := row_shape hown
            have HP := Hid.mk (Z4.out.push (w' := w4) (v := .slice va (K + 1) vc) (by unfold finK; rw [x5.out]; dsimp only; omega) (by rw [x5.out, hk4.out]; exact hown) (by rw [hk4.out]; exact hgrow) (i + SW.length) x6.out.symm)
            clear hown hgrow
            refine Hid.out ?_
            refine Lib.hid ?_
            go_wp2_with fail
            go_roundg (n - (i + SW.length))
            case measure => omega
            case rel => exact ⟨K + 1, i + SW.length, by omega, rfl, by first | rfl | go_num, HP, ⟨_, _, _, rfl⟩⟩
    · have k1 : decide ((i : Int) < (n : Int)) = false := by simp; omega
      have k1n : decide (i < n) = false := by simp; omega
      have hin2 : i = n := by omega
      have x5 : Hid (tkT t K = ⟨0, n, [], 0⟩) := by
        unfold Hid
        have h1 := hz.out.pos
        rw [sk_end (by rw [← HN.out]; omega), Nat.add_zero] at h1
        rw [tk_pos, ← h1, lex_end (by rw [← HN.out]; omega), hin2]
      have A4 : Hid (Below wr.heap.size wr (wr.alloc (.cells (tk4 ⟨0, n, [], 0⟩).toArray 40))) := below_alloc' (Below.refl _ _) _
      have Z4 := Hid.mk (hz.out.below A4.out)
      clear hin2 hin
      go_wp2_with (first | (at_builtin; go_must (refine wpList_append_own_at _ rfl _ _ 35 rfl w.heap.size 40 i0 (.agg #[.int .i64 0, .int .i64 0, .string ⟨#[]⟩, .int .i64 0]) 4 40 Tryd.underlying35 hi hz0 hz1 hz2 rfl (by decide) _ _ _ rfl Z4.out.own ⟨wr.heap.size, 0, none⟩ 1 1 (tk4 ⟨0, n, [], 0⟩) rfl rfl (newsT (w := wr) ⟨0, n, [], 0⟩ _ rfl) (oneT ⟨0, n, [], 0⟩) (by unfold maxLen; omega) (by omega) (by simp; omega) ?_)) | (refine wpList_build1 rfl 35 40 _ rfl i0 _ Tryd.underlying35 hi hz0 4 hz1 (tk4 ⟨0, n, [], 0⟩) rfl (fillT _ _ _ _) (by decide) (by decide) ?_))
      intro v' w4 hown hgrow _ _
      obtain ⟨va, vc, rfl, -⟩ := row_shape hown
      have HFIN := Hid.mk (Z4.out.fin (v := .slice va (K + 1) vc) (by unfold finK; rw [x5.out]; exact Or.inl rfl) (by rw [x5.out]; exact hown) hgrow)
      clear hown hgrow
      refine Hid.out ?_
      refine Lib.hid ?_
      go_wp2
      go_ret
      exact HFIN.out

end Go.Proofs.YtfoigigbggickaaDoor.Par
