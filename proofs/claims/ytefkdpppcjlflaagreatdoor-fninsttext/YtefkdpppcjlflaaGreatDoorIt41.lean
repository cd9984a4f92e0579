import Derived.Test.YtefkdpppcjlflaaGreatDoorIt40
import Derived.Test.YtefkdpppcjlflaaGreatDoorIt30
import Derived.Test.YtefkdpppcjlflaaGreatDoorIt33
import Derived.Shelf.Strconv.AppendIntPublic10
import Derived.Test.YtefkdpppcjlflaaGreatDoorProg
import Derived.Test.YtefkdpppcjlflaaGreatDoorIt35
namespace Go.Proofs.YtefkdpppcjlflaaGreatDoor.Back
open Go Go.RowKit Go.Proofs.YtefkdpppcjlflaaGreatDoor.Mem Go.Proofs.YtefkdpppcjlflaaGreatDoor.Valid Go.Proofs.YtefkdpppcjlflaaGreatDoor.Parse Go.Proofs.YtefkdpppcjlflaaGreatDoor.Print
set_option linter.unusedVariables false
set_option linter.unusedSimpArgs false

theorem rows_flat (f : Nat → List UInt8) : ∀ n, rows f n = ((List.range n).map f).flatten
  | 0 => rfl
  | n + 1 => by rw [rows, rows_flat f n, List.range_succ, List.map_append, List.flatten_append]; simp
theorem parse_V : ∀ (vs : List Veh) (i : Nat) (s : Acc) (rest : List UInt8), (∀ v ∈ vs, gV v = true) → s.Q = [] → s.R = [] → s.V.length + vs.length ≤ 64 → parseB ((vs.map (fun v => line (vehL v))).flatten ++ rest) i s = parseB rest (i + vs.length) { s with V := s.V ++ vs }
  | [], i, s, rest, _, _, _, _ => by simp
  | v :: r, i, s, rest, hg, hq, hr, hl => by
    rw [List.map_cons, List.flatten_cons, List.append_assoc, line_cut]
    have hv := hg v (by simp)
    rw [List.length_cons] at hl
    rw [parseB_line i (jn_no (vehL_ok hv).2 _ (Nat.le_refl _)) (line_V hv hq hr (by omega)), parse_V r (i + 1) { s with V := s.V ++ [v] } rest (fun x hx => hg x (by simp [hx])) hq hr (by simp; omega)]
    simp [Nat.add_assoc, Nat.add_comm 1]
theorem parse_Q : ∀ (qs : List Req) (i : Nat) (s : Acc) (rest : List UInt8), (∀ q ∈ qs, gQ q = true) → s.R = [] → s.Q.length + qs.length ≤ 1000 → parseB ((qs.map (fun q => line (reqL q))).flatten ++ rest) i s = parseB rest (i + qs.length) { s with Q := s.Q ++ qs }
  | [], i, s, rest, _, _, _ => by simp
  | q :: r, i, s, rest, hg, hr, hl => by
    rw [List.map_cons, List.flatten_cons, List.append_assoc, line_cut]
    have hv := hg q (by simp)
    rw [List.length_cons] at hl
    rw [parseB_line i (jn_no (reqL_ok hv).2 _ (Nat.le_refl _)) (line_Q hv hr (by omega)), parse_Q r (i + 1) { s with Q := s.Q ++ [q] } rest (fun x hx => hg x (by simp [hx])) hr (by simp; omega)]
    simp [Nat.add_assoc, Nat.add_comm 1]
/-- Roads in their order, each behind the one before. -/
def okRs (n : Int) : Option Mem.Rd → List Mem.Rd → Prop
  | _, [] => True
  | x, r :: rs => gR r n = true ∧ (match x with | none => true | some y => beforeB y r) = true ∧ okRs n (some r) rs
theorem parse_R : ∀ (rs : List Mem.Rd) (i : Nat) (s : Acc) (rest : List UInt8) (n : Int), nodesA s = n → n ≤ 4000 → okRs n s.R.getLast? rs → s.R.length + rs.length ≤ 4000 → parseB ((rs.map (fun r => line (rdL r))).flatten ++ rest) i s = parseB rest (i + rs.length) { s with R := s.R ++ rs }
  | [], i, s, rest, n, _, _, _, _ => by simp
  | r :: q, i, s, rest, n, hn, hn1, hg, hl => by
    rw [List.map_cons, List.flatten_cons, List.append_assoc, line_cut]
    obtain ⟨g1, g2, g3⟩ := hg
    rw [List.length_cons] at hl
    have hL := line_R (s := s) (r := r) hn hn1 g1 (by unfold lastBefore; exact g2) (by omega)
    rw [parseB_line i hL.2 hL.1, parse_R q (i + 1) { s with R := s.R ++ [r] } rest n hn hn1 (by simpa using g3) (by simp; omega)]
    simp [Nat.add_assoc, Nat.add_comm 1]
def accOf (I : In) : Acc := ⟨(List.range I.nV).map I.V, (List.range I.nQ).map I.Q, (List.range I.nR).map I.R⟩
theorem ok_from {I : In} (h : allB I.nR (rdOk I) = true) : ∀ (m k : Nat), k + m = I.nR → okRs (nodes I) (if k = 0 then none else some (I.R (k - 1))) ((List.range' k m).map I.R)
  | 0, k, _ => trivial
  | m + 1, k, hk => by
    rw [List.range'_succ, List.map_cons]
    have hr := allB_get h (show k < I.nR by omega)
    simp only [rdOk, Bool.and_eq_true] at hr
    refine ⟨hr.1, ?_, ?_⟩
    · by_cases h0 : k = 0
      · rw [if_pos h0]
      · rw [if_neg h0]
        have := hr.2
        simpa [h0] using this
    · have := ok_from h m (k + 1) (by omega)
      rw [if_neg (by omega), Nat.add_sub_cancel] at this
      exact this
/-- A valid instance comes back from its text. -/
theorem back {I : In} (hv : validB I = true) (hl : (text I).length ≤ 300000) : parseT (text I) = ⟨0, 0, accOf I⟩ := by
  have hgd := good hv
  simp only [validB, Bool.and_eq_true] at hv
  obtain ⟨⟨⟨_, h1⟩, h2⟩, h3⟩ := hv
  have e : text I = (((List.range I.nV).map I.V).map (fun v => line (vehL v))).flatten ++ ((((List.range I.nQ).map I.Q).map (fun q => line (reqL q))).flatten ++ ((((List.range I.nR).map I.R).map (fun r => line (rdL r))).flatten ++ [])) := by
    unfold text rowsR rowsQ rowsV
    rw [rows_flat, rows_flat, rows_flat]
    simp [List.map_map, Function.comp_def]
  unfold parseT
  rw [if_neg (by omega)]
  show parseB (text I) 0 noAcc = _
  rw [e]
  have nV : ((List.range I.nV).map I.V).length = I.nV := by simp
  have nQ : ((List.range I.nQ).map I.Q).length = I.nQ := by simp
  have nR : ((List.range I.nR).map I.R).length = I.nR := by simp
  rw [parse_V _ 0 noAcc _ (fun v hm => by
    obtain ⟨i, hi, rfl⟩ := List.mem_map.1 hm
    exact allB_get h1 (List.mem_range.1 hi)) rfl rfl (by rw [nV]; have := hgd.nV; show 0 + _ ≤ _; omega)]
  rw [parse_Q _ _ _ _ (fun v hm => by
    obtain ⟨i, hi, rfl⟩ := List.mem_map.1 hm
    exact allB_get h2 (List.mem_range.1 hi)) rfl (by rw [nQ]; have := hgd.nQ; show 0 + _ ≤ _; omega)]
  rw [parse_R _ _ _ _ (nodes I) (by unfold nodesA nodes; simp [noAcc]) (by have := hgd.nV; have := hgd.nQ; unfold nodes; omega) (by
    have := ok_from h3 I.nR 0 (by omega)
    rw [if_pos rfl] at this
    simpa [noAcc, List.range_eq_range'] using this) (by rw [nR]; have := hgd.nR; show 0 + _ ≤ _; omega)]
  rw [parseB_nil]
  simp [noAcc, accOf]
end Go.Proofs.YtefkdpppcjlflaaGreatDoor.Back
namespace Go.Proofs.YtefkdpppcjlflaaGreatDoor.Draw
open Go Go.RowKit Go.Proofs.YtefkdpppcjlflaaGreatDoor.Mem Go.Proofs.YtefkdpppcjlflaaGreatDoor.Parse
set_option linter.unusedVariables false
set_option linter.unusedSimpArgs false

theorem flat_at0 {α : Type} {f : α → List Value} {sz : Nat} (hf : ∀ x, (f x).length = sz) : ∀ (L : List α) (i : Nat) (hi : i < L.length) (j : Nat), j < sz → (L.flatMap f)[i * sz + j]? = (f L[i])[j]?
  | x :: r, 0, _, j, hj => by
    rw [List.flatMap_cons, Nat.zero_mul, Nat.zero_add, List.getElem?_append_left (by rw [hf]; exact hj)]
    rfl
  | x :: r, i + 1, hi, j, hj => by
    rw [List.flatMap_cons, List.getElem?_append_right (by rw [hf, Nat.succ_mul]; omega), hf]
    have := flat_at0 hf r i (by simpa using hi) j hj
    rw [show (i + 1) * sz + j - sz = i * sz + j by rw [Nat.succ_mul]; omega]
    simpa using this
theorem row_at {α : Type} {f : α → List Value} {sz B : Nat} {w : World} {T : TypeId} {a : Option Addr} {c : Nat} {L : List α} {n : Nat} (hf : ∀ x, (f x).length = sz) (D : Nat → α) (hD : ∀ i (h : i < L.length), D i = L[i]) (h : w.ownsRow B T sz (.slice a n c) L.length (L.flatMap f)) : SliceAt w a L.length sz (fun i => f (D i)) := by
  rcases h.2 with ⟨hv, h0⟩ | ⟨g, cap, cur, hv, -, hblk, -, -, -, ht⟩
  · exact Or.inl h0
  · injection hv with ha _ _
    refine Or.inr ⟨g, 0, ha, fun i hi j v hv => ?_⟩
    have hj : j < sz := by
      have := (List.getElem?_eq_some_iff.1 hv).1
      rwa [hf] at this
    rw [Nat.zero_add, blk_cell hblk (i * sz + j)]
    have hu : (L.flatMap f)[i * sz + j]? = some v := by rw [flat_at0 hf L i hi j hj, ← hD i hi]; exact hv
    rw [← ht, List.getElem?_take] at hu
    split at hu
    · simpa using hu
    · cases hu
def inOf (s : Acc) : In := ⟨s.V.length, s.Q.length, s.R.length, fun i => s.V.getD i zV, fun i => s.Q.getD i zQ, fun i => s.R.getD i zR⟩
theorem AccAt.shape {B : Nat} {w : World} {v1 v2 v3 : Value} {s : Acc} (h : AccAt B w v1 v2 v3 s) : ∃ a1 a2 a3 c1 c2 c3, v1 = .slice a1 s.V.length c1 ∧ v2 = .slice a2 s.Q.length c2 ∧ v3 = .slice a3 s.R.length c3 ∧ InAt w a1 a2 a3 (inOf s) := by
  obtain ⟨a1, c1, rfl, -⟩ := row_shape h.v
  obtain ⟨a2, c2, rfl, -⟩ := row_shape h.q
  obtain ⟨a3, c3, rfl, -⟩ := row_shape h.r
  refine ⟨a1, a2, a3, c1, c2, c3, rfl, rfl, rfl, ?_, ?_, ?_⟩
  · exact row_at (f := Veh.cells) (fun _ => rfl) (fun i => s.V.getD i zV) (fun i h => by simp [List.getD, h]) h.v
  · exact row_at (f := Req.cells) (fun _ => rfl) (fun i => s.Q.getD i zQ) (fun i h => by simp [List.getD, h]) h.q
  · exact row_at (f := Rd.cells) (fun _ => rfl) (fun i => s.R.getD i zR) (fun i h => by simp [List.getD, h]) h.r
theorem range_getD {α : Type} (d : α) : ∀ (L : List α), (List.range L.length).map (fun i => L.getD i d) = L := by
  intro L
  apply List.ext_getElem
  · simp
  · intro i h1 h2
    simp [List.getD_eq_getElem?_getD, List.getElem?_eq_getElem h2]
theorem acc_in (s : Acc) : Back.accOf (inOf s) = s := by
  unfold Back.accOf inOf
  simp only [range_getD]
theorem s_len (k n : Int) (L : List Rd) : (sp4 k n L).length ≤ L.length + 3 := by
  have h5 : (s5 k n L).length ≤ L.length + 1 := by unfold s5; split <;> simp
  have h6 : ∀ L : List Rd, (s6 k n L).length ≤ L.length + 1 := fun L => by unfold s6; split <;> simp
  have h7 : ∀ L : List Rd, (s7 k L).length ≤ L.length + 1 := fun L => by unfold s7; split <;> simp
  have h8 : ∀ L : List Rd, (s8 k L).length ≤ L.length := fun L => by unfold s8; split <;> simp
  unfold sp4
  have a := h8 (s7 k (s6 k n (s5 k n L)))
  have b := h7 (s6 k n (s5 k n L))
  have c := h6 (s5 k n L)
  omega
theorem print_len (bs : List UInt8) : (dPrint bs).V.length ≤ 3 ∧ (dPrint bs).Q.length ≤ 6 ∧ (dPrint bs).R.length ≤ 7 := by
  have h := inst_len bs ⟨0, startH bs.length bs⟩ 3 (dSize bs.length 6) (by omega) (dSize6 _).1
  have h6 := (dSize6 bs.length).2
  unfold dPrint
  generalize dInst bs ⟨0, startH bs.length bs⟩ 3 (dSize bs.length 6) = x at h ⊢
  unfold dMaybe
  split
  · unfold dSpoil
    dsimp only
    rw [sp2_len, sp3_len]
    exact ⟨h.1, by omega, Nat.le_trans (s_len _ _ _) (by omega)⟩
  · exact ⟨h.1, by dsimp only; omega, by dsimp only; omega⟩
end Go.Proofs.YtefkdpppcjlflaaGreatDoor.Draw
namespace Go.Proofs
open Go.Shelf
def Tryz.laysM176_ren : Go.Shelf.Ren := ⟨fun | 176 => 37 | 249 => 50 | 288 => 63 | 283 => 74 | 284 => 75 | 285 => 76 | 286 => 77 | 129 => 86 | 317 => 85 | 318 => 87 | 319 => 88 | 320 => 89 | 337 => 94 | 338 => 95 | n => n, fun | 37 => 22 | 2 => 2 | 3 => 3 | 53 => 123 | 4 => 4 | 9 => 9 | 171 => 134 | 0 => 0 | 173 => 137 | 212 => 146 | 51 => 139 | 5 => 5 | 20 => 20 | 213 => 147 | 46 => 120 | 232 => 157 | 233 => 158 | n => n, fun | 17 => 2 | 18 => 3 | 19 => 4 | n => n⟩
theorem Tryz.laysM176 : Go.Proofs.LaysM.n176 Tryz.prog Tryz.laysM176_ren := {
  mixed := by kernel_rfl
  f129 := Tryz.func86.trans (congrArg some (by kernel_rfl))
  f176 := Tryz.func37.trans (congrArg some (by kernel_rfl))
  f249 := Tryz.func50.trans (congrArg some (by kernel_rfl))
  f283 := Tryz.func74.trans (congrArg some (by kernel_rfl))
  f284 := Tryz.func75.trans (congrArg some (by kernel_rfl))
  f285 := Tryz.func76.trans (congrArg some (by kernel_rfl))
  f286 := Tryz.func77.trans (congrArg some (by kernel_rfl))
  f288 := Tryz.func63.trans (congrArg some (by kernel_rfl))
  f317 := Tryz.func85.trans (congrArg some (by kernel_rfl))
  f318 := Tryz.func87.trans (congrArg some (by kernel_rfl))
  f319 := Tryz.func88.trans (congrArg some (by kernel_rfl))
  f320 := Tryz.func89.trans (congrArg some (by kernel_rfl))
  f337 := Tryz.func94.trans (congrArg some (by kernel_rfl))
  f338 := Tryz.func95.trans (congrArg some (by kernel_rfl))
  t0 := Tryz.underlying0
  a0 := Tryz.isAgg0
  z0 := Tryz.sizeOf0
  v0 := Tryz.zeroValue0
  t2 := Tryz.underlying2
  a2 := Tryz.isAgg2
  z2 := Tryz.sizeOf2
  v2 := Tryz.zeroValue2
  t3 := Tryz.underlying3
  a3 := Tryz.isAgg3
  z3 := Tryz.sizeOf3
  v3 := Tryz.zeroValue3
  t4 := Tryz.underlying4
  a4 := Tryz.isAgg4
  z4 := Tryz.sizeOf4
  v4 := Tryz.zeroValue4
  t5 := Tryz.underlying5
  a5 := Tryz.isAgg5
  z5 := Tryz.sizeOf5
  v5 := Tryz.zeroValue5
  t9 := Tryz.underlying9
  a9 := Tryz.isAgg9
  z9 := Tryz.sizeOf9
  v9 := Tryz.zeroValue9
  t20 := Tryz.underlying20
  a20 := Tryz.isAgg20
  z20 := Tryz.sizeOf20
  v20 := Tryz.zeroValue20
  t37 := Tryz.underlying22
  a37 := Tryz.isAgg22
  z37 := Tryz.sizeOf22
  v37 := Tryz.zeroValue22
  t46 := Tryz.underlying120
  a46 := Tryz.isAgg120
  z46 := Tryz.sizeOf120
  v46 := Tryz.zeroValue120
  t51 := Tryz.underlying139
  a51 := Tryz.isAgg139
  z51 := Tryz.sizeOf139
  v51 := Tryz.zeroValue139
  t53 := Tryz.underlying123
  a53 := Tryz.isAgg123
  z53 := Tryz.sizeOf123
  v53 := Tryz.zeroValue123
  t171 := Tryz.underlying134
  a171 := Tryz.isAgg134
  z171 := Tryz.sizeOf134
  v171 := Tryz.zeroValue134
  t173 := Tryz.underlying137
  a173 := Tryz.isAgg137
  z173 := Tryz.sizeOf137
  v173 := Tryz.zeroValue137
  t212 := Tryz.underlying146
  a212 := Tryz.isAgg146
  z212 := Tryz.sizeOf146
  v212 := Tryz.zeroValue146
  t213 := Tryz.underlying147
  a213 := Tryz.isAgg147
  z213 := Tryz.sizeOf147
  t232 := Tryz.underlying157
  a232 := Tryz.isAgg157
  z232 := Tryz.sizeOf157
  v232 := Tryz.zeroValue157
  t233 := Tryz.underlying158
  a233 := Tryz.isAgg158
  z233 := Tryz.sizeOf158
  v233 := Tryz.zeroValue158
  g17 := by kernel_rfl
  g18 := by kernel_rfl
  g19 := by kernel_rfl
  i0 := by kernel_rfl
  i2 := by kernel_rfl
  i3 := by kernel_rfl
  i4 := by kernel_rfl
  i5 := by kernel_rfl
  i9 := by kernel_rfl
  i20 := by kernel_rfl
  i37 := by kernel_rfl
  i46 := by kernel_rfl
  i51 := by kernel_rfl
  i53 := by kernel_rfl
  i171 := by kernel_rfl
  i173 := by kernel_rfl
  i212 := by kernel_rfl
  i232 := by kernel_rfl
  i233 := by kernel_rfl
  m17 := by kernel_rfl
  m18 := by kernel_rfl
  m19 := by kernel_rfl }
open Go.RowKit Go.Sort Go.Lib in
theorem Tryz.strconv_AppendInt_10 (B n : Nat) (i : Int) (h0 : -9223372036854775808 ≤ i) (h1 : i ≤ 9223372036854775807) (sv : Value) (xs : List Value) (w : World) (hown : w.ownsRow B 5 1 sv n xs) (hBw : B ≤ w.heap.size) (hlim : n + 21 ≤ 140737488355328) (htab : Lib.TabBelow Tryz.prog B w "internal/strconv.uint64pow10" .u64 Lib.pow10Tab) :
    Calls Tryz.prog 37 #[sv, .int .i64 i, .int .i64 10] w fun e w' => ∃ v', e = .returned v' ∧ w'.ownsRow B 5 1 v' (n + (Lib.itoa i).length) (xs ++ Lib.byteCells (Lib.itoa i)) ∧ Below B w w' ∧ Lib.OthersKept 5 none w w' := Any.strconv_AppendInt_10 Tryz.laysM176 B n i h0 h1 sv xs w hown hBw hlim htab
end Go.Proofs
namespace Go.Proofs.YtefkdpppcjlflaaGreatDoor.Print
open Go Go.RowKit Go.Proofs.YtefkdpppcjlflaaGreatDoor.Mem
set_option linter.unusedVariables false

/-- A constant's row, marked in whatever world in which it lies. -/
theorem run_conv {P : Program} (w : World) (t e : TypeId) (g : Nat) (C : Array Value) (fr : Nat × Nat) (n c : Nat) (ht : P.underlying t = some (.slice e)) (he : P.underlying e = some (.int .u8)) (hb : w.heap[g]? = some (.cells C e fr)) :
    (convert t t (.slice (some ⟨g, 0, none⟩) n c)).run P w = .ok (.slice (some ⟨g, 0, none⟩) n c) (w.freeze ⟨g, C.size, none⟩ 1) := by
  have hsh : w.shape? g = some (e, C.size) := by
    unfold World.shape?
    rw [hb]
  simp [convert, run_underlying ht, run_underlying he, markStringish, hsh]
theorem blk_freeze {w : World} {g : Nat} {C : Array Value} {e : TypeId} {fr : Nat × Nat} (hb : w.heap[g]? = some (.cells C e fr)) (p : Addr) (n : Nat) : ∃ fr', (w.freeze p n).heap[g]? = some (.cells C e fr') := by
  unfold World.freeze
  split
  · exact ⟨fr, hb⟩
  · simp only [Array.getElem?_modify]
    split
    · rw [hb]; exact ⟨_, rfl⟩
    · exact ⟨fr, hb⟩
theorem blk_freeze_other {w : World} {g : Nat} {o : Obj} (hb : w.heap[g]? = some o) (p : Addr) (n : Nat) (hp : p.block ≠ g) : (w.freeze p n).heap[g]? = some o := by
  unfold World.freeze
  split
  · exact hb
  · simp only [Array.getElem?_modify]
    rw [if_neg hp]; exact hb
theorem cell_freeze {w : World} {a : Addr} {v : Value} (h : w.cell? a = some v) (p : Addr) (n : Nat) : (w.freeze p n).cell? a = some v := by
  have hs := h
  unfold World.cell? at h ⊢
  cases hb : w.heap[a.block]? with
  | none => rw [hb] at h; simp at h
  | some o =>
    cases o with
    | cells C e fr =>
      obtain ⟨fr', h'⟩ := blk_freeze hb p n
      rw [hb] at h
      rw [h']
      exact h
    | _ => rw [hb] at h; simp at h
theorem size_freeze (w : World) (p : Addr) (n : Nat) : (w.freeze p n).heap.size = w.heap.size := by
  unfold World.freeze
  split <;> simp
theorem Rb.freeze {w : World} {g o n : Nat} {bs : List UInt8} (h : Rb w g o n bs) (p : Addr) (m : Nat) : Rb (w.freeze p m) g o n bs :=
  ⟨h.1, by rw [size_freeze]; exact h.2.1, fun j u hu => cell_freeze (h.2.2 j u hu) p m⟩
theorem Rb.drew {w : World} {g o n : Nat} {bs : List UInt8} (h : Rb w g o n bs) : Rb w.drew g o n bs := h
theorem Rb.blk {w : World} {g : Nat} {bs : List UInt8} {cs : Array Value} {t : TypeId} {fr : Nat × Nat} (h : w.heap[g]? = some (.cells cs t fr)) (hc : cs = (Lib.byteCells bs).toArray) : Rb w g 0 bs.length bs := by
  subst hc
  refine ⟨rfl, blk_lt h, fun j u hu => ?_⟩
  rw [Addr.add_mid, Nat.zero_add, blk_cell h j]
  simpa using hu
theorem Rb.new1 (w : World) (o : Obj) (bs : List UInt8) (cs : Array Value) (t : TypeId) (fr : Nat × Nat) (hc : cs = (Lib.byteCells bs).toArray) : Rb ((w.alloc o).alloc (.cells cs t fr)) (w.heap.size + 1) 0 bs.length bs := Rb.blk (blk_new1 _ _ _) hc
theorem blk_drew {w : World} {g : Nat} {o : Obj} (h : w.heap[g]? = some o) : w.drew.heap[g]? = some o := h
theorem Rb.newn {w : World} {bs : List UInt8} {cs : Array Value} {t : TypeId} {fr : Nat × Nat} {n : Nat} (hn : n = bs.length) (hc : cs = (Lib.byteCells bs).toArray) : Rb (w.alloc (.cells cs t fr)) w.heap.size 0 n bs := by
  rw [hn]; exact Rb.new w bs cs t fr hc
theorem Rb.newn1 {w : World} {o : Obj} {bs : List UInt8} {cs : Array Value} {t : TypeId} {fr : Nat × Nat} {n : Nat} (hn : n = bs.length) (hc : cs = (Lib.byteCells bs).toArray) : Rb ((w.alloc o).alloc (.cells cs t fr)) (w.heap.size + 1) 0 n bs := by
  rw [hn]; exact Rb.new1 w o bs cs t fr hc
theorem Rb.blkn {w : World} {g : Nat} {bs : List UInt8} {cs : Array Value} {t : TypeId} {fr : Nat × Nat} {n : Nat} (h : w.heap[g]? = some (.cells cs t fr)) (hn : n = bs.length) (hc : cs = (Lib.byteCells bs).toArray) : Rb w g 0 n bs := by
  rw [hn]; exact Rb.blk h hc
theorem cells_of_blk {w : World} {g : Nat} {vs : List Value} {t : TypeId} {fr : Nat × Nat} (h : w.heap[g]? = some (.cells vs.toArray t fr)) : ∀ j u, vs[j]? = some u → w.cell? ((⟨g, 0, none⟩ : Addr).add j) = some u := by
  intro j u hu
  rw [Addr.add_mid, Nat.zero_add, blk_cell h j]
  simpa using hu
theorem blk_grown {w w' : World} {g : Nat} {o : Obj} {row : Option Nat} (h : w.heap[g]? = some o) (hg : w.grownBy w' row) (hne : row ≠ some g) : w'.heap[g]? = some o := by
  obtain ⟨_, _, _, _, h5⟩ := hg
  rw [h5 g (blk_lt h) (Ne.symm hne)]; exact h
theorem below_grows {w w' : World} (hg : w.grownBy w' none) : Below w.heap.size w w' := (Below.refl _ _).grown hg (Nat.le_refl _) (fun k hk => by cases hk)
theorem own_empty1 (w : World) (o : Obj) : Own (w.heap.size + 1) ((w.alloc o).alloc (.cells #[] 5)) (.slice (some ⟨w.heap.size + 1, 0, none⟩) 0 0) [] := by
  have := own_empty (w.alloc o) _ rfl
  rw [World.size_alloc] at this
  exact this
theorem ownsRow_below {B size n : Nat} {e : TypeId} {w w' : World} {v : Value} {xs : List Value} (h : w.ownsRow B e size v n xs) (hb : Below w.heap.size w w') : w'.ownsRow B e size v n xs := by
  refine ⟨h.1, ?_⟩
  rcases h.2 with h0 | ⟨g, cap, cur, h1, h2, h3, h4⟩
  · exact Or.inl h0
  · exact Or.inr ⟨g, cap, cur, h1, h2, blk_below h3 hb, h4⟩
theorem lit_at {X w1 : World} (C : Array Value) (t : TypeId) (hb : Below (X.alloc (.cells C t)).heap.size (X.alloc (.cells C t)) w1) : w1.heap[X.heap.size]? = some (.cells C t) := blk_below (blk_new _ _) hb
theorem lit_atd {X w1 : World} (C : Array Value) (t : TypeId) (hb : Below (X.alloc (.cells C t)).drew.heap.size (X.alloc (.cells C t)).drew w1) : w1.heap[X.heap.size]? = some (.cells C t) := blk_below (w := (X.alloc (.cells C t)).drew) (blk_new _ _) hb
end Go.Proofs.YtefkdpppcjlflaaGreatDoor.Print
