import Derived.Test.YtfoigigbggickaaDoorPq42
namespace Go.Proofs.YtfoigigbggickaaDoor.Par
open Go Go.RowKit Go.Proofs.YtfoigigbggickaaDoor.Mem Go.Proofs.YtfoigigbggickaaDoor.Syn Go.Proofs.YtfoigigbggickaaDoor.Parse
set_option linter.unusedVariables false
set_option linter.unusedSimpArgs false
set_option maxHeartbeats 6400000
set_option maxRecDepth 1000000
attribute [local go_sem ↓] Go.wp_at_zero Go.wp_at_succ
theorem itC3A {w wr : World} {k : Int} {Q : Exit → Act → World → Prop} {v0 v3 v7 v8 v9 v10 v11 v12 : Value} {r : List Value} (hr : r.length = 122) {A B : Code} (hk : k = 1) (hn : Hid (∀ r', r'.length = 122 → Code.wp Tryd.prog A Q (Fi w k v0 v3 v7 v8 v9 v10 v11 v12 r') wr)) :
    Code.wp Tryd.prog (.seq (sL (sL (sR (sR (sR y0))))) (.cond (.tmp 20) A B)) Q (Fi w k v0 v3 v7 v8 v9 v10 v11 v12 r) wr := by
  have h1 : (k == 1) = true := by simp; omega
  clear hk
  revert r
  refine @elim_out 122 _ ?_
  iterate 122 (intro _)
  show Code.wp _ _ _ _ _
  conv => arg 2; dsimp only [y0, Tryd.f15, Option.getD, sR, sL, cT, cF, bk, lpo]
  conv => arg 4; dsimp only [Fi]
  go_wp2_with fail
  refine hn.out _ ?_
  rfl
theorem itC3B {w wr : World} {k : Int} {Q : Exit → Act → World → Prop} {v0 v3 v7 v8 v9 v10 v11 v12 : Value} {r : List Value} (hr : r.length = 122) {A B : Code} (hk : k ≠ 1) (hn : Hid (∀ r', r'.length = 122 → Code.wp Tryd.prog B Q (Fi w k v0 v3 v7 v8 v9 v10 v11 v12 r') wr)) :
    Code.wp Tryd.prog (.seq (sL (sL (sR (sR (sR y0))))) (.cond (.tmp 20) A B)) Q (Fi w k v0 v3 v7 v8 v9 v10 v11 v12 r) wr := by
  have h1 : (k == 1) = false := by simp; omega
  clear hk
  revert r
  refine @elim_out 122 _ ?_
  iterate 122 (intro _)
  show Code.wp _ _ _ _ _
  conv => arg 2; dsimp only [y0, Tryd.f15, Option.getD, sR, sL, cT, cF, bk, lpo]
  conv => arg 4; dsimp only [Fi]
  go_wp2_with fail
  refine hn.out _ ?_
  rfl
theorem itC10A {w wr : World} {k : Int} {Q : Exit → Act → World → Prop} {v0 v3 v7 v8 v9 v10 v11 v12 : Value} {r : List Value} (hr : r.length = 122) {A B : Code} (hk : k = 4) (hn : Hid (∀ r', r'.length = 122 → Code.wp Tryd.prog A Q (Fi w k v0 v3 v7 v8 v9 v10 v11 v12 r') wr)) :
    Code.wp Tryd.prog (.seq (sL (sL (sR (sR (sR (sR (sR (sR (sR (sR (sR (sR y0)))))))))))) (.cond (.tmp 57) A B)) Q (Fi w k v0 v3 v7 v8 v9 v10 v11 v12 r) wr := by
  have h4 : (k == 4) = true := by simp; omega
  clear hk
  revert r
  refine @elim_out 122 _ ?_
  iterate 122 (intro _)
  show Code.wp _ _ _ _ _
  conv => arg 2; dsimp only [y0, Tryd.f15, Option.getD, sR, sL, cT, cF, bk, lpo]
  conv => arg 4; dsimp only [Fi]
  go_wp2_with fail
  refine hn.out _ ?_
  rfl
theorem itC10B {w wr : World} {k : Int} {Q : Exit → Act → World → Prop} {v0 v3 v7 v8 v9 v10 v11 v12 : Value} {r : List Value} (hr : r.length = 122) {A B : Code} (hk : k ≠ 4) (hn : Hid (∀ r', r'.length = 122 → Code.wp Tryd.prog B Q (Fi w k v0 v3 v7 v8 v9 v10 v11 v12 r') wr)) :
    Code.wp Tryd.prog (.seq (sL (sL (sR (sR (sR (sR (sR (sR (sR (sR (sR (sR y0)))))))))))) (.cond (.tmp 57) A B)) Q (Fi w k v0 v3 v7 v8 v9 v10 v11 v12 r) wr := by
  have h4 : (k == 4) = false := by simp; omega
  clear hk
  revert r
  refine @elim_out 122 _ ?_
  iterate 122 (intro _)
  show Code.wp _ _ _ _ _
  conv => arg 2; dsimp only [y0, Tryd.f15, Option.getD, sR, sL, cT, cF, bk, lpo]
  conv => arg 4; dsimp only [Fi]
  go_wp2_with fail
  refine hn.out _ ?_
  rfl
theorem itC12A {w wr : World} {k : Int} {Q : Exit → Act → World → Prop} {v0 v3 v7 v8 v9 v10 v11 v12 : Value} {r : List Value} (hr : r.length = 122) {A B : Code} (hk : k = 5) (hn : Hid (∀ r', r'.length = 122 → Code.wp Tryd.prog A Q (Fi w k v0 v3 v7 v8 v9 v10 v11 v12 r') wr)) :
    Code.wp Tryd.prog (.seq (sL (sL (sR (sR (sR (sR (sR (sR (sR (sR (sR (sR (sR (sR y0)))))))))))))) (.cond (.tmp 86) A B)) Q (Fi w k v0 v3 v7 v8 v9 v10 v11 v12 r) wr := by
  have h5 : (k == 5) = true := by simp; omega
  clear hk
  revert r
  refine @elim_out 122 _ ?_
  iterate 122 (intro _)
  show Code.wp _ _ _ _ _
  conv => arg 2; dsimp only [y0, Tryd.f15, Option.getD, sR, sL, cT, cF, bk, lpo]
  conv => arg 4; dsimp only [Fi]
  go_wp2_with fail
  refine hn.out _ ?_
  rfl
theorem itC12B {w wr : World} {k : Int} {Q : Exit → Act → World → Prop} {v0 v3 v7 v8 v9 v10 v11 v12 : Value} {r : List Value} (hr : r.length = 122) {A B : Code} (hk : k ≠ 5) (hn : Hid (∀ r', r'.length = 122 → Code.wp Tryd.prog B Q (Fi w k v0 v3 v7 v8 v9 v10 v11 v12 r') wr)) :
    Code.wp Tryd.prog (.seq (sL (sL (sR (sR (sR (sR (sR (sR (sR (sR (sR (sR (sR (sR y0)))))))))))))) (.cond (.tmp 86) A B)) Q (Fi w k v0 v3 v7 v8 v9 v10 v11 v12 r) wr := by
  have h5 : (k == 5) = false := by simp; omega
  clear hk
  revert r
  refine @elim_out 122 _ ?_
  iterate 122 (intro _)
  show Code.wp _ _ _ _ _
  conv => arg 2; dsimp only [y0, Tryd.f15, Option.getD, sR, sL, cT, cF, bk, lpo]
  conv => arg 4; dsimp only [Fi]
  go_wp2_with fail
  refine hn.out _ ?_
  rfl
theorem itC13A {w wr : World} {k : Int} {Q : Exit → Act → World → Prop} {v0 v3 v7 v8 v9 v10 v11 v12 : Value} {r : List Value} (hr : r.length = 122) {A B : Code} (hk : k = 6) (hn : Hid (∀ r', r'.length = 122 → Code.wp Tryd.prog A Q (Fi w k v0 v3 v7 v8 v9 v10 v11 v12 r') wr)) :
    Code.wp Tryd.prog (.seq (sL (sL (sR (sR (sR (sR (sR (sR (sR (sR (sR (sR (sR (sR (sR y0))))))))))))))) (.cond (.tmp 95) A B)) Q (Fi w k v0 v3 v7 v8 v9 v10 v11 v12 r) wr := by
  have h6 : (k == 6) = true := by simp; omega
  clear hk
  revert r
  refine @elim_out 122 _ ?_
  iterate 122 (intro _)
  show Code.wp _ _ _ _ _
  conv => arg 2; dsimp only [y0, Tryd.f15, Option.getD, sR, sL, cT, cF, bk, lpo]
  conv => arg 4; dsimp only [Fi]
  go_wp2_with fail
  refine hn.out _ ?_
  rfl
theorem itC13B {w wr : World} {k : Int} {Q : Exit → Act → World → Prop} {v0 v3 v7 v8 v9 v10 v11 v12 : Value} {r : List Value} (hr : r.length = 122) {A B : Code} (hk : k ≠ 6) (hn : Hid (∀ r', r'.length = 122 → Code.wp Tryd.prog B Q (Fi w k v0 v3 v7 v8 v9 v10 v11 v12 r') wr)) :
    Code.wp Tryd.prog (.seq (sL (sL (sR (sR (sR (sR (sR (sR (sR (sR (sR (sR (sR (sR (sR y0))))))))))))))) (.cond (.tmp 95) A B)) Q (Fi w k v0 v3 v7 v8 v9 v10 v11 v12 r) wr := by
  have h6 : (k == 6) = false := by simp; omega
  clear hk
  revert r
  refine @elim_out 122 _ ?_
  iterate 122 (intro _)
  show Code.wp _ _ _ _ _
  conv => arg 2; dsimp only [y0, Tryd.f15, Option.getD, sR, sL, cT, cF, bk, lpo]
  conv => arg 4; dsimp only [Fi]
  go_wp2_with fail
  refine hn.out _ ?_
  rfl
theorem itC14A {w wr : World} {k : Int} {Q : Exit → Act → World → Prop} {v0 v3 v7 v8 v9 v10 v11 v12 : Value} {r : List Value} (hr : r.length = 122) {A B : Code} (hk : k = 7) (hn : Hid (∀ r', r'.length = 122 → Code.wp Tryd.prog A Q (Fi w k v0 v3 v7 v8 v9 v10 v11 v12 r') wr)) :
    Code.wp Tryd.prog (.seq (sL (sL (sR (sR (sR (sR (sR (sR (sR (sR (sR (sR (sR (sR (sR (sR y0)))))))))))))))) (.cond (.tmp 107) A B)) Q (Fi w k v0 v3 v7 v8 v9 v10 v11 v12 r) wr := by
  have h7 : (k == 7) = true := by simp; omega
  clear hk
  revert r
  refine @elim_out 122 _ ?_
  iterate 122 (intro _)
  show Code.wp _ _ _ _ _
  conv => arg 2; dsimp only [y0, Tryd.f15, Option.getD, sR, sL, cT, cF, bk, lpo]
  conv => arg 4; dsimp only [Fi]
  go_wp2_with fail
  refine hn.out _ ?_
  rfl
theorem itC14B {w wr : World} {k : Int} {Q : Exit → Act → World → Prop} {v0 v3 v7 v8 v9 v10 v11 v12 : Value} {r : List Value} (hr : r.length = 122) {A B : Code} (hk : k ≠ 7) (hn : Hid (∀ r', r'.length = 122 → Code.wp Tryd.prog B Q (Fi w k v0 v3 v7 v8 v9 v10 v11 v12 r') wr)) :
    Code.wp Tryd.prog (.seq (sL (sL (sR (sR (sR (sR (sR (sR (sR (sR (sR (sR (sR (sR (sR (sR y0)))))))))))))))) (.cond (.tmp 107) A B)) Q (Fi w k v0 v3 v7 v8 v9 v10 v11 v12 r) wr := by
  have h7 : (k == 7) = false := by simp; omega
  clear hk
  revert r
  refine @elim_out 122 _ ?_
  iterate 122 (intro _)
  show Code.wp _ _ _ _ _
  conv => arg 2; dsimp only [y0, Tryd.f15, Option.getD, sR, sL, cT, cF, bk, lpo]
  conv => arg 4; dsimp only [Fi]
  go_wp2_with fail
  refine hn.out _ ?_
  rfl
theorem itC15A {w wr : World} {k : Int} {Q : Exit → Act → World → Prop} {v0 v3 v7 v8 v9 v10 v11 v12 : Value} {r : List Value} (hr : r.length = 122) {A B : Code} (hk : k = 9) (hn : Hid (∀ r', r'.length = 122 → Code.wp Tryd.prog A Q (Fi w k v0 v3 v7 v8 v9 v10 v11 v12 r') wr)) :
    Code.wp Tryd.prog (.seq (sL (sL (sR (sR (sR (sR (sR (sR (sR (sR (sR (sR (sR (sR (sR (sR (sR y0))))))))))))))))) (.cond (.tmp 114) A B)) Q (Fi w k v0 v3 v7 v8 v9 v10 v11 v12 r) wr := by
  have h9 : (k == 9) = true := by simp; omega
  clear hk
  revert r
  refine @elim_out 122 _ ?_
  iterate 122 (intro _)
  show Code.wp _ _ _ _ _
  conv => arg 2; dsimp only [y0, Tryd.f15, Option.getD, sR, sL, cT, cF, bk, lpo]
  conv => arg 4; dsimp only [Fi]
  go_wp2_with fail
  refine hn.out _ ?_
  rfl
theorem itC15B {w wr : World} {k : Int} {Q : Exit → Act → World → Prop} {v0 v3 v7 v8 v9 v10 v11 v12 : Value} {r : List Value} (hr : r.length = 122) {A B : Code} (hk : k ≠ 9) (hn : Hid (∀ r', r'.length = 122 → Code.wp Tryd.prog B Q (Fi w k v0 v3 v7 v8 v9 v10 v11 v12 r') wr)) :
    Code.wp Tryd.prog (.seq (sL (sL (sR (sR (sR (sR (sR (sR (sR (sR (sR (sR (sR (sR (sR (sR (sR y0))))))))))))))))) (.cond (.tmp 114) A B)) Q (Fi w k v0 v3 v7 v8 v9 v10 v11 v12 r) wr := by
  have h9 : (k == 9) = false := by simp; omega
  clear hk
  revert r
  refine @elim_out 122 _ ?_
  iterate 122 (intro _)
  show Code.wp _ _ _ _ _
  conv => arg 2; dsimp only [y0, Tryd.f15, Option.getD, sR, sL, cT, cF, bk, lpo]
  conv => arg 4; dsimp only [Fi]
  go_wp2_with fail
  refine hn.out _ ?_
  rfl
theorem itC11A {w wr : World} {k : Int} {Q : Exit → Act → World → Prop} {v0 v3 v7 v8 v9 v10 v11 v12 : Value} {r : List Value} (hr : r.length = 122) {A B : Code} (hk : k = 4) (hn : Hid (∀ r', r'.length = 122 → Code.wp Tryd.prog A Q (Fi w k v0 v3 v7 v8 v9 v10 v11 v12 r') wr)) :
    Code.wp Tryd.prog (.seq (sL (sL (sR (sR (sR (sR (sR (sR (sR (sR (sR (sR (sR y0))))))))))))) (.cond (.tmp 70) A B)) Q (Fi w k v0 v3 v7 v8 v9 v10 v11 v12 r) wr := by
  have h4 : (k == 4) = true := by simp; omega
  clear hk
  revert r
  refine @elim_out 122 _ ?_
  iterate 122 (intro _)
  show Code.wp _ _ _ _ _
  conv => arg 2; dsimp only [y0, Tryd.f15, Option.getD, sR, sL, cT, cF, bk, lpo]
  conv => arg 4; dsimp only [Fi]
  go_wp2_with fail
  refine hn.out _ ?_
  rfl
theorem itC11C {w wr : World} {k : Int} {Q : Exit → Act → World → Prop} {v0 v3 v7 v8 v9 v10 v11 v12 : Value} {r : List Value} (hr : r.length = 122) {A B : Code} (hk : k = 8) (hn : Hid (∀ r', r'.length = 122 → Code.wp Tryd.prog A Q (Fi w k v0 v3 v7 v8 v9 v10 v11 v12 r') wr)) :
    Code.wp Tryd.prog (.seq (sL (sL (sR (sR (sR (sR (sR (sR (sR (sR (sR (sR (sR y0))))))))))))) (.cond (.tmp 70) A B)) Q (Fi w k v0 v3 v7 v8 v9 v10 v11 v12 r) wr := by
  have h4 : (k == 4) = false := by simp; omega
  have h8 : (k == 8) = true := by simp; omega
  clear hk
  revert r
  refine @elim_out 122 _ ?_
  iterate 122 (intro _)
  show Code.wp _ _ _ _ _
  conv => arg 2; dsimp only [y0, Tryd.f15, Option.getD, sR, sL, cT, cF, bk, lpo]
  conv => arg 4; dsimp only [Fi]
  go_wp2_with fail
  refine hn.out _ ?_
  rfl
theorem itC11B {w wr : World} {k : Int} {Q : Exit → Act → World → Prop} {v0 v3 v7 v8 v9 v10 v11 v12 : Value} {r : List Value} (hr : r.length = 122) {A B : Code} (hk : k ≠ 4 ∧ k ≠ 8) (hn : Hid (∀ r', r'.length = 122 → Code.wp Tryd.prog B Q (Fi w k v0 v3 v7 v8 v9 v10 v11 v12 r') wr)) :
    Code.wp Tryd.prog (.seq (sL (sL (sR (sR (sR (sR (sR (sR (sR (sR (sR (sR (sR y0))))))))))))) (.cond (.tmp 70) A B)) Q (Fi w k v0 v3 v7 v8 v9 v10 v11 v12 r) wr := by
  have h4 : (k == 4) = false := by simp; omega
  have h8 : (k == 8) = false := by simp; omega
  clear hk
  revert r
  refine @elim_out 122 _ ?_
  iterate 122 (intro _)
  show Code.wp _ _ _ _ _
  conv => arg 2; dsimp only [y0, Tryd.f15, Option.getD, sR, sL, cT, cF, bk, lpo]
  conv => arg 4; dsimp only [Fi]
  go_wp2_with fail
  refine hn.out _ ?_
  rfl
theorem itC9A {w wr : World} {k : Int} {Q : Exit → Act → World → Prop} {v0 v3 v7 v8 v9 v10 v11 v12 : Value} {r : List Value} (hr : r.length = 122) {A B : Code} (hk : k ≠ 6 ∧ k ≠ 7) (hn : Hid (∀ r', r'.length = 122 → Code.wp Tryd.prog A Q (Fi w k v0 v3 v7 v8 v9 v10 v11 v12 r') wr)) :
    Code.wp Tryd.prog (.seq (sL (sL (sR (sR (sR (sR (sR (sR (sR (sR (sR y0))))))))))) (.cond (.tmp 50) A B)) Q (Fi w k v0 v3 v7 v8 v9 v10 v11 v12 r) wr := by
  have CH := Hid.mk (hasES k true (by simp [hk.1, hk.2]) wr)
  clear hk
  revert r
  refine @elim_out 122 _ ?_
  iterate 122 (intro _)
  show Code.wp _ _ _ _ _
  conv => arg 2; dsimp only [y0, Tryd.f15, Option.getD, sR, sL, cT, cF, bk, lpo]
  conv => arg 4; dsimp only [Fi]
  go_wp2_with (go_at_call 26; go_must (refine CH.out.mono ?_; rintro e' w' ⟨rfl, hww⟩; rw [hww]; clear hww))
  refine hn.out _ ?_
  rfl
theorem itC9B {w wr : World} {k : Int} {Q : Exit → Act → World → Prop} {v0 v3 v7 v8 v9 v10 v11 v12 : Value} {r : List Value} (hr : r.length = 122) {A B : Code} (hk : k = 6 ∨ k = 7) (hn : Hid (∀ r', r'.length = 122 → Code.wp Tryd.prog B Q (Fi w k v0 v3 v7 v8 v9 v10 v11 v12 r') wr)) :
    Code.wp Tryd.prog (.seq (sL (sL (sR (sR (sR (sR (sR (sR (sR (sR (sR y0))))))))))) (.cond (.tmp 50) A B)) Q (Fi w k v0 v3 v7 v8 v9 v10 v11 v12 r) wr := by
  have CH := Hid.mk (hasES k false (by rcases hk with e | e <;> rw [e] <;> rfl) wr)
  clear hk
  revert r
  refine @elim_out 122 _ ?_
  iterate 122 (intro _)
  show Code.wp _ _ _ _ _
  conv => arg 2; dsimp only [y0, Tryd.f15, Option.getD, sR, sL, cT, cF, bk, lpo]
  conv => arg 4; dsimp only [Fi]
  go_wp2_with (go_at_call 26; go_must (refine CH.out.mono ?_; rintro e' w' ⟨rfl, hww⟩; rw [hww]; clear hww))
  refine hn.out _ ?_
  rfl
end Go.Proofs.YtfoigigbggickaaDoor.Par
namespace Go.Proofs.YtfoigigbggickaaDoor.Par
open Go Go.RowKit Go.Proofs.YtfoigigbggickaaDoor.Mem Go.Proofs.YtfoigigbggickaaDoor.Syn Go.Proofs.YtfoigigbggickaaDoor.Parse
set_option linter.unusedVariables false
set_option linter.unusedSimpArgs false
set_option maxHeartbeats 6400000
set_option maxRecDepth 1000000
attribute [local go_sem ↓] Go.wp_at_zero Go.wp_at_succ
theorem mj_start {g N c : Nat} {k : Int} {w : World} {s : Sg} : Mj g N c w ⟨s.i + 1, s.o, s.e, s.a⟩ #[.int .i64 k, .string ⟨#[]⟩, .slice none 0 0, .slice none 0 0, .int .i64 0, .int .i64 0, .int .i64 0] ((((w.alloc (.cells #[.slice (some ⟨g, 0, none⟩) N c, .int .i64 ((s.i : Int) + 1), .int .i64 (s.o : Int), .int .i64 s.e, .int .i64 (s.a : Int)] 38)).alloc (.cells #[.slice none 0 0, .int .i64 0, .int .i64 0, .int .i64 0, .int .i64 0] 38)).alloc (.cells #[.int .i64 0, .string ⟨#[]⟩, .slice none 0 0, .slice none 0 0, .int .i64 0, .int .i64 0, .int .i64 0] 45)).alloc (.cells #[.int .i64 k, .string ⟨#[]⟩, .slice none 0 0, .slice none 0 0, .int .i64 0, .int .i64 0, .int .i64 0] 45)) :=
  ⟨by show _ = some (Obj.cells #[_, .int .i64 ((s.i + 1 : Nat) : Int), _, _, _] _); rw [show ((s.i + 1 : Nat) : Int) = (s.i : Int) + 1 by omega]; exact blk_alloc (blk_alloc (blk_alloc (blk_new _ _) _) _) _, blk_alloc (blk_alloc (blk_new1 _ _ _) _) _, blk_alloc (by have := blk_new ((w.alloc (.cells #[.slice (some ⟨g, 0, none⟩) N c, .int .i64 ((s.i : Int) + 1), .int .i64 (s.o : Int), .int .i64 s.e, .int .i64 (s.a : Int)] 38)).alloc (.cells #[.slice none 0 0, .int .i64 0, .int .i64 0, .int .i64 0, .int .i64 0] 38)) (.cells #[.int .i64 0, .string ⟨#[]⟩, .slice none 0 0, .slice none 0 0, .int .i64 0, .int .i64 0, .int .i64 0] 45); rw [show ((w.alloc (.cells #[.slice (some ⟨g, 0, none⟩) N c, .int .i64 ((s.i : Int) + 1), .int .i64 (s.o : Int), .int .i64 s.e, .int .i64 (s.a : Int)] 38)).alloc (.cells #[.slice none 0 0, .int .i64 0, .int .i64 0, .int .i64 0, .int .i64 0] 38)).heap.size = w.heap.size + 2 by simp] at this; exact this) _, by have := blk_new (((w.alloc (.cells #[.slice (some ⟨g, 0, none⟩) N c, .int .i64 ((s.i : Int) + 1), .int .i64 (s.o : Int), .int .i64 s.e, .int .i64 (s.a : Int)] 38)).alloc (.cells #[.slice none 0 0, .int .i64 0, .int .i64 0, .int .i64 0, .int .i64 0] 38)).alloc (.cells #[.int .i64 0, .string ⟨#[]⟩, .slice none 0 0, .slice none 0 0, .int .i64 0, .int .i64 0, .int .i64 0] 45)) (.cells #[.int .i64 k, .string ⟨#[]⟩, .slice none 0 0, .slice none 0 0, .int .i64 0, .int .i64 0, .int .i64 0] 45); rw [show (((w.alloc (.cells #[.slice (some ⟨g, 0, none⟩) N c, .int .i64 ((s.i : Int) + 1), .int .i64 (s.o : Int), .int .i64 s.e, .int .i64 (s.a : Int)] 38)).alloc (.cells #[.slice none 0 0, .int .i64 0, .int .i64 0, .int .i64 0, .int .i64 0] 38)).alloc (.cells #[.int .i64 0, .string ⟨#[]⟩, .slice none 0 0, .slice none 0 0, .int .i64 0, .int .i64 0, .int .i64 0] 45)).heap.size = w.heap.size + 3 by simp] at this; exact this, below_alloc' (below_alloc' (below_alloc' (below_alloc' (Below.refl _ _) _) _) _) _⟩
theorem itStart {g N c : Nat} {k : Int} {w : World} {s : Sg} {Q : Exit → Act → World → Prop} {D : Code} {r : List Value} (hr : r.length = 133) (hi : s.i ≤ 100000) (hn : Hid (∀ v0 v3 v7 v8 v9 v10 v11 v12 r' wx, r'.length = 122 → Mj g N c w ⟨s.i + 1, s.o, s.e, s.a⟩ #[.int .i64 k, .string ⟨#[]⟩, .slice none 0 0, .slice none 0 0, .int .i64 0, .int .i64 0, .int .i64 0] wx → Code.wp Tryd.prog D Q (Fi w k v0 v3 v7 v8 v9 v10 v11 v12 r') wx)) :
    Code.wp Tryd.prog (.seq (sL y0) (.seq (sL (sR y0)) (.seq (sL (sR (sR y0))) D))) Q { tmps := (Value.agg #[.slice (some ⟨g, 0, none⟩) N c, .int .i64 (s.i : Int), .int .i64 (s.o : Int), .int .i64 s.e, .int .i64 (s.a : Int)] :: .int .i64 k :: r).toArray, defers := [] } w := by
  have hM := Hid.mk (mj_start (g := g) (N := N) (c := c) (k := k) (w := w) (s := s))
  have e9 : IntKind.i64.wrap ((s.i : Int) + 1) = (s.i : Int) + 1 := by rw [IntKind.wrap_i64]; omega
  revert r
  refine @elim_out 133 _ ?_
  iterate 133 (intro _)
  show Code.wp _ _ _ _ _
  conv => arg 2; dsimp only [y0, Tryd.f15, Option.getD, sR, sL, cT, cF, bk, lpo]
  conv =>
    arg 4
    dsimp only
  go_wp2_with fail
  refine hn.out _ _ _ _ _ _ _ _ _ _ ?_ hM.out
  rfl
theorem itTok4 {t : List UInt8} {g N c : Nat} {w wr : World} {s : Sg} {C : Array Value} {k : Int} {Q : Exit → Act → World → Prop} {v0 v3 v7 v8 v9 v10 v11 v12 : Value} {r : List Value} (hr : r.length = 122) {x : Tk} (hx : Hid (x = tkT t s.i)) (hT : Hid (Tq t N g w)) (hN : Hid (Nf t N)) (hi : s.i < N) (M : Hid (Mj g N c w s C wr)) (hn : Hid (∀ r' bt wx, r'.length = 122 → Below wr.heap.size wr wx → w.heap.size + 4 ≤ bt → wx.heap[bt]? = some (.cells #[.int .i64 (kS x), .int .i64 x.v, .string ⟨(wS x).toArray⟩, .int .i64 (x.at' : Int)] 40) → Q .normal (Fi w k v0 v3 (.pointer (some ⟨bt, 0, none⟩)) v8 v9 v10 v11 v12 r') wx)) :
    Code.wp Tryd.prog (sL yLT) Q (Fi w k v0 v3 v7 v8 v9 v10 v11 v12 r) wr := by
  have hN5 := hN.out.le
  have Q0 := hT.out.below M.out.bel
  have zz0 := Q0.c0 s.i hi
  have zz1 := Q0.c1 s.i hi
  have zz2 := Q0.c2 s.i hi
  have zz3 := Q0.c3 s.i hi
  rw [← hx.out] at zz0 zz1 zz2 zz3
  have hgl := lt_of_cell zz0
  have hbt : w.heap.size + 4 ≤ wr.heap.size := by have := blk_lt M.out.it; omega
  clear Q0
  have k0 : (0 : Int) ≤ (s.i : Int) := by omega
  have k1 : (s.i : Int) < (N : Int) := by omega
  have b0 := (blk_cell M.out.b 0).trans rfl
  have b1 := (blk_cell M.out.b 1).trans rfl
  revert r
  refine @elim_out 122 _ ?_
  iterate 122 (intro _)
  show Code.wp _ _ _ _ _
  conv => arg 2; dsimp only [yLT, y0, Tryd.f15, Option.getD, sR, sL, cT, cF, bk, lpo]
  conv => arg 4; dsimp only [Fi]
  go_wp2_with fail
  refine hn.out _ _ _ ?_ (below_alloc' (Below.refl _ _) _) hbt (blk_new _ _)
  rfl
theorem itC5A {w wr : World} {k : Int} {Q : Exit → Act → World → Prop} {v0 v3 v8 v9 v10 v11 v12 : Value} {r : List Value} (hr : r.length = 122) {A B : Code} {x : Tk} {bt : Nat} (T1 : Hid (wr.heap[bt]? = some (.cells #[.int .i64 (kS x), .int .i64 x.v, .string ⟨(wS x).toArray⟩, .int .i64 (x.at' : Int)] 40))) (hk : kS x ≠ 1) (hn : Hid (∀ r', r'.length = 122 → Code.wp Tryd.prog A Q (Fi w k v0 v3 (.pointer (some ⟨bt, 0, none⟩)) v8 v9 v10 v11 v12 r') wr)) :
    Code.wp Tryd.prog (.seq (sL (sL (sR yLT))) (.cond (.tmp 34) A B)) Q (Fi w k v0 v3 (.pointer (some ⟨bt, 0, none⟩)) v8 v9 v10 v11 v12 r) wr := by
  have t0 := (blk_cell T1.out 0).trans rfl
  have t2 := (blk_cell T1.out 2).trans rfl
  have h1 : kS x ≠ 1 := hk
  revert r
  refine @elim_out 122 _ ?_
  iterate 122 (intro _)
  show Code.wp _ _ _ _ _
  conv => arg 2; dsimp only [yLT, y0, Tryd.f15, Option.getD, sR, sL, cT, cF, bk, lpo]
  conv => arg 4; dsimp only [Fi]
  go_wp2_with fail
  refine hn.out _ ?_
  rfl
theorem itC5C {w wr : World} {k : Int} {Q : Exit → Act → World → Prop} {v0 v3 v8 v9 v10 v11 v12 : Value} {r : List Value} (hr : r.length = 122) {A B : Code} {x : Tk} {bt : Nat} (T1 : Hid (wr.heap[bt]? = some (.cells #[.int .i64 (kS x), .int .i64 x.v, .string ⟨(wS x).toArray⟩, .int .i64 (x.at' : Int)] 40))) (hk : kS x = 1) (hwn : wS x = x.n) (hw : x.k = wk x.n) (h2 : x.k ≠ 2) (hn : Hid (∀ r', r'.length = 122 → Code.wp Tryd.prog A Q (Fi w k v0 v3 (.pointer (some ⟨bt, 0, none⟩)) v8 v9 v10 v11 v12 r') wr)) :
    Code.wp Tryd.prog (.seq (sL (sL (sR yLT))) (.cond (.tmp 34) A B)) Q (Fi w k v0 v3 (.pointer (some ⟨bt, 0, none⟩)) v8 v9 v10 v11 v12 r) wr := by
  have t0 := (blk_cell T1.out 0).trans rfl
  have t2 := (blk_cell T1.out 2).trans rfl
  have h1 : (kS x != 1) = false := by rw [hk]; rfl
  have CR : Hid (∀ W, Calls Tryd.prog 24 #[.string ⟨(wS x).toArray⟩] W fun e w' => e = .returned (.bool true) ∧ w' = W) := fun W => by
    have := reservedS x.n W
    rw [res_wk, ← hw] at this
    rw [hwn, show true = decide (x.k ≠ 2) by simp; omega]; exact this
  clear hk hwn hw h2
  revert r
  refine @elim_out 122 _ ?_
  iterate 122 (intro _)
  show Code.wp _ _ _ _ _
  conv => arg 2; dsimp only [yLT, y0, Tryd.f15, Option.getD, sR, sL, cT, cF, bk, lpo]
  conv => arg 4; dsimp only [Fi]
  go_wp2_with (go_at_call 24; go_must (refine (CR.out _).mono ?_; rintro e w' ⟨rfl, hww⟩; rw [hww]; clear hww))
  refine hn.out _ ?_
  rfl
theorem itC5B {w wr : World} {k : Int} {Q : Exit → Act → World → Prop} {v0 v3 v8 v9 v10 v11 v12 : Value} {r : List Value} (hr : r.length = 122) {A B : Code} {x : Tk} {bt : Nat} (T1 : Hid (wr.heap[bt]? = some (.cells #[.int .i64 (kS x), .int .i64 x.v, .string ⟨(wS x).toArray⟩, .int .i64 (x.at' : Int)] 40))) (hk : kS x = 1) (hwn : wS x = x.n) (hw : x.k = wk x.n) (h2 : x.k = 2) (hn : Hid (∀ r', r'.length = 122 → Code.wp Tryd.prog B Q (Fi w k v0 v3 (.pointer (some ⟨bt, 0, none⟩)) v8 v9 v10 v11 v12 r') wr)) :
    Code.wp Tryd.prog (.seq (sL (sL (sR yLT))) (.cond (.tmp 34) A B)) Q (Fi w k v0 v3 (.pointer (some ⟨bt, 0, none⟩)) v8 v9 v10 v11 v12 r) wr := by
  have t0 := (blk_cell T1.out 0).trans rfl
  have t2 := (blk_cell T1.out 2).trans rfl
  have h1 : (kS x != 1) = false := by rw [hk]; rfl
  have CR : Hid (∀ W, Calls Tryd.prog 24 #[.string ⟨(wS x).toArray⟩] W fun e w' => e = .returned (.bool false) ∧ w' = W) := fun W => by
    have := reservedS x.n W
    rw [res_wk, ← hw] at this
    rw [hwn, show false = decide (x.k ≠ 2) by simp; omega]; exact this
  clear hk hwn hw h2
  revert r
  refine @elim_out 122 _ ?_
  iterate 122 (intro _)
  show Code.wp _ _ _ _ _
  conv => arg 2; dsimp only [yLT, y0, Tryd.f15, Option.getD, sR, sL, cT, cF, bk, lpo]
  conv => arg 4; dsimp only [Fi]
  go_wp2_with (go_at_call 24; go_must (refine (CR.out _).mono ?_; rintro e w' ⟨rfl, hww⟩; rw [hww]; clear hww))
  refine hn.out _ ?_
  rfl
theorem itName7 {g N c : Nat} {w wr : World} {s : Sg} {C : Array Value} {k : Int} {Q : Exit → Act → World → Prop} {v0 v3 v8 v9 v10 v11 v12 : Value} {r : List Value} (hr : r.length = 122) {x : Tk} {bt : Nat} (T1 : Hid (wr.heap[bt]? = some (.cells #[.int .i64 (kS x), .int .i64 x.v, .string ⟨(wS x).toArray⟩, .int .i64 (x.at' : Int)] 40))) (HC : ∃ v, C[1]? = some v) (M : Hid (Mj g N c w s C wr)) (hn : Hid (∀ r', r'.length = 122 → Q .normal (Fi w k v0 v3 (.pointer (some ⟨bt, 0, none⟩)) v8 v9 v10 v11 v12 r') (wr.setCell ⟨w.heap.size + 3, 1, none⟩ (.string ⟨(wS x).toArray⟩)))) :
    Code.wp Tryd.prog (sL (sR (sR yLT))) Q (Fi w k v0 v3 (.pointer (some ⟨bt, 0, none⟩)) v8 v9 v10 v11 v12 r) wr := by
  have t2 := (blk_cell T1.out 2).trans rfl
  obtain ⟨vv, hvv⟩ := HC
  have q1 := (blk_cell M.out.it 1).trans hvv
  have fq1 := blk_unfrozen M.out.it 1
  revert r
  refine @elim_out 122 _ ?_
  iterate 122 (intro _)
  show Code.wp _ _ _ _ _
  conv => arg 2; dsimp only [yLT, y0, Tryd.f15, Option.getD, sR, sL, cT, cF, bk, lpo]
  conv => arg 4; dsimp only [Fi]
  go_wp2_with fail
  refine hn.out _ ?_
  rfl
theorem itInc8 {g N c : Nat} {w wr : World} {s : Sg} {C : Array Value} {k : Int} {Q : Exit → Act → World → Prop} {v0 v3 v7 v8 v9 v10 v11 v12 : Value} {r : List Value} (hr : r.length = 122) (M : Hid (Mj g N c w s C wr)) (hb : s.i ≤ 100000) (hn : Hid (∀ r', r'.length = 122 → Q .normal (Fi w k v0 v3 v7 v8 v9 v10 v11 v12 r') (wr.setCell ⟨w.heap.size, 1, none⟩ (.int .i64 ((s.i + 1 : Nat) : Int))))) :
    Code.wp Tryd.prog (sL (sR (sR (sR yLT)))) Q (Fi w k v0 v3 v7 v8 v9 v10 v11 v12 r) wr := by
  have h1 : IntKind.i64.wrap ((s.i : Int) + 1) = ((s.i + 1 : Nat) : Int) := by rw [IntKind.wrap_i64]; omega
  have b1 := (blk_cell M.out.b 1).trans rfl
  have fb1 := blk_unfrozen M.out.b 1
  revert r
  refine @elim_out 122 _ ?_
  iterate 122 (intro _)
  show Code.wp _ _ _ _ _
  conv => arg 2; dsimp only [yLT, y0, Tryd.f15, Option.getD, sR, sL, cT, cF, bk, lpo]
  conv => arg 4; dsimp only [Fi]
  go_wp2_with fail
  refine hn.out _ ?_
  rfl
end Go.Proofs.YtfoigigbggickaaDoor.Par
namespace Go.Proofs.YtfoigigbggickaaDoor.Par
open Go Go.RowKit Go.Proofs.YtfoigigbggickaaDoor.Mem Go.Proofs.YtfoigigbggickaaDoor.Syn Go.Proofs.YtfoigigbggickaaDoor.Parse
set_option linter.unusedVariables false
set_option linter.unusedSimpArgs false
set_option maxHeartbeats 6400000
set_option maxRecDepth 1000000
attribute [local go_sem ↓] Go.wp_at_zero Go.wp_at_succ
theorem itInit {w wr : World} {k : Int} {Q : Exit → Act → World → Prop} {v0 v3 v7 v8 v9 v10 v11 v12 : Value} {r : List Value} (hr : r.length = 122) {D : Code} (hn : Hid (∀ r', r'.length = 122 → Code.wp Tryd.prog D Q (Fi w k v0 v3 v7 (.slice (some ⟨wr.heap.size, 0, none⟩) 0 0) (.slice (some ⟨wr.heap.size + 1, 0, none⟩) 0 0) (.int .i64 0) (.int .i64 0) (.int .i64 0) r') ((wr.alloc (.cells #[] 82)).alloc (.cells #[] 82)))) :
    Code.wp Tryd.prog (.seq (sL (sR (sR (sR (sR y0))))) (.seq (sL (sR (sR (sR (sR (sR y0)))))) (.seq (sL (sR (sR (sR (sR (sR (sR y0))))))) (.seq (sL (sR (sR (sR (sR (sR (sR (sR y0)))))))) (.seq (sL (sR (sR (sR (sR (sR (sR (sR (sR y0))))))))) D))))) Q (Fi w k v0 v3 v7 v8 v9 v10 v11 v12 r) wr := by
  obtain ⟨j0, hj0, zj0, zj1, zj2⟩ := info_parts infoO
  revert r
  refine @elim_out 122 _ ?_
  iterate 122 (intro _)
  show Code.wp _ _ _ _ _
  conv => arg 2; dsimp only [y0, Tryd.f15, Option.getD, sR, sL, cT, cF, bk, lpo]
  conv => arg 4; dsimp only [Fi]
  go_wp2_with fail
  refine hn.out _ ?_
  rfl
theorem itFill {g N c : Nat} {w wr : World} {s : Sg} {k : Int} {Q : Exit → Act → World → Prop} {v0 v3 v7 : Value} {r : List Value} (hr : r.length = 122) {D : Code} {zx zy zz : Int} {ea fa : Option Addr} {en ec fn fc : Nat} {nm : ByteArray} {a2 a3 a4 a5 a6 : Value} (M : Hid (Mj g N c w s #[.int .i64 k, .string nm, a2, a3, a4, a5, a6] wr)) (hn : Hid (∀ r', r'.length = 122 → Code.wp Tryd.prog D Q (Fi w k v0 v3 v7 (.slice ea en ec) (.slice fa fn fc) (.int .i64 zx) (.int .i64 zy) (.int .i64 zz) r') (((((wr.setCell ⟨w.heap.size + 3, 2, none⟩ (.slice ea en ec)).setCell ⟨w.heap.size + 3, 3, none⟩ (.slice fa fn fc)).setCell ⟨w.heap.size + 3, 4, none⟩ (.int .i64 zx)).setCell ⟨w.heap.size + 3, 5, none⟩ (.int .i64 zy)).setCell ⟨w.heap.size + 3, 6, none⟩ (.int .i64 zz)))) :
    Code.wp Tryd.prog (.seq (sL (sR (sR (sR (sR (sR (sR (sR (sR (sR (sR (sR (sR (sR (sR (sR (sR y0))))))))))))))))) (.seq (sL (sR (sR (sR (sR (sR (sR (sR (sR (sR (sR (sR (sR (sR (sR (sR (sR (sR y0)))))))))))))))))) (.seq (sL (sR (sR (sR (sR (sR (sR (sR (sR (sR (sR (sR (sR (sR (sR (sR (sR (sR (sR y0))))))))))))))))))) (.seq (sL (sR (sR (sR (sR (sR (sR (sR (sR (sR (sR (sR (sR (sR (sR (sR (sR (sR (sR (sR y0)))))))))))))))))))) (.seq (sL (sR (sR (sR (sR (sR (sR (sR (sR (sR (sR (sR (sR (sR (sR (sR (sR (sR (sR (sR (sR y0))))))))))))))))))))) D))))) Q (Fi w k v0 v3 v7 (.slice ea en ec) (.slice fa fn fc) (.int .i64 zx) (.int .i64 zy) (.int .i64 zz) r) wr := by
  have q2 := (blk_cell M.out.it 2).trans rfl
  have q3 := (blk_cell M.out.it 3).trans rfl
  have q4 := (blk_cell M.out.it 4).trans rfl
  have q5 := (blk_cell M.out.it 5).trans rfl
  have q6 := (blk_cell M.out.it 6).trans rfl
  have fq2 := blk_unfrozen M.out.it 2
  have fq3 := blk_unfrozen M.out.it 3
  have fq4 := blk_unfrozen M.out.it 4
  have fq5 := blk_unfrozen M.out.it 5
  have fq6 := blk_unfrozen M.out.it 6
  revert r
  refine @elim_out 122 _ ?_
  iterate 122 (intro _)
  show Code.wp _ _ _ _ _
  conv => arg 2; dsimp only [y0, Tryd.f15, Option.getD, sR, sL, cT, cF, bk, lpo]
  conv => arg 4; dsimp only [Fi]
  go_wp2_with fail
  refine hn.out _ ?_
  rfl
end Go.Proofs.YtfoigigbggickaaDoor.Par
