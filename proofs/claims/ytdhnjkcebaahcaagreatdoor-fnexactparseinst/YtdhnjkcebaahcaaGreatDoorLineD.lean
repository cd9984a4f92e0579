import Derived.Test.YtdhnjkcebaahcaaGreatDoorSplitS
import Derived.Test.YtdhnjkcebaahcaaGreatDoorTagD
import Derived.Test.YtdhnjkcebaahcaaGreatDoorConvR
import Derived.Test.YtdhnjkcebaahcaaGreatDoorValid3
namespace Go.Proofs.YtdhnjkcebaahcaaGreatDoor.Parse
open Go Go.RowKit Go.Proofs.YtdhnjkcebaahcaaGreatDoor.Mem Go.Proofs.YtdhnjkcebaahcaaGreatDoor.Valid
set_option linter.unusedVariables false
set_option linter.unusedSimpArgs false

/-- What the lines so far have given. -/
structure Acc where
  (V : List Veh) (Q : List Req) (R : List Mem.Rd)
def fld (f : List (List UInt8)) (k : Nat) : List UInt8 := f.getD k []
def tagsOf (t : List UInt8) : Int := tagsV t t.length
def vehOf (f : List (List UInt8)) : Veh := ⟨num (fld f 1), tagsOf (fld f 2), num (fld f 3), num (fld f 4), num (fld f 5), num (fld f 6), num (fld f 7)⟩
def reqOf (f : List (List UInt8)) : Req := ⟨num (fld f 1), tagsOf (fld f 2), num (fld f 3), num (fld f 4), num (fld f 5), num (fld f 6), num (fld f 7), num (fld f 8), num (fld f 9), num (fld f 10), num (fld f 11), num (fld f 12)⟩
def rdOf (f : List (List UInt8)) : Mem.Rd := ⟨num (fld f 1), num (fld f 2), num (fld f 3)⟩
def want (k : Int) : Nat := if k = 2 then 13 else if k = 3 then 4 else 8
/-- Is field i of a line of kind k of the right form? -/
def okFld (k : Int) (f : List (List UInt8)) (i : Nat) : Bool := if k < 3 ∧ i = 2 then isTags (fld f i) else isNum (fld f i)
def okFlds (k : Int) (f : List (List UInt8)) : Bool := allB (f.length - 1) (fun i => okFld k f (i + 1))
def nodesA (s : Acc) : Int := (s.V.length : Int) + 2 * (s.Q.length : Int)
def lastBefore (s : Acc) (r : Mem.Rd) : Bool := match s.R.getLast? with | none => true | some x => beforeB x r
def addV (s : Acc) (v : Veh) : Int × Acc := if gVeh v.a v.b v.x v.y v.o v.c v.h = false then (7, s) else if s.V.length = 64 then (9, s) else (0, { s with V := s.V ++ [v] })
def addQ (s : Acc) (q : Req) : Int × Acc := if gReq q.a q.b q.x q.y q.o q.c q.h q.x' q.y' q.o' q.c' q.h' = false then (7, s) else if s.Q.length = 1000 then (9, s) else (0, { s with Q := s.Q ++ [q] })
def addR (s : Acc) (r : Mem.Rd) : Int × Acc := if gRoad r.a r.b r.t (nodesA s) = false then (7, s) else if lastBefore s r = false then (8, s) else if s.R.length = 4000 then (9, s) else (0, { s with R := s.R ++ [r] })
def lineK (s : Acc) (f : List (List UInt8)) (k : Int) : Int × Acc :=
  if k = 0 then (3, s)
  else if (0 < s.R.length ∧ k < 3) ∨ (0 < s.Q.length ∧ k < 2) then (4, s)
  else if f.length ≠ want k then (5, s)
  else if okFlds k f = false then (6, s)
  else if k = 1 then addV s (vehOf f)
  else if k = 2 then addQ s (reqOf f)
  else addR s (rdOf f)
def lineF (s : Acc) (ln : List UInt8) : Int × Acc := lineK s (split 32 ln) (kindOf (fld (split 32 ln) 0))

/-- The rows of what the lines so far have given: the call's own, from block B on. -/
structure AccAt (B : Nat) (w : World) (v1 v2 v3 : Value) (s : Acc) : Prop where
  v : w.ownsRow B 58 7 v1 s.V.length (s.V.flatMap Veh.cells)
  q : w.ownsRow B 61 12 v2 s.Q.length (s.Q.flatMap Req.cells)
  r : w.ownsRow B 64 3 v3 s.R.length (s.R.flatMap Rd.cells)
theorem AccAt.below {B : Nat} {w w' : World} {v1 v2 v3 : Value} {s : Acc} (h : AccAt B w v1 v2 v3 s) (hb : Below w.heap.size w w') : AccAt B w' v1 v2 v3 s := ⟨row_below h.v hb, row_below h.q hb, row_below h.r hb⟩
theorem kind_cases (f : List UInt8) : kindOf f = 0 ∨ kindOf f = 1 ∨ kindOf f = 2 ∨ kindOf f = 3 := by
  unfold kindOf
  split
  · simp
  · split
    · simp
    · split <;> simp
theorem split_pos (sep : UInt8) (bs : List UInt8) : 0 < (split sep bs).length := by unfold split; simp
theorem split_len (sep : UInt8) (bs : List UInt8) : (split sep bs).length ≤ bs.length + 1 := by
  have := spl_len sep bs
  unfold split
  simp
  omega
theorem spl_each (sep : UInt8) : ∀ (bs : List UInt8), (∀ x ∈ (spl sep bs).1, x.length ≤ bs.length) ∧ (spl sep bs).2.length ≤ bs.length := by
  refine snoc_ind ?_ ?_
  · simp [spl]
  · intro l b ih
    rw [spl_snoc, List.length_append, List.length_singleton]
    unfold stp
    split
    · refine ⟨fun x hx => ?_, by simp⟩
      rcases List.mem_append.1 hx with h | h
      · have := ih.1 x h; omega
      · have e : x = (spl sep l).2 := by simpa using h
        rw [e]; have := ih.2; omega
    · refine ⟨fun x hx => ?_, ?_⟩
      · have := ih.1 x hx; omega
      · simp; exact ih.2
theorem split_each (sep : UInt8) (bs : List UInt8) (k : Nat) : ((split sep bs).getD k []).length ≤ bs.length := by
  by_cases h : k < (split sep bs).length
  · have e : (split sep bs).getD k [] = (split sep bs)[k] := by simp [List.getD, h]
    have hm := List.getElem_mem h
    rw [e]
    have := spl_each sep bs
    generalize (split sep bs)[k] = x at hm
    unfold split at hm
    rcases List.mem_append.1 hm with h | h
    · exact this.1 x h
    · have e : x = (spl sep bs).2 := by simpa using h
      rw [e]; exact this.2
  · have : (split sep bs).getD k [] = [] := by simp [List.getD, h]
    rw [this]; simp
end Go.Proofs.YtdhnjkcebaahcaaGreatDoor.Parse
