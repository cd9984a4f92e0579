import Derived.Test.YtdhnjkcebaahcaaGreatDoorLineD
namespace Go.Proofs.YtdhnjkcebaahcaaGreatDoor.Parse
open Go Go.RowKit Go.Proofs.YtdhnjkcebaahcaaGreatDoor.Mem Go.Proofs.YtdhnjkcebaahcaaGreatDoor.Valid
set_option linter.unusedVariables false

structure Res where
  (err line : Int) (acc : Acc)
def noAcc : Acc := ⟨[], [], []⟩
/-- The lines from number i on, over what came before. -/
def parseL : List (List UInt8) → Nat → Acc → Res
  | [], _, s => ⟨0, 0, s⟩
  | [l], i, s => if 0 < l.length then ⟨2, (i : Int) + 1, noAcc⟩ else ⟨0, 0, s⟩
  | l :: m :: r, i, s => if (lineF s l).1 = 0 then parseL (m :: r) (i + 1) (lineF s l).2 else ⟨(lineF s l).1, (i : Int) + 1, noAcc⟩
def parseT (t : List UInt8) : Res := if 300000 < t.length then ⟨1, 0, noAcc⟩ else parseL (split 10 t) 0 noAcc
theorem parseL_last {L : List (List UInt8)} {k : Nat} {s : Acc} (hk : k + 1 = L.length) : parseL (L.drop k) k s = if 0 < (L.getD k []).length then ⟨2, (k : Int) + 1, noAcc⟩ else ⟨0, 0, s⟩ := by
  have hlt : k < L.length := by omega
  have e : L.drop k = [L[k]] := by rw [List.drop_eq_getElem_cons hlt, List.drop_eq_nil_of_le (by omega)]
  rw [e, parseL]
  simp [List.getD, hlt]
theorem parseL_step {L : List (List UInt8)} {k : Nat} {s : Acc} (hk : k + 1 < L.length) : parseL (L.drop k) k s = if (lineF s (L.getD k [])).1 = 0 then parseL (L.drop (k + 1)) (k + 1) (lineF s (L.getD k [])).2 else ⟨(lineF s (L.getD k [])).1, (k : Int) + 1, noAcc⟩ := by
  have hlt : k < L.length := by omega
  have e2 : L.drop (k + 1) = L[k + 1] :: L.drop (k + 1 + 1) := List.drop_eq_getElem_cons hk
  have e : L.drop k = L[k] :: L.drop (k + 1) := List.drop_eq_getElem_cons hlt
  have g : L.getD k [] = L[k] := by simp [List.getD, hlt]
  rw [e, e2, parseL, g]
end Go.Proofs.YtdhnjkcebaahcaaGreatDoor.Parse
