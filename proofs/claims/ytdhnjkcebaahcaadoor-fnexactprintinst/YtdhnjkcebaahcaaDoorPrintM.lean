import Derived.Test.YtdhnjkcebaahcaaDoorAppI
import Derived.Test.YtdhnjkcebaahcaaDoorValidI
import Derived.Lib.AppendStr
import Derived.Deep.CutRange
namespace Go.Proofs.YtdhnjkcebaahcaaDoor.Print
open Go Go.RowKit Go.Proofs.YtdhnjkcebaahcaaDoor.Mem Go.Proofs.YtdhnjkcebaahcaaDoor.Valid
set_option linter.unusedVariables false
set_option linter.unusedSimpArgs false
attribute [local go_sem ↓] Go.wp_at_zero Go.wp_at_succ

/-- A constant's bytes onto a row of the call's own, at one operation. -/
theorem wp_append_str {P : Program} {w : World} {o : Oper} {a : Act} {K : Act → World → Prop} {Q : Exit → Act → World → Prop} (sl x : Operand) (t u : TypeId)
    (ho : o.op = .call { callee := .builtin .append, args := #[sl, x], argTypes := #[t, u] })
    (base : Nat) (e : TypeId) (i : TypeInfo) (ht : P.underlying t = some (.slice e)) (hu : P.underlying u = some .string) (hi : P.info? e = some i) (hz : i.zero = some (.int .u8 0))
    (hsize : i.size = 1) (hby : i.bytes = 1)
    (v : Value) (n : Nat) (xs : List Value) (hs : a.eval sl = v) (hown : w.ownsRow base e 1 v n xs) (s : ByteArray) (hx : a.eval x = .string s)
    (h63 : n + s.size ≤ maxLen) (hbytes : n + s.size ≤ 140737488355328) (hbase : base ≤ w.heap.size)
    (h : ∀ v' w', w'.ownsRow base e 1 v' (n + s.size) (xs ++ Lib.strCells s) → w.grownBy w' v.ownBlock → K (a.put o.dst v') w') : o.wp P a w K Q := by
  obtain ⟨v', w', hr, h2, h3, h4⟩ := Lib.run_append_own_string (P := P) w base t u o.type e i ht hu hi hz hsize hby v n xs hown s h63 hbytes hbase
  unfold Oper.wp execOp
  simp only [ho, resolve, invoke, builtin, Sem.run_bind, Sem.run_pure, Result.andThen_ok, List.map_toArray, List.map_cons, List.map_nil, hs, hx, hr]
  exact h v' w' h2 h3

theorem line_veh (v : Veh) : line (vehL v) = ((([118, 101, 104, 105, 99, 108, 101] ++ nums [v.a] 1) ++ [32]) ++ tagText v.b) ++ nums [v.x, v.y, v.o, v.c, v.h] 5 ++ [10] := by
  simp [line, vehL, jn, nums]
theorem line_req (q : Req) : line (reqL q) = ((([114, 101, 113, 117, 101, 115, 116] ++ nums [q.a] 1) ++ [32]) ++ tagText q.b) ++ nums [q.x, q.y, q.o, q.c, q.h] 5 ++ nums [q.x', q.y', q.o', q.c', q.h'] 5 ++ [10] := by
  simp [line, reqL, jn, nums]
theorem line_rd (r : Rd) : line (rdL r) = [114, 111, 97, 100] ++ nums [r.a, r.b, r.t] 3 ++ [10] := by
  simp [line, rdL, jn, nums]
def answer (I : In) : List UInt8 := if validB I = true then text I else []

end Go.Proofs.YtdhnjkcebaahcaaDoor.Print
