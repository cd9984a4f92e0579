import Derived.Test.YtdhnjkcebaahcaaGreatDoorLineS0
import Derived.Test.YtdhnjkcebaahcaaGreatDoorLineS1
import Derived.Test.YtdhnjkcebaahcaaGreatDoorLineS2
import Derived.Test.YtdhnjkcebaahcaaGreatDoorLineS3
namespace Go.Proofs.YtdhnjkcebaahcaaGreatDoor.Parse
open Go Go.RowKit Go.Proofs.YtdhnjkcebaahcaaGreatDoor.Mem Go.Proofs.YtdhnjkcebaahcaaGreatDoor.Valid
set_option linter.unusedVariables false

theorem lineS (B : Nat) (a1 a2 a3 : Option Addr) (N1 N2 N3 c1 c2 c3 : Nat) (s : Acc) (p : Option Addr) (ln : List UInt8) (n c : Nat) (w : World) (h1 : N1 = s.V.length) (h2 : N2 = s.Q.length) (h3 : N3 = s.R.length)
    (hA : AccAt B w (.slice a1 N1 c1) (.slice a2 N2 c2) (.slice a3 N3 c3) s) (hB : B ≤ w.heap.size) (hn : n = ln.length) (hr : Rd w p ln) (hl : n ≤ 300000) (b1 : N1 ≤ 64) (b2 : N2 ≤ 1000) (b3 : N3 ≤ 4000) :
    Calls Tryz.prog 13 #[.agg #[.slice a1 N1 c1, .slice a2 N2 c2, .slice a3 N3 c3], .slice p n c] w fun e w' => ∃ v1 v2 v3, e = .returned (.tuple #[.int .i64 (lineF s ln).1, .agg #[v1, v2, v3]]) ∧ AccAt B w' v1 v2 v3 (lineF s ln).2 ∧ Below B w w' := by
  rcases kind_cases (fld (split 32 ln) 0) with hk | hk | hk | hk
  · exact lineS0 B a1 a2 a3 N1 N2 N3 c1 c2 c3 s p ln n c w h1 h2 h3 hA hB hn hr hl b1 b2 b3 hk
  · exact lineS1 B a1 a2 a3 N1 N2 N3 c1 c2 c3 s p ln n c w h1 h2 h3 hA hB hn hr hl b1 b2 b3 hk
  · exact lineS2 B a1 a2 a3 N1 N2 N3 c1 c2 c3 s p ln n c w h1 h2 h3 hA hB hn hr hl b1 b2 b3 hk
  · exact lineS3 B a1 a2 a3 N1 N2 N3 c1 c2 c3 s p ln n c w h1 h2 h3 hA hB hn hr hl b1 b2 b3 hk
theorem lineF_bounds (s : Acc) (ln : List UInt8) (b1 : s.V.length ≤ 64) (b2 : s.Q.length ≤ 1000) (b3 : s.R.length ≤ 4000) : (lineF s ln).2.V.length ≤ 64 ∧ (lineF s ln).2.Q.length ≤ 1000 ∧ (lineF s ln).2.R.length ≤ 4000 := by
  unfold lineF lineK addV addQ addR
  repeat' split
  all_goals (simp only [List.length_append, List.length_singleton]; omega)
end Go.Proofs.YtdhnjkcebaahcaaGreatDoor.Parse
