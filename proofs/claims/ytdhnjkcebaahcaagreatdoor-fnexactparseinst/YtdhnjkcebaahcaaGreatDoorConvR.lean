import Derived.Test.YtdhnjkcebaahcaaGreatDoorPBase
import Derived.Laws.IdiomStrings
import Derived.Deep.DrawnRows
namespace Go.Proofs.YtdhnjkcebaahcaaGreatDoor.Parse
open Go Go.RowKit Go.Proofs.YtdhnjkcebaahcaaGreatDoor.Mem
set_option linter.unusedVariables false
set_option linter.unusedSimpArgs false

/-- 'string(b)' of bytes that can be read. -/
theorem conv_rd {P : Program} (w : World) (src dst e : TypeId) (a : Option Addr) (n c : Nat) (f : List UInt8) (hn : n = f.length) (hr : Rd w a f) (hs : P.underlying src = some (.slice e)) (he : P.underlying e = some (.int .u8)) (hd : P.underlying dst = some .string) :
    (convert src dst (.slice a n c)).run P w = .ok (.string ⟨f.toArray⟩) w := by
  by_cases h0 : n = 0
  · have : f = [] := List.eq_nil_of_length_eq_zero (by omega)
    subst this
    subst h0
    rw [run_convert_bytes_string w src dst e _ 0 c hs he hd]
    cases a <;> simp [Conv.bytesToString, loadCells]
    all_goals rfl
  · obtain ⟨g, o, rfl⟩ := hr.some (by omega)
    rw [hn]
    exact run_convert_bytes_back w src dst e ⟨g, o, none⟩ c f hs he hd (fun j hj => by rw [Addr.add_mid]; exact hr.at j hj)

def wordV : List UInt8 := [118, 101, 104, 105, 99, 108, 101]
def wordQ : List UInt8 := [114, 101, 113, 117, 101, 115, 116]
def wordR : List UInt8 := [114, 111, 97, 100]
def kindOf (f : List UInt8) : Int := if f == wordV then 1 else if f == wordQ then 2 else if f == wordR then 3 else 0

end Go.Proofs.YtdhnjkcebaahcaaGreatDoor.Parse
