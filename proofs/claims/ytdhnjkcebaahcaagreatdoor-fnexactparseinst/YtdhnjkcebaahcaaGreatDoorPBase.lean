import Derived.Test.YtdhnjkcebaahcaaGreatDoorProg
import Derived.WalkKit
import Derived.WalkSpells
import Derived.WalkLawsBesides
import Derived.Handy
import Derived.Deep.QuietTactic
import Derived.BigQuiet
import Derived.Deep.RegionHeld3
import Derived.Test.YtdhnjkcebaahcaaGreatDoorMem2
import Derived.Lib.UnsafeStr
import Derived.OwnWalk
import Derived.Lib.Hide
import Derived.Lib.SmallJoins
import Derived.Lib.SlBytesConst
import Derived.Lib.OthersKept
import Derived.ArgAppend
namespace Go.Proofs.YtdhnjkcebaahcaaGreatDoor.Parse
open Go Go.RowKit Go.Proofs.YtdhnjkcebaahcaaGreatDoor.Mem
set_option linter.unusedVariables false

theorem infoB : (Tryz.prog.info? 5).map (fun i => (i.zero, i.size, i.bytes)) = some (some (.int .u8 0), 1, 1) := by kernel_rfl

/-- Bytes that can be read. -/
def Rd (w : World) (a : Option Addr) (bs : List UInt8) : Prop := ∀ j (h : j < bs.length), ∃ g o, a = some ⟨g, o, none⟩ ∧ w.cell? ⟨g, o + j, none⟩ = some (.int .u8 (bs[j].toNat : Int))
theorem Rd.below {w w' : World} {a : Option Addr} {bs : List UInt8} (h : Rd w a bs) (hb : Below w.heap.size w w') : Rd w' a bs := fun j hj => by
  obtain ⟨g, o, e, hc⟩ := h j hj
  exact ⟨g, o, e, cell_keep hb hc⟩
theorem Rd.at {w : World} {g o : Nat} {bs : List UInt8} (h : Rd w (some ⟨g, o, none⟩) bs) (j : Nat) (hj : j < bs.length) : w.cell? ⟨g, o + j, none⟩ = some (.int .u8 (bs[j].toNat : Int)) := by
  obtain ⟨g', o', e, hc⟩ := h j hj
  injection e with e
  injection e with e1 e2
  subst e1 e2
  exact hc
theorem Rd.some {w : World} {a : Option Addr} {bs : List UInt8} (h : Rd w a bs) (hp : 0 < bs.length) : ∃ g o, a = some ⟨g, o, none⟩ := by
  obtain ⟨g, o, e, _⟩ := h 0 hp
  exact ⟨g, o, e⟩
theorem Rd.drop {w : World} {g o : Nat} {bs : List UInt8} (h : Rd w (Option.some ⟨g, o, none⟩) bs) (k : Nat) : Rd w (Option.some ⟨g, o + k, none⟩) (bs.drop k) := fun j hj => by
  have := h.at (k + j) (by rw [List.length_drop] at hj; omega)
  refine ⟨g, o + k, rfl, ?_⟩
  rw [List.getElem_drop, Nat.add_assoc]
  exact this
theorem Rd.take {w : World} {a : Option Addr} {bs : List UInt8} (h : Rd w a bs) (k : Nat) : Rd w a (bs.take k) := fun j hj => by
  obtain ⟨g, o, e, hc⟩ := h j (by rw [List.length_take] at hj; omega)
  exact ⟨g, o, e, by rw [List.getElem_take]; exact hc⟩

/-- Is it a numeral's sign? -/
def digit (b : UInt8) : Bool := decide (48 ≤ b.toNat) && decide (b.toNat ≤ 57)
def isDigs (d : List UInt8) : Bool := decide (1 ≤ d.length) && decide (d.length ≤ 9) && !(d.head? == some 48) && d.all digit
def isNum (f : List UInt8) : Bool := f == [48] || (if f.head? = some 45 then isDigs f.tail else isDigs f)
def dec (ds : List UInt8) : Int := ds.foldl (fun n b => 10 * n + b.toNat - 48) 0
def num (f : List UInt8) : Int := if f.head? = some 45 then - dec f.tail else dec f
theorem dec_snoc (ds : List UInt8) (b : UInt8) : dec (ds ++ [b]) = 10 * dec ds + b.toNat - 48 := by
  unfold dec; rw [List.foldl_append]; rfl
theorem snoc_ind {p : List UInt8 → Prop} (h0 : p []) (hs : ∀ l b, p l → p (l ++ [b])) (l : List UInt8) : p l := by
  have : ∀ n (l : List UInt8), l.length = n → p l := by
    intro n
    induction n with
    | zero => intro l h; rw [List.eq_nil_of_length_eq_zero h]; exact h0
    | succ m ih =>
      intro l h
      have hne : l ≠ [] := by intro e; subst e; simp at h
      rw [← List.dropLast_concat_getLast hne]
      exact hs _ _ (ih _ (by simp [h]))
  exact this _ l rfl
theorem dec_bound : ∀ (ds : List UInt8), ds.all digit = true → 0 ≤ dec ds ∧ dec ds < 10 ^ ds.length := by
  refine snoc_ind ?_ ?_
  · intro _; simp [dec]
  · intro l b ih h
    rw [List.all_append] at h
    simp only [List.all_cons, List.all_nil, Bool.and_true, Bool.and_eq_true] at h
    obtain ⟨h1, h2⟩ := h
    have ih' := ih h1
    unfold digit at h2
    simp only [Bool.and_eq_true, decide_eq_true_eq] at h2
    rw [dec_snoc, List.length_append, List.length_singleton, Int.pow_succ]
    omega
end Go.Proofs.YtdhnjkcebaahcaaGreatDoor.Parse
