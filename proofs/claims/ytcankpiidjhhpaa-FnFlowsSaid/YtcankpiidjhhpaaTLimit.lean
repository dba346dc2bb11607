/- The laws' own helpers on slices of Limit: copied, compared, marked, and the marks looked for. -/
import Derived.Test.YtcankpiidjhhpaaRws
import Derived.Test.YtcankpiidjhhpaaTPattern
import Derived.StillTailTactics
namespace Go.Proofs.Ytcankpiidjhhpaa
open Go Go.ChangeShapes Go.WideShapes Go.ChangeAt Go.RowKit Go.Lib
set_option linter.unusedVariables false
set_option linter.unusedSimpArgs false
set_option maxRecDepth 100000

structure TLimit where
  f0 : Int
  f1 : Int
  f2 : Int
  f3 : Int
deriving DecidableEq
def TLimit.cells (x : TLimit) : List Value := [.int .i64 x.f0, .int .i64 x.f1, .int .i64 x.f2, .int .i64 x.f3]
abbrev cLimit (d : List TLimit) : List Value := d.flatMap TLimit.cells
theorem TLimit.len (x : TLimit) : x.cells.length = 4 := rfl
def TLimit.fit (x : TLimit) : Prop := (-9223372036854775808 ≤ x.f0 ∧ x.f0 ≤ 9223372036854775807) ∧ (-9223372036854775808 ≤ x.f1 ∧ x.f1 ≤ 9223372036854775807) ∧ (-9223372036854775808 ≤ x.f2 ∧ x.f2 ≤ 9223372036854775807) ∧ (-9223372036854775808 ≤ x.f3 ∧ x.f3 ≤ 9223372036854775807)
def cLimitOk (d : List TLimit) : Prop := ∀ x ∈ d, TLimit.fit x
/-- The marks of one element, from k on. -/
def TLimit.mark (k : Nat) : TLimit := ⟨((k + 0 : Nat) : Int), ((k + 1 : Nat) : Int), ((k + 2 : Nat) : Int), ((k + 3 : Nat) : Int)⟩
def TLimit.marks (k n : Nat) : List TLimit := (List.range n).map fun i => TLimit.mark (k + i * 4)
theorem TLimit.marks_len (k n : Nat) : (TLimit.marks k n).length = n := by simp [TLimit.marks]
theorem TLimit.marks_get (k n i : Nat) (h : i < n) : (TLimit.marks k n)[i]? = some (TLimit.mark (k + i * 4)) := by simp [TLimit.marks, h]

theorem TLimit.mark_eq (k0 k : Nat) : TLimit.mark (k0 + k * 4) = ⟨(k0 : Int) + k * 4, (k0 : Int) + k * 4 + 1, (k0 : Int) + k * 4 + 2, (k0 : Int) + k * 4 + 3⟩ := by
  unfold TLimit.mark
  congr 1 <;> (first | omega | (congr 2; omega) | skip)
section
variable {H : Type} {enc : TypeId × Value → H} {w : World} {base fuel : Nat} {spare : Nat → Bool} {held : Bool}
end

section
variable {H : Type} {enc : TypeId × Value → H}
end

end Go.Proofs.Ytcankpiidjhhpaa
