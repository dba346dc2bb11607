/- The laws' own helpers on slices of Pattern: copied, compared, marked, and the marks looked for. -/
import Derived.Test.YtcankpiidjhhpaaRws
import Derived.StillTailTactics
namespace Go.Proofs.Ytcankpiidjhhpaa
open Go Go.ChangeShapes Go.WideShapes Go.ChangeAt Go.RowKit Go.Lib
set_option linter.unusedVariables false
set_option maxRecDepth 100000

structure TPattern where
 f0 : Int
 f1 : Int
deriving DecidableEq
def TPattern.cells (x : TPattern) : List Value := [.int .i64 x.f0, .int .i64 x.f1]
abbrev cPattern (d : List TPattern) : List Value := d.flatMap TPattern.cells
theorem TPattern.len (x : TPattern) : x.cells.length = 2 := rfl
def TPattern.fit (x : TPattern) : Prop := (-9223372036854775808 ≤ x.f0 ∧ x.f0 ≤ 9223372036854775807) ∧ (-9223372036854775808 ≤ x.f1 ∧ x.f1 ≤ 9223372036854775807)
def cPatternOk (d : List TPattern) : Prop := ∀ x ∈ d, TPattern.fit x
/-- The marks of one element, from k on. -/
def TPattern.mark (k : Nat) : TPattern := ⟨((k + 0 : Nat) : Int), ((k + 1 : Nat) : Int)⟩
def TPattern.marks (k n : Nat) : List TPattern := (List.range n).map fun i => TPattern.mark (k + i * 2)
theorem TPattern.marks_len (k n : Nat) : (TPattern.marks k n).length = n := by simp [TPattern.marks]
theorem TPattern.marks_get (k n i : Nat) (h : i < n) : (TPattern.marks k n)[i]? = some (TPattern.mark (k + i * 2)) := by simp [TPattern.marks, h]

theorem TPattern.mark_eq (k0 k : Nat) : TPattern.mark (k0 + k * 2) = ⟨(k0 : Int) + k * 2, (k0 : Int) + k * 2 + 1⟩ := by
 unfold TPattern.mark
 congr 1 <;> (first | omega | (congr 2; omega) | skip)
section
variable {H : Type} {enc : TypeId × Value → H} {w : World} {base fuel : Nat} {spare : Nat → Bool} {held : Bool}
end

section
variable {H : Type} {enc : TypeId × Value → H}
end

end Go.Proofs.Ytcankpiidjhhpaa
