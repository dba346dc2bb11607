/- The laws' own helpers on slices of Rule: copied, compared, marked, and the marks looked for. -/
import Derived.Test.YtcankpiidjhhpaaRws
import Derived.Test.YtcankpiidjhhpaaTPattern
import Derived.Test.YtcankpiidjhhpaaTSite
import Derived.StillTailTactics
namespace Go.Proofs.Ytcankpiidjhhpaa
open Go Go.ChangeShapes Go.WideShapes Go.ChangeAt Go.RowKit Go.Lib
set_option linter.unusedVariables false
set_option linter.unusedSimpArgs false
set_option maxRecDepth 100000

structure TRule where
 f0 : Int
 f1 : Int
 f2 : Int
 f3 : Int
 f4 : Int
 f5 : Int
 f6 : Int
 f7 : Int
deriving DecidableEq
def TRule.cells (x : TRule) : List Value := [.int .i64 x.f0, .int .i64 x.f1, .int .i64 x.f2, .int .i64 x.f3, .int .i64 x.f4, .int .i64 x.f5, .int .i64 x.f6, .int .i64 x.f7]
abbrev cRule (d : List TRule) : List Value := d.flatMap TRule.cells
theorem TRule.len (x : TRule) : x.cells.length = 8 := rfl
def TRule.fit (x : TRule) : Prop := (-9223372036854775808 ≤ x.f0 ∧ x.f0 ≤ 9223372036854775807) ∧ (-9223372036854775808 ≤ x.f1 ∧ x.f1 ≤ 9223372036854775807) ∧ (-9223372036854775808 ≤ x.f2 ∧ x.f2 ≤ 9223372036854775807) ∧ (-9223372036854775808 ≤ x.f3 ∧ x.f3 ≤ 9223372036854775807) ∧ (-9223372036854775808 ≤ x.f4 ∧ x.f4 ≤ 9223372036854775807) ∧ (-9223372036854775808 ≤ x.f5 ∧ x.f5 ≤ 9223372036854775807) ∧ (-9223372036854775808 ≤ x.f6 ∧ x.f6 ≤ 9223372036854775807) ∧ (-9223372036854775808 ≤ x.f7 ∧ x.f7 ≤ 9223372036854775807)
def cRuleOk (d : List TRule) : Prop := ∀ x ∈ d, TRule.fit x
/-- The marks of one element, from k on. -/
def TRule.mark (k : Nat) : TRule := ⟨((k + 0 : Nat) : Int), ((k + 1 : Nat) : Int), ((k + 2 : Nat) : Int), ((k + 3 : Nat) : Int), ((k + 4 : Nat) : Int), ((k + 5 : Nat) : Int), ((k + 6 : Nat) : Int), ((k + 7 : Nat) : Int)⟩
def TRule.marks (k n : Nat) : List TRule := (List.range n).map fun i => TRule.mark (k + i * 8)
theorem TRule.marks_len (k n : Nat) : (TRule.marks k n).length = n := by simp [TRule.marks]
theorem TRule.marks_get (k n i : Nat) (h : i < n) : (TRule.marks k n)[i]? = some (TRule.mark (k + i * 8)) := by simp [TRule.marks, h]

theorem TRule.mark_eq (k0 k : Nat) : TRule.mark (k0 + k * 8) = ⟨(k0 : Int) + k * 8, (k0 : Int) + k * 8 + 1, (k0 : Int) + k * 8 + 2, (k0 : Int) + k * 8 + 3, (k0 : Int) + k * 8 + 4, (k0 : Int) + k * 8 + 5, (k0 : Int) + k * 8 + 6, (k0 : Int) + k * 8 + 7⟩ := by
 unfold TRule.mark
 congr 1 <;> (first | omega | (congr 2; omega) | skip)
section
variable {H : Type} {enc : TypeId × Value → H} {w : World} {base fuel : Nat} {spare : Nat → Bool} {held : Bool}
end

section
variable {H : Type} {enc : TypeId × Value → H}
end

end Go.Proofs.Ytcankpiidjhhpaa
