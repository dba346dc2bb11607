/- TLimit, what is needed of it. -/
import Derived.Test.YtcankpiidjhhpaaYGb
import Derived.Test.YtcankpiidjhhpaaYGe
import Derived.StillTailTactics
namespace Go.Proofs.Ytcankpiidjhhpaa
open Go Go.ChangeShapes Go.WideShapes Go.ChangeAt Go.RowKit Go.Lib
set_option linter.unusedVariables false
set_option linter.unusedSimpArgs false
set_option maxRecDepth 100000

structure TLimit where
  f0 : Int
  f1 : Int
  f2 : Int
  f3 : Int
deriving DecidableEq
def TLimit.cells (x : TLimit) : List Value := [.int .i64 x.f0, .int .i64 x.f1, .int .i64 x.f2, .int .i64 x.f3]
theorem TLimit.len (x : TLimit) : x.cells.length = 4 := rfl
def TLimit.fit (x : TLimit) : Prop := (-9223372036854775808 ≤ x.f0 ∧ x.f0 ≤ 9223372036854775807) ∧ (-9223372036854775808 ≤ x.f1 ∧ x.f1 ≤ 9223372036854775807) ∧ (-9223372036854775808 ≤ x.f2 ∧ x.f2 ≤ 9223372036854775807) ∧ (-9223372036854775808 ≤ x.f3 ∧ x.f3 ≤ 9223372036854775807)
/-- The marks of one element, from k on. -/
def TLimit.mark (k : Nat) : TLimit := ⟨((k + 0 : Nat) : Int), ((k + 1 : Nat) : Int), ((k + 2 : Nat) : Int), ((k + 3 : Nat) : Int)⟩
def TLimit.marks (k n : Nat) : List TLimit := (List.range n).map fun i => TLimit.mark (k + i * 4)


end Go.Proofs.Ytcankpiidjhhpaa
