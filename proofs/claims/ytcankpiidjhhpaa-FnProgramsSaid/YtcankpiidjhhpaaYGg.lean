/- TRequest, DrR, what is needed of it. -/
import Derived.Test.YtcankpiidjhhpaaYGb
import Derived.Test.YtcankpiidjhhpaaYGe
import Derived.StillTailTactics
import Derived.Test.YtcankpiidjhhpaaYGf
import Derived.Test.YtcankpiidjhhpaaYGa
namespace Go.Proofs.Ytcankpiidjhhpaa
open Go Go.ChangeShapes Go.WideShapes Go.ChangeAt Go.RowKit Go.Lib
set_option linter.unusedVariables false
set_option linter.unusedSimpArgs false
set_option maxRecDepth 100000

structure TRequest where
 f0 : Int
 f1 : Int
 f2 : Int
deriving DecidableEq
def TRequest.cells (x : TRequest) : List Value := [.int .i64 x.f0, .int .i64 x.f1, .int .i64 x.f2]
theorem TRequest.len (x : TRequest) : x.cells.length = 3 := rfl
def TRequest.fit (x : TRequest) : Prop := (-9223372036854775808 ≤ x.f0 ∧ x.f0 ≤ 9223372036854775807) ∧ (-9223372036854775808 ≤ x.f1 ∧ x.f1 ≤ 9223372036854775807) ∧ (-9223372036854775808 ≤ x.f2 ∧ x.f2 ≤ 9223372036854775807)
/-- The marks of one element, from k on. -/
def TRequest.mark (k : Nat) : TRequest := ⟨((k + 0 : Nat) : Int), ((k + 1 : Nat) : Int), ((k + 2 : Nat) : Int)⟩
def TRequest.marks (k n : Nat) : List TRequest := (List.range n).map fun i => TRequest.mark (k + i * 3)


end Go.Proofs.Ytcankpiidjhhpaa
namespace Go.Proofs.Ytcankpiidjhhpaa
open Go Go.ChangeShapes Go.WideShapes Go.ChangeAt Go.RowKit Go.Lib
set_option linter.unusedVariables false
set_option linter.unusedSimpArgs false
set_option maxRecDepth 100000
end Go.Proofs.Ytcankpiidjhhpaa
