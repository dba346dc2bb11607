/- TGrant, what is needed of it. -/
import Derived.Test.YtcankpiidjhhpaaYGb
import Derived.Test.YtcankpiidjhhpaaYGe
import Derived.StillTailTactics
namespace Go.Proofs.Ytcankpiidjhhpaa
open Go Go.ChangeShapes Go.WideShapes Go.ChangeAt Go.RowKit Go.Lib
set_option linter.unusedVariables false
set_option maxRecDepth 100000

structure TGrant where
 f0 : Int
 f1 : Int
 f2 : Int
 f3 : Int
 f4 : Int
 f5 : Int
 f6 : Bool
deriving DecidableEq
def TGrant.cells (x : TGrant) : List Value := [.int .i64 x.f0, .int .i64 x.f1, .int .i64 x.f2, .int .i64 x.f3, .int .i64 x.f4, .int .i64 x.f5, .bool x.f6]
theorem TGrant.len (x : TGrant) : x.cells.length = 7 := rfl
def TGrant.fit (x : TGrant) : Prop := (-9223372036854775808 ≤ x.f0 ∧ x.f0 ≤ 9223372036854775807) ∧ (-9223372036854775808 ≤ x.f1 ∧ x.f1 ≤ 9223372036854775807) ∧ (-9223372036854775808 ≤ x.f2 ∧ x.f2 ≤ 9223372036854775807) ∧ (-9223372036854775808 ≤ x.f3 ∧ x.f3 ≤ 9223372036854775807) ∧ (-9223372036854775808 ≤ x.f4 ∧ x.f4 ≤ 9223372036854775807) ∧ (-9223372036854775808 ≤ x.f5 ∧ x.f5 ≤ 9223372036854775807)
/-- The marks of one element, from k on. -/
def TGrant.mark (k : Nat) : TGrant := ⟨((k + 0 : Nat) : Int), ((k + 1 : Nat) : Int), ((k + 2 : Nat) : Int), ((k + 3 : Nat) : Int), ((k + 4 : Nat) : Int), ((k + 5 : Nat) : Int), ((((k + 6 : Nat) : Int) % 3) == 0)⟩
def TGrant.marks (k n : Nat) : List TGrant := (List.range n).map fun i => TGrant.mark (k + i * 7)


end Go.Proofs.Ytcankpiidjhhpaa
