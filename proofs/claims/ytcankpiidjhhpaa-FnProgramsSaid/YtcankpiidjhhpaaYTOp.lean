/- TOp, what is needed of it. -/
import Derived.Test.YtcankpiidjhhpaaYGb
import Derived.StillTailTactics
namespace Go.Proofs.Ytcankpiidjhhpaa
open Go Go.ChangeShapes Go.WideShapes Go.ChangeAt Go.RowKit Go.Lib
set_option linter.unusedVariables false
set_option linter.unusedSimpArgs false
set_option maxRecDepth 100000

structure TOp where
 f0 : Int
 f1 : Int
 f2 : Int
 f3 : Int
deriving DecidableEq
def TOp.cells (x : TOp) : List Value := [.int .i64 x.f0, .int .i64 x.f1, .int .i64 x.f2, .int .i64 x.f3]
abbrev cOp (d : List TOp) : List Value := d.flatMap TOp.cells
theorem TOp.len (x : TOp) : x.cells.length = 4 := rfl
def TOp.fit (x : TOp) : Prop := (-9223372036854775808 ≤ x.f0 ∧ x.f0 ≤ 9223372036854775807) ∧ (-9223372036854775808 ≤ x.f1 ∧ x.f1 ≤ 9223372036854775807) ∧ (-9223372036854775808 ≤ x.f2 ∧ x.f2 ≤ 9223372036854775807) ∧ (-9223372036854775808 ≤ x.f3 ∧ x.f3 ≤ 9223372036854775807)
def cOpOk (d : List TOp) : Prop := ∀ x ∈ d, TOp.fit x
/-- The marks of one element, from k on. -/
def TOp.mark (k : Nat) : TOp := ⟨((k + 0 : Nat) : Int), ((k + 1 : Nat) : Int), ((k + 2 : Nat) : Int), ((k + 3 : Nat) : Int)⟩
def TOp.marks (k n : Nat) : List TOp := (List.range n).map fun i => TOp.mark (k + i * 4)


end Go.Proofs.Ytcankpiidjhhpaa
