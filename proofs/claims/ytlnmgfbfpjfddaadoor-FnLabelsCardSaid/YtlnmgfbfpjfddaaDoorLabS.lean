/- The model's LabelOf and JoinLabels. -/
import Derived.Test.YtlnmgfbfpjfddaaDoorOwn2
namespace Go.Proofs.YtlnmgfbfpjfddaaDoor
open Go Go.ChangeShapes Go.WideShapes Go.ChangeAt Go.RowKit Go.Lib
set_option linter.unusedVariables false
set_option linter.unusedSimpArgs false
set_option maxRecDepth 100000
def mLabS (l : List Int) : Nat → Nat
 | 0 => 0
 | k + 1 => mLabS l k + if ((k : Int) + 1) ∈ l then 2 ^ (k + 1) else 0
theorem mLabS_le (l : List Int) (k : Nat) : mLabS l k + 2 ≤ 2 ^ (k + 1) := by
 induction k with
 | zero => simp [mLabS]
 | succ k ih =>
  have e : 2 ^ (k + 1 + 1) = 2 ^ (k + 1) + 2 ^ (k + 1) := by rw [Nat.pow_succ, Nat.mul_two]
  simp only [mLabS]
  split <;> omega
end Go.Proofs.YtlnmgfbfpjfddaaDoor
