/- IsLabel, of the program and of the model. -/
import Derived.Test.YtadochjnaocbgaaIn
namespace Go.Proofs.Ytadochjnaocbgaa
open Go Go.ChangeShapes Go.WideShapes Go.ChangeAt Go.RowKit Go.Lib
set_option linter.unusedVariables false
set_option linter.unusedSimpArgs false
set_option maxRecDepth 100000
def mIsLabel (x : Int) : Bool := inR x 0 1022 && (x % 2 == 0)
theorem and1 {z : Int} (h0 : 0 ≤ z) (h1 : z ≤ 1022) : bits .and .i64 z 1 = z % 2 := by
  obtain ⟨m, rfl⟩ := Int.eq_ofNat_of_zero_le h0
  have hm : m < 1023 := by omega
  have h : ∀ k : Fin 1023, bits .and .i64 ((k.1 : Nat) : Int) 1 = ((k.1 : Nat) : Int) % 2 := by decide +kernel
  exact h ⟨m, hm⟩

end Go.Proofs.Ytadochjnaocbgaa
