/- ActionName, of the program and of the model. -/
import Derived.Test.YtlnmgfbfpjfddaaIn
namespace Go.Proofs.Ytlnmgfbfpjfddaa
open Go Go.ChangeShapes Go.WideShapes Go.ChangeAt Go.RowKit Go.Lib
set_option linter.unusedVariables false
set_option maxRecDepth 100000
def mActName (a : Int) : ByteArray := if (a == 1) = true then ⟨#[97, 108, 108, 111, 119]⟩ else if (a == 2) = true then ⟨#[98, 108, 111, 99, 107]⟩ else if (a == 3) = true then ⟨#[115, 101, 110, 100]⟩ else ⟨#[]⟩
theorem impl_ActionName (a : Int) (w : World) : Calls Try.prog 22 #[.int .i64 a] w (Says (.string (mActName a)) w) := by
  by_cases h1 : (a == 1) = true
  · have HE := Lib.hid (show mActName a = ⟨#[97, 108, 108, 111, 119]⟩ by unfold mActName; rw [if_pos h1])
    go_enter Try.func22, Try.ntmps22
    go_wp2_with fail
    go_ret
    exact ⟨by rw [HE.out]; rfl, Below.refl _ _⟩
  · have h1 : (a == 1) = false := by simpa using h1
    by_cases h2 : (a == 2) = true
    · have HE := Lib.hid (show mActName a = ⟨#[98, 108, 111, 99, 107]⟩ by unfold mActName; rw [if_neg (by simp [h1]), if_pos h2])
      go_enter Try.func22, Try.ntmps22
      go_wp2_with fail
      go_ret
      exact ⟨by rw [HE.out]; rfl, Below.refl _ _⟩
    · have h2 : (a == 2) = false := by simpa using h2
      by_cases h3 : (a == 3) = true
      · have HE := Lib.hid (show mActName a = ⟨#[115, 101, 110, 100]⟩ by unfold mActName; rw [if_neg (by simp [h1]), if_neg (by simp [h2]), if_pos h3])
        go_enter Try.func22, Try.ntmps22
        go_wp2_with fail
        go_ret
        exact ⟨by rw [HE.out]; rfl, Below.refl _ _⟩
      · have h3 : (a == 3) = false := by simpa using h3
        have HE := Lib.hid (show mActName a = ⟨#[]⟩ by unfold mActName; rw [if_neg (by simp [h1]), if_neg (by simp [h2]), if_neg (by simp [h3])])
        go_enter Try.func22, Try.ntmps22
        go_wp2_with fail
        go_ret
        exact ⟨by rw [HE.out]; rfl, Below.refl _ _⟩
end Go.Proofs.Ytlnmgfbfpjfddaa
