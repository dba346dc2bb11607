/- OutcomeName, of the program and of the model. -/
import Derived.Test.YtfceddgacefejaaIn
namespace Go.Proofs.Ytfceddgacefejaa
open Go Go.ChangeShapes Go.WideShapes Go.ChangeAt Go.RowKit Go.Lib
set_option linter.unusedVariables false
set_option linter.unusedSimpArgs false
set_option maxRecDepth 100000
def mOutName (a : Int) : ByteArray := if (a == 1) = true then ⟨#[100, 111, 110, 101]⟩ else if (a == 2) = true then ⟨#[98, 108, 111, 99, 107, 101, 100]⟩ else if (a == 3) = true then ⟨#[108, 111, 111, 112]⟩ else if (a == 4) = true then ⟨#[108, 111, 110, 103]⟩ else ⟨#[]⟩

theorem impl_OutcomeName (a : Int) (w : World) : Calls Try.prog 49 #[.int .i64 a] w (Says (.string (mOutName a)) w) := by
  by_cases h1 : (a == 1) = true
  · skip
    have HE := Lib.hid (show mOutName a = ⟨#[100, 111, 110, 101]⟩ by unfold mOutName; rw [if_pos h1])
    go_enter Try.func49, Try.ntmps49
    go_wp2_with fail
    go_ret
    exact ⟨by rw [HE.out]; rfl, Below.refl _ _⟩
  · have h1 : (a == 1) = false := by simpa using h1
    by_cases h2 : (a == 2) = true
    · skip
      have HE := Lib.hid (show mOutName a = ⟨#[98, 108, 111, 99, 107, 101, 100]⟩ by unfold mOutName; rw [if_neg (by simp [h1]), if_pos h2])
      go_enter Try.func49, Try.ntmps49
      go_wp2_with fail
      go_ret
      exact ⟨by rw [HE.out]; rfl, Below.refl _ _⟩
    · have h2 : (a == 2) = false := by simpa using h2
      by_cases h3 : (a == 3) = true
      · skip
        have HE := Lib.hid (show mOutName a = ⟨#[108, 111, 111, 112]⟩ by unfold mOutName; rw [if_neg (by simp [h1]), if_neg (by simp [h2]), if_pos h3])
        go_enter Try.func49, Try.ntmps49
        go_wp2_with fail
        go_ret
        exact ⟨by rw [HE.out]; rfl, Below.refl _ _⟩
      · have h3 : (a == 3) = false := by simpa using h3
        by_cases h4 : (a == 4) = true
        · skip
          have HE := Lib.hid (show mOutName a = ⟨#[108, 111, 110, 103]⟩ by unfold mOutName; rw [if_neg (by simp [h1]), if_neg (by simp [h2]), if_neg (by simp [h3]), if_pos h4])
          go_enter Try.func49, Try.ntmps49
          go_wp2_with fail
          go_ret
          exact ⟨by rw [HE.out]; rfl, Below.refl _ _⟩
        · have h4 : (a == 4) = false := by simpa using h4
          have HE := Lib.hid (show mOutName a = ⟨#[]⟩ by unfold mOutName; rw [if_neg (by simp [h1]), if_neg (by simp [h2]), if_neg (by simp [h3]), if_neg (by simp [h4])])
          go_enter Try.func49, Try.ntmps49
          go_wp2_with fail
          go_ret
          exact ⟨by rw [HE.out]; rfl, Below.refl _ _⟩

end Go.Proofs.Ytfceddgacefejaa
