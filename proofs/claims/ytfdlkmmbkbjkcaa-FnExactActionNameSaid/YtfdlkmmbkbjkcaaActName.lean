/- ActionName, of the program and of the model. -/
import Derived.Test.YtfdlkmmbkbjkcaaIn
namespace Go.Proofs.Ytfdlkmmbkbjkcaa
open Go Go.ChangeShapes Go.WideShapes Go.ChangeAt Go.RowKit Go.Lib
set_option linter.unusedVariables false
set_option maxRecDepth 100000
def mActName (a : Int) : ByteArray := if (a == 1) = true then ⟨#[97, 108, 108, 111, 119]⟩ else if (a == 2) = true then ⟨#[98, 108, 111, 99, 107]⟩ else if (a == 3) = true then ⟨#[115, 101, 110, 100]⟩ else ⟨#[]⟩
theorem impl_ActionName (a : Int) (w : World) : Calls Try.prog 26 #[.int .i64 a] w (Says (.string (mActName a)) w) := by
  by_cases h1 : (a == 1) = true
  · have HE := Lib.hid (show mActName a = ⟨#[97, 108, 108, 111, 119]⟩ by unfold mActName; rw [if_pos h1])
    go_enter Try.func26, Try.ntmps26
    go_wp2_with fail
    go_ret
    exact ⟨by rw [HE.out]; rfl, Below.refl _ _⟩
  · have h1 : (a == 1) = false := by simpa using h1
    by_cases h2 : (a == 2) = true
    · have HE := Lib.hid (show mActName a = ⟨#[98, 108, 111, 99, 107]⟩ by unfold mActName; rw [if_neg (by simp [h1]), if_pos h2])
      go_enter Try.func26, Try.ntmps26
      go_wp2_with fail
      go_ret
      exact ⟨by rw [HE.out]; rfl, Below.refl _ _⟩
    · have h2 : (a == 2) = false := by simpa using h2
      by_cases h3 : (a == 3) = true
      · have HE := Lib.hid (show mActName a = ⟨#[115, 101, 110, 100]⟩ by unfold mActName; rw [if_neg (by simp [h1]), if_neg (by simp [h2]), if_pos h3])
        go_enter Try.func26, Try.ntmps26
        go_wp2_with fail
        go_ret
        exact ⟨by rw [HE.out]; rfl, Below.refl _ _⟩
      · have h3 : (a == 3) = false := by simpa using h3
        have HE := Lib.hid (show mActName a = ⟨#[]⟩ by unfold mActName; rw [if_neg (by simp [h1]), if_neg (by simp [h2]), if_neg (by simp [h3])])
        go_enter Try.func26, Try.ntmps26
        go_wp2_with fail
        go_ret
        exact ⟨by rw [HE.out]; rfl, Below.refl _ _⟩
theorem spec_ActionName (a : Int) (w : World) : Calls Try.prog 25 #[.int .i64 a] w (Says (.string (mActName a)) w) := by
  by_cases h : inR a 1 3 = true
  · have h' := inR_true.1 h
    obtain rfl | rfl | rfl : a = 1 ∨ a = 2 ∨ a = 3 := by omega
    · skip
      clear h'
      have HE := Lib.hid (show mActName 1 = ⟨#[97, 108, 108, 111, 119]⟩ from rfl)
      go_enter Try.func25, Try.ntmps25
      go_wp2_with (go_at_call 49; refine (spec_in _ _ _ _).mono ?_; rintro e w1 ⟨rfl, rfl⟩)
      go_ret
      exact ⟨by rw [HE.out]; rfl, by repeat (first | with_reducible exact Below.refl _ _ | (with_reducible refine Below.alloc ?_ (by first | omega | (simp; done) | (simp <;> omega)) _) | (refine below_dN ?_ _) | (refine Below.drew ?_))⟩
    · skip
      clear h'
      have HE := Lib.hid (show mActName 2 = ⟨#[98, 108, 111, 99, 107]⟩ from rfl)
      go_enter Try.func25, Try.ntmps25
      go_wp2_with (go_at_call 49; refine (spec_in _ _ _ _).mono ?_; rintro e w1 ⟨rfl, rfl⟩)
      go_ret
      exact ⟨by rw [HE.out]; rfl, by repeat (first | with_reducible exact Below.refl _ _ | (with_reducible refine Below.alloc ?_ (by first | omega | (simp; done) | (simp <;> omega)) _) | (refine below_dN ?_ _) | (refine Below.drew ?_))⟩
    · skip
      clear h'
      have HE := Lib.hid (show mActName 3 = ⟨#[115, 101, 110, 100]⟩ from rfl)
      go_enter Try.func25, Try.ntmps25
      go_wp2_with (go_at_call 49; refine (spec_in _ _ _ _).mono ?_; rintro e w1 ⟨rfl, rfl⟩)
      go_ret
      exact ⟨by rw [HE.out]; rfl, by repeat (first | with_reducible exact Below.refl _ _ | (with_reducible refine Below.alloc ?_ (by first | omega | (simp; done) | (simp <;> omega)) _) | (refine below_dN ?_ _) | (refine Below.drew ?_))⟩
  · have h : inR a 1 3 = false := by simpa using h
    have HE := Lib.hid (show mActName a = ⟨#[]⟩ by
      have h' := inR_false.1 h
      unfold mActName
      rw [if_neg (by simp; omega), if_neg (by simp; omega), if_neg (by simp; omega)])
    go_enter Try.func25, Try.ntmps25
    go_wp2_with (go_at_call 49; refine (spec_in _ _ _ _).mono ?_; rintro e w1 ⟨rfl, rfl⟩)
    go_ret
    exact ⟨by rw [HE.out]; rfl, by repeat (first | with_reducible exact Below.refl _ _ | (with_reducible refine Below.alloc ?_ (by first | omega | (simp; done) | (simp <;> omega)) _) | (refine below_dN ?_ _) | (refine Below.drew ?_))⟩
end Go.Proofs.Ytfdlkmmbkbjkcaa
