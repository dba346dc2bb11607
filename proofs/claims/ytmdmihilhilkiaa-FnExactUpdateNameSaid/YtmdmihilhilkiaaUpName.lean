/- UpdateName, of the program and of the model. -/
import Derived.Test.YtmdmihilhilkiaaIn
namespace Go.Proofs.Ytmdmihilhilkiaa
open Go Go.ChangeShapes Go.WideShapes Go.ChangeAt Go.RowKit Go.Lib
set_option linter.unusedVariables false
set_option linter.unusedSimpArgs false
set_option maxRecDepth 100000
def mUpName (a : Int) : ByteArray := if (a == 0) = true then ⟨#[100, 111, 110, 101]⟩ else if (a == 1) = true then ⟨#[102, 111, 114, 109]⟩ else if (a == 2) = true then ⟨#[111, 108, 100]⟩ else if (a == 3) = true then ⟨#[99, 111, 110, 115, 101, 110, 116]⟩ else ⟨#[]⟩
theorem mUpName_at : mUpName 0 = ⟨#[100, 111, 110, 101]⟩ ∧ mUpName 1 = ⟨#[102, 111, 114, 109]⟩ ∧ mUpName 2 = ⟨#[111, 108, 100]⟩ ∧ mUpName 3 = ⟨#[99, 111, 110, 115, 101, 110, 116]⟩ := ⟨rfl, rfl, rfl, rfl⟩
theorem mUpName_no (a : Int) (h : inR a (0) (3) = false) : mUpName a = ⟨#[]⟩ := by
  have h' := inR_false.1 h
  unfold mUpName
  rw [if_neg (by simp; omega), if_neg (by simp; omega), if_neg (by simp; omega), if_neg (by simp; omega)]
set_option maxHeartbeats 4000000 in
theorem impl_UpdateName (a : Int) (w : World) : Calls Try.prog 14 #[.int .i64 a] w (Says (.string (mUpName a)) w) := by
  by_cases h : inR a (0) (3) = true
  · have h' := inR_true.1 h
    obtain rfl | rfl | rfl | rfl : a = 0 ∨ a = 1 ∨ a = 2 ∨ a = 3 := by omega
    · clear h' h
      have HE := Lib.hid (mUpName_at.1)
      have HF := Lib.hid (show inR 0 (0) (3) = true from rfl)
      go_enter Try.func14, Try.ntmps14
      go_wp2_with fail
      go_ret
      exact ⟨by rw [HE.out]; rfl, by repeat (first | with_reducible exact Below.refl _ _ | (with_reducible refine Below.setCell ?_ (by first | omega | (simp; done) | (simp <;> omega)) _) | (with_reducible refine Below.alloc ?_ (by first | omega | (simp; done) | (simp <;> omega)) _) | (refine below_dN ?_ _) | (refine Below.drew ?_))⟩
    · clear h' h
      have HE := Lib.hid (mUpName_at.2.1)
      have HF := Lib.hid (show inR 1 (0) (3) = true from rfl)
      go_enter Try.func14, Try.ntmps14
      go_wp2_with fail
      go_ret
      exact ⟨by rw [HE.out]; rfl, by repeat (first | with_reducible exact Below.refl _ _ | (with_reducible refine Below.setCell ?_ (by first | omega | (simp; done) | (simp <;> omega)) _) | (with_reducible refine Below.alloc ?_ (by first | omega | (simp; done) | (simp <;> omega)) _) | (refine below_dN ?_ _) | (refine Below.drew ?_))⟩
    · clear h' h
      have HE := Lib.hid (mUpName_at.2.2.1)
      have HF := Lib.hid (show inR 2 (0) (3) = true from rfl)
      go_enter Try.func14, Try.ntmps14
      go_wp2_with fail
      go_ret
      exact ⟨by rw [HE.out]; rfl, by repeat (first | with_reducible exact Below.refl _ _ | (with_reducible refine Below.setCell ?_ (by first | omega | (simp; done) | (simp <;> omega)) _) | (with_reducible refine Below.alloc ?_ (by first | omega | (simp; done) | (simp <;> omega)) _) | (refine below_dN ?_ _) | (refine Below.drew ?_))⟩
    · clear h' h
      have HE := Lib.hid (mUpName_at.2.2.2)
      have HF := Lib.hid (show inR 3 (0) (3) = true from rfl)
      go_enter Try.func14, Try.ntmps14
      go_wp2_with fail
      go_ret
      exact ⟨by rw [HE.out]; rfl, by repeat (first | with_reducible exact Below.refl _ _ | (with_reducible refine Below.setCell ?_ (by first | omega | (simp; done) | (simp <;> omega)) _) | (with_reducible refine Below.alloc ?_ (by first | omega | (simp; done) | (simp <;> omega)) _) | (refine below_dN ?_ _) | (refine Below.drew ?_))⟩
  · have h : inR a (0) (3) = false := by simpa using h
    have HE := Lib.hid (mUpName_no a h)
    have h' := inR_false.1 h
    have g0 : (a == 0) = false := by simp; omega
    have g1 : (a == 1) = false := by simp; omega
    have g2 : (a == 2) = false := by simp; omega
    have g3 : (a == 3) = false := by simp; omega
    clear h' h
    go_enter Try.func14, Try.ntmps14
    go_wp2_with fail
    go_ret
    exact ⟨by rw [HE.out]; rfl, by repeat (first | with_reducible exact Below.refl _ _ | (with_reducible refine Below.setCell ?_ (by first | omega | (simp; done) | (simp <;> omega)) _) | (with_reducible refine Below.alloc ?_ (by first | omega | (simp; done) | (simp <;> omega)) _) | (refine below_dN ?_ _) | (refine Below.drew ?_))⟩
set_option maxHeartbeats 4000000 in
theorem spec_UpdateName (a : Int) (w : World) : Calls Try.prog 13 #[.int .i64 a] w (Says (.string (mUpName a)) w) := by
  by_cases h : inR a (0) (3) = true
  · have h' := inR_true.1 h
    obtain rfl | rfl | rfl | rfl : a = 0 ∨ a = 1 ∨ a = 2 ∨ a = 3 := by omega
    · clear h' h
      have HE := Lib.hid (mUpName_at.1)
      have HF := Lib.hid (show inR 0 (0) (3) = true from rfl)
      go_enter Try.func13, Try.ntmps13
      go_wp2_with (go_at_call 52; refine (spec_in _ _ _ _).mono ?_; rintro e w1 ⟨rfl, rfl⟩)
      go_ret
      exact ⟨by rw [HE.out]; rfl, by repeat (first | with_reducible exact Below.refl _ _ | (with_reducible refine Below.setCell ?_ (by first | omega | (simp; done) | (simp <;> omega)) _) | (with_reducible refine Below.alloc ?_ (by first | omega | (simp; done) | (simp <;> omega)) _) | (refine below_dN ?_ _) | (refine Below.drew ?_))⟩
    · clear h' h
      have HE := Lib.hid (mUpName_at.2.1)
      have HF := Lib.hid (show inR 1 (0) (3) = true from rfl)
      go_enter Try.func13, Try.ntmps13
      go_wp2_with (go_at_call 52; refine (spec_in _ _ _ _).mono ?_; rintro e w1 ⟨rfl, rfl⟩)
      go_ret
      exact ⟨by rw [HE.out]; rfl, by repeat (first | with_reducible exact Below.refl _ _ | (with_reducible refine Below.setCell ?_ (by first | omega | (simp; done) | (simp <;> omega)) _) | (with_reducible refine Below.alloc ?_ (by first | omega | (simp; done) | (simp <;> omega)) _) | (refine below_dN ?_ _) | (refine Below.drew ?_))⟩
    · clear h' h
      have HE := Lib.hid (mUpName_at.2.2.1)
      have HF := Lib.hid (show inR 2 (0) (3) = true from rfl)
      go_enter Try.func13, Try.ntmps13
      go_wp2_with (go_at_call 52; refine (spec_in _ _ _ _).mono ?_; rintro e w1 ⟨rfl, rfl⟩)
      go_ret
      exact ⟨by rw [HE.out]; rfl, by repeat (first | with_reducible exact Below.refl _ _ | (with_reducible refine Below.setCell ?_ (by first | omega | (simp; done) | (simp <;> omega)) _) | (with_reducible refine Below.alloc ?_ (by first | omega | (simp; done) | (simp <;> omega)) _) | (refine below_dN ?_ _) | (refine Below.drew ?_))⟩
    · clear h' h
      have HE := Lib.hid (mUpName_at.2.2.2)
      have HF := Lib.hid (show inR 3 (0) (3) = true from rfl)
      go_enter Try.func13, Try.ntmps13
      go_wp2_with (go_at_call 52; refine (spec_in _ _ _ _).mono ?_; rintro e w1 ⟨rfl, rfl⟩)
      go_ret
      exact ⟨by rw [HE.out]; rfl, by repeat (first | with_reducible exact Below.refl _ _ | (with_reducible refine Below.setCell ?_ (by first | omega | (simp; done) | (simp <;> omega)) _) | (with_reducible refine Below.alloc ?_ (by first | omega | (simp; done) | (simp <;> omega)) _) | (refine below_dN ?_ _) | (refine Below.drew ?_))⟩
  · have h : inR a (0) (3) = false := by simpa using h
    have HE := Lib.hid (mUpName_no a h)
    go_enter Try.func13, Try.ntmps13
    go_wp2_with (go_at_call 52; refine (spec_in _ _ _ _).mono ?_; rintro e w1 ⟨rfl, rfl⟩)
    go_ret
    exact ⟨by rw [HE.out]; rfl, by repeat (first | with_reducible exact Below.refl _ _ | (with_reducible refine Below.setCell ?_ (by first | omega | (simp; done) | (simp <;> omega)) _) | (with_reducible refine Below.alloc ?_ (by first | omega | (simp; done) | (simp <;> omega)) _) | (refine below_dN ?_ _) | (refine Below.drew ?_))⟩
end Go.Proofs.Ytmdmihilhilkiaa
