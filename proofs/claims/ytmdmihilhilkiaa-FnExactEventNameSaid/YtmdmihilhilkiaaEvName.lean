/- EventName, of the program and of the model. -/
import Derived.Test.YtmdmihilhilkiaaIn
namespace Go.Proofs.Ytmdmihilhilkiaa
open Go Go.ChangeShapes Go.WideShapes Go.ChangeAt Go.RowKit Go.Lib
set_option linter.unusedVariables false
set_option linter.unusedSimpArgs false
set_option maxRecDepth 100000
def mEvName (a : Int) : ByteArray := if (a == 1) = true then ⟨#[105, 110, 115, 116, 97, 108, 108]⟩ else if (a == 2) = true then ⟨#[114, 101, 109, 111, 118, 101]⟩ else if (a == 3) = true then ⟨#[117, 112, 100, 97, 116, 101]⟩ else if (a == 4) = true then ⟨#[108, 105, 109, 105, 116]⟩ else if (a == 5) = true then ⟨#[99, 108, 105, 99, 107]⟩ else if (a == 6) = true then ⟨#[103, 111]⟩ else if (a == 7) = true then ⟨#[116, 105, 99, 107]⟩ else if (a == 8) = true then ⟨#[112, 97, 103, 101]⟩ else if (a == 9) = true then ⟨#[119, 114, 105, 116, 101]⟩ else if (a == 10) = true then ⟨#[115, 116, 111, 114, 101]⟩ else ⟨#[]⟩
theorem mEvName_at : mEvName 1 = ⟨#[105, 110, 115, 116, 97, 108, 108]⟩ ∧ mEvName 2 = ⟨#[114, 101, 109, 111, 118, 101]⟩ ∧ mEvName 3 = ⟨#[117, 112, 100, 97, 116, 101]⟩ ∧ mEvName 4 = ⟨#[108, 105, 109, 105, 116]⟩ ∧ mEvName 5 = ⟨#[99, 108, 105, 99, 107]⟩ ∧ mEvName 6 = ⟨#[103, 111]⟩ ∧ mEvName 7 = ⟨#[116, 105, 99, 107]⟩ ∧ mEvName 8 = ⟨#[112, 97, 103, 101]⟩ ∧ mEvName 9 = ⟨#[119, 114, 105, 116, 101]⟩ ∧ mEvName 10 = ⟨#[115, 116, 111, 114, 101]⟩ := ⟨rfl, rfl, rfl, rfl, rfl, rfl, rfl, rfl, rfl, rfl⟩
theorem mEvName_no (a : Int) (h : inR a (1) (10) = false) : mEvName a = ⟨#[]⟩ := by
  have h' := inR_false.1 h
  unfold mEvName
  rw [if_neg (by simp; omega), if_neg (by simp; omega), if_neg (by simp; omega), if_neg (by simp; omega), if_neg (by simp; omega), if_neg (by simp; omega), if_neg (by simp; omega), if_neg (by simp; omega), if_neg (by simp; omega), if_neg (by simp; omega)]
set_option maxHeartbeats 4000000 in
theorem impl_EventName (a : Int) (w : World) : Calls Try.prog 16 #[.int .i64 a] w (Says (.string (mEvName a)) w) := by
  by_cases h : inR a (1) (10) = true
  · have h' := inR_true.1 h
    obtain rfl | rfl | rfl | rfl | rfl | rfl | rfl | rfl | rfl | rfl : a = 1 ∨ a = 2 ∨ a = 3 ∨ a = 4 ∨ a = 5 ∨ a = 6 ∨ a = 7 ∨ a = 8 ∨ a = 9 ∨ a = 10 := by omega
    · clear h' h
      have HE := Lib.hid (mEvName_at.1)
      have HF := Lib.hid (show inR 1 (1) (10) = true from rfl)
      go_enter Try.func16, Try.ntmps16
      go_wp2_with (go_at_call 53; refine (impl_in _ _ _ _).mono ?_; rintro e w1 ⟨rfl, rfl⟩)
      go_ret
      exact ⟨by rw [HE.out]; rfl, by repeat (first | with_reducible exact Below.refl _ _ | (with_reducible refine Below.setCell ?_ (by first | omega | (simp; done) | (simp <;> omega)) _) | (with_reducible refine Below.alloc ?_ (by first | omega | (simp; done) | (simp <;> omega)) _) | (refine below_dN ?_ _) | (refine Below.drew ?_))⟩
    · clear h' h
      have HE := Lib.hid (mEvName_at.2.1)
      have HF := Lib.hid (show inR 2 (1) (10) = true from rfl)
      go_enter Try.func16, Try.ntmps16
      go_wp2_with (go_at_call 53; refine (impl_in _ _ _ _).mono ?_; rintro e w1 ⟨rfl, rfl⟩)
      go_ret
      exact ⟨by rw [HE.out]; rfl, by repeat (first | with_reducible exact Below.refl _ _ | (with_reducible refine Below.setCell ?_ (by first | omega | (simp; done) | (simp <;> omega)) _) | (with_reducible refine Below.alloc ?_ (by first | omega | (simp; done) | (simp <;> omega)) _) | (refine below_dN ?_ _) | (refine Below.drew ?_))⟩
    · clear h' h
      have HE := Lib.hid (mEvName_at.2.2.1)
      have HF := Lib.hid (show inR 3 (1) (10) = true from rfl)
      go_enter Try.func16, Try.ntmps16
      go_wp2_with (go_at_call 53; refine (impl_in _ _ _ _).mono ?_; rintro e w1 ⟨rfl, rfl⟩)
      go_ret
      exact ⟨by rw [HE.out]; rfl, by repeat (first | with_reducible exact Below.refl _ _ | (with_reducible refine Below.setCell ?_ (by first | omega | (simp; done) | (simp <;> omega)) _) | (with_reducible refine Below.alloc ?_ (by first | omega | (simp; done) | (simp <;> omega)) _) | (refine below_dN ?_ _) | (refine Below.drew ?_))⟩
    · clear h' h
      have HE := Lib.hid (mEvName_at.2.2.2.1)
      have HF := Lib.hid (show inR 4 (1) (10) = true from rfl)
      go_enter Try.func16, Try.ntmps16
      go_wp2_with (go_at_call 53; refine (impl_in _ _ _ _).mono ?_; rintro e w1 ⟨rfl, rfl⟩)
      go_ret
      exact ⟨by rw [HE.out]; rfl, by repeat (first | with_reducible exact Below.refl _ _ | (with_reducible refine Below.setCell ?_ (by first | omega | (simp; done) | (simp <;> omega)) _) | (with_reducible refine Below.alloc ?_ (by first | omega | (simp; done) | (simp <;> omega)) _) | (refine below_dN ?_ _) | (refine Below.drew ?_))⟩
    · clear h' h
      have HE := Lib.hid (mEvName_at.2.2.2.2.1)
      have HF := Lib.hid (show inR 5 (1) (10) = true from rfl)
      go_enter Try.func16, Try.ntmps16
      go_wp2_with (go_at_call 53; refine (impl_in _ _ _ _).mono ?_; rintro e w1 ⟨rfl, rfl⟩)
      go_ret
      exact ⟨by rw [HE.out]; rfl, by repeat (first | with_reducible exact Below.refl _ _ | (with_reducible refine Below.setCell ?_ (by first | omega | (simp; done) | (simp <;> omega)) _) | (with_reducible refine Below.alloc ?_ (by first | omega | (simp; done) | (simp <;> omega)) _) | (refine below_dN ?_ _) | (refine Below.drew ?_))⟩
    · clear h' h
      have HE := Lib.hid (mEvName_at.2.2.2.2.2.1)
      have HF := Lib.hid (show inR 6 (1) (10) = true from rfl)
      go_enter Try.func16, Try.ntmps16
      go_wp2_with (go_at_call 53; refine (impl_in _ _ _ _).mono ?_; rintro e w1 ⟨rfl, rfl⟩)
      go_ret
      exact ⟨by rw [HE.out]; rfl, by repeat (first | with_reducible exact Below.refl _ _ | (with_reducible refine Below.setCell ?_ (by first | omega | (simp; done) | (simp <;> omega)) _) | (with_reducible refine Below.alloc ?_ (by first | omega | (simp; done) | (simp <;> omega)) _) | (refine below_dN ?_ _) | (refine Below.drew ?_))⟩
    · clear h' h
      have HE := Lib.hid (mEvName_at.2.2.2.2.2.2.1)
      have HF := Lib.hid (show inR 7 (1) (10) = true from rfl)
      go_enter Try.func16, Try.ntmps16
      go_wp2_with (go_at_call 53; refine (impl_in _ _ _ _).mono ?_; rintro e w1 ⟨rfl, rfl⟩)
      go_ret
      exact ⟨by rw [HE.out]; rfl, by repeat (first | with_reducible exact Below.refl _ _ | (with_reducible refine Below.setCell ?_ (by first | omega | (simp; done) | (simp <;> omega)) _) | (with_reducible refine Below.alloc ?_ (by first | omega | (simp; done) | (simp <;> omega)) _) | (refine below_dN ?_ _) | (refine Below.drew ?_))⟩
    · clear h' h
      have HE := Lib.hid (mEvName_at.2.2.2.2.2.2.2.1)
      have HF := Lib.hid (show inR 8 (1) (10) = true from rfl)
      go_enter Try.func16, Try.ntmps16
      go_wp2_with (go_at_call 53; refine (impl_in _ _ _ _).mono ?_; rintro e w1 ⟨rfl, rfl⟩)
      go_ret
      exact ⟨by rw [HE.out]; rfl, by repeat (first | with_reducible exact Below.refl _ _ | (with_reducible refine Below.setCell ?_ (by first | omega | (simp; done) | (simp <;> omega)) _) | (with_reducible refine Below.alloc ?_ (by first | omega | (simp; done) | (simp <;> omega)) _) | (refine below_dN ?_ _) | (refine Below.drew ?_))⟩
    · clear h' h
      have HE := Lib.hid (mEvName_at.2.2.2.2.2.2.2.2.1)
      have HF := Lib.hid (show inR 9 (1) (10) = true from rfl)
      go_enter Try.func16, Try.ntmps16
      go_wp2_with (go_at_call 53; refine (impl_in _ _ _ _).mono ?_; rintro e w1 ⟨rfl, rfl⟩)
      go_ret
      exact ⟨by rw [HE.out]; rfl, by repeat (first | with_reducible exact Below.refl _ _ | (with_reducible refine Below.setCell ?_ (by first | omega | (simp; done) | (simp <;> omega)) _) | (with_reducible refine Below.alloc ?_ (by first | omega | (simp; done) | (simp <;> omega)) _) | (refine below_dN ?_ _) | (refine Below.drew ?_))⟩
    · clear h' h
      have HE := Lib.hid (mEvName_at.2.2.2.2.2.2.2.2.2)
      have HF := Lib.hid (show inR 10 (1) (10) = true from rfl)
      go_enter Try.func16, Try.ntmps16
      go_wp2_with (go_at_call 53; refine (impl_in _ _ _ _).mono ?_; rintro e w1 ⟨rfl, rfl⟩)
      go_ret
      exact ⟨by rw [HE.out]; rfl, by repeat (first | with_reducible exact Below.refl _ _ | (with_reducible refine Below.setCell ?_ (by first | omega | (simp; done) | (simp <;> omega)) _) | (with_reducible refine Below.alloc ?_ (by first | omega | (simp; done) | (simp <;> omega)) _) | (refine below_dN ?_ _) | (refine Below.drew ?_))⟩
  · have h : inR a (1) (10) = false := by simpa using h
    have HE := Lib.hid (mEvName_no a h)
    go_enter Try.func16, Try.ntmps16
    go_wp2_with (go_at_call 53; refine (impl_in _ _ _ _).mono ?_; rintro e w1 ⟨rfl, rfl⟩)
    go_ret
    exact ⟨by rw [HE.out]; rfl, by repeat (first | with_reducible exact Below.refl _ _ | (with_reducible refine Below.setCell ?_ (by first | omega | (simp; done) | (simp <;> omega)) _) | (with_reducible refine Below.alloc ?_ (by first | omega | (simp; done) | (simp <;> omega)) _) | (refine below_dN ?_ _) | (refine Below.drew ?_))⟩
set_option maxHeartbeats 4000000 in
theorem spec_EventName (a : Int) (w : World) : Calls Try.prog 15 #[.int .i64 a] w (Says (.string (mEvName a)) w) := by
  by_cases h : inR a (1) (10) = true
  · have h' := inR_true.1 h
    obtain rfl | rfl | rfl | rfl | rfl | rfl | rfl | rfl | rfl | rfl : a = 1 ∨ a = 2 ∨ a = 3 ∨ a = 4 ∨ a = 5 ∨ a = 6 ∨ a = 7 ∨ a = 8 ∨ a = 9 ∨ a = 10 := by omega
    · clear h' h
      have HE := Lib.hid (mEvName_at.1)
      have HF := Lib.hid (show inR 1 (1) (10) = true from rfl)
      go_enter Try.func15, Try.ntmps15
      go_wp2_with (go_at_call 52; refine (spec_in _ _ _ _).mono ?_; rintro e w1 ⟨rfl, rfl⟩)
      go_ret
      exact ⟨by rw [HE.out]; rfl, by repeat (first | with_reducible exact Below.refl _ _ | (with_reducible refine Below.setCell ?_ (by first | omega | (simp; done) | (simp <;> omega)) _) | (with_reducible refine Below.alloc ?_ (by first | omega | (simp; done) | (simp <;> omega)) _) | (refine below_dN ?_ _) | (refine Below.drew ?_))⟩
    · clear h' h
      have HE := Lib.hid (mEvName_at.2.1)
      have HF := Lib.hid (show inR 2 (1) (10) = true from rfl)
      go_enter Try.func15, Try.ntmps15
      go_wp2_with (go_at_call 52; refine (spec_in _ _ _ _).mono ?_; rintro e w1 ⟨rfl, rfl⟩)
      go_ret
      exact ⟨by rw [HE.out]; rfl, by repeat (first | with_reducible exact Below.refl _ _ | (with_reducible refine Below.setCell ?_ (by first | omega | (simp; done) | (simp <;> omega)) _) | (with_reducible refine Below.alloc ?_ (by first | omega | (simp; done) | (simp <;> omega)) _) | (refine below_dN ?_ _) | (refine Below.drew ?_))⟩
    · clear h' h
      have HE := Lib.hid (mEvName_at.2.2.1)
      have HF := Lib.hid (show inR 3 (1) (10) = true from rfl)
      go_enter Try.func15, Try.ntmps15
      go_wp2_with (go_at_call 52; refine (spec_in _ _ _ _).mono ?_; rintro e w1 ⟨rfl, rfl⟩)
      go_ret
      exact ⟨by rw [HE.out]; rfl, by repeat (first | with_reducible exact Below.refl _ _ | (with_reducible refine Below.setCell ?_ (by first | omega | (simp; done) | (simp <;> omega)) _) | (with_reducible refine Below.alloc ?_ (by first | omega | (simp; done) | (simp <;> omega)) _) | (refine below_dN ?_ _) | (refine Below.drew ?_))⟩
    · clear h' h
      have HE := Lib.hid (mEvName_at.2.2.2.1)
      have HF := Lib.hid (show inR 4 (1) (10) = true from rfl)
      go_enter Try.func15, Try.ntmps15
      go_wp2_with (go_at_call 52; refine (spec_in _ _ _ _).mono ?_; rintro e w1 ⟨rfl, rfl⟩)
      go_ret
      exact ⟨by rw [HE.out]; rfl, by repeat (first | with_reducible exact Below.refl _ _ | (with_reducible refine Below.setCell ?_ (by first | omega | (simp; done) | (simp <;> omega)) _) | (with_reducible refine Below.alloc ?_ (by first | omega | (simp; done) | (simp <;> omega)) _) | (refine below_dN ?_ _) | (refine Below.drew ?_))⟩
    · clear h' h
      have HE := Lib.hid (mEvName_at.2.2.2.2.1)
      have HF := Lib.hid (show inR 5 (1) (10) = true from rfl)
      go_enter Try.func15, Try.ntmps15
      go_wp2_with (go_at_call 52; refine (spec_in _ _ _ _).mono ?_; rintro e w1 ⟨rfl, rfl⟩)
      go_ret
      exact ⟨by rw [HE.out]; rfl, by repeat (first | with_reducible exact Below.refl _ _ | (with_reducible refine Below.setCell ?_ (by first | omega | (simp; done) | (simp <;> omega)) _) | (with_reducible refine Below.alloc ?_ (by first | omega | (simp; done) | (simp <;> omega)) _) | (refine below_dN ?_ _) | (refine Below.drew ?_))⟩
    · clear h' h
      have HE := Lib.hid (mEvName_at.2.2.2.2.2.1)
      have HF := Lib.hid (show inR 6 (1) (10) = true from rfl)
      go_enter Try.func15, Try.ntmps15
      go_wp2_with (go_at_call 52; refine (spec_in _ _ _ _).mono ?_; rintro e w1 ⟨rfl, rfl⟩)
      go_ret
      exact ⟨by rw [HE.out]; rfl, by repeat (first | with_reducible exact Below.refl _ _ | (with_reducible refine Below.setCell ?_ (by first | omega | (simp; done) | (simp <;> omega)) _) | (with_reducible refine Below.alloc ?_ (by first | omega | (simp; done) | (simp <;> omega)) _) | (refine below_dN ?_ _) | (refine Below.drew ?_))⟩
    · clear h' h
      have HE := Lib.hid (mEvName_at.2.2.2.2.2.2.1)
      have HF := Lib.hid (show inR 7 (1) (10) = true from rfl)
      go_enter Try.func15, Try.ntmps15
      go_wp2_with (go_at_call 52; refine (spec_in _ _ _ _).mono ?_; rintro e w1 ⟨rfl, rfl⟩)
      go_ret
      exact ⟨by rw [HE.out]; rfl, by repeat (first | with_reducible exact Below.refl _ _ | (with_reducible refine Below.setCell ?_ (by first | omega | (simp; done) | (simp <;> omega)) _) | (with_reducible refine Below.alloc ?_ (by first | omega | (simp; done) | (simp <;> omega)) _) | (refine below_dN ?_ _) | (refine Below.drew ?_))⟩
    · clear h' h
      have HE := Lib.hid (mEvName_at.2.2.2.2.2.2.2.1)
      have HF := Lib.hid (show inR 8 (1) (10) = true from rfl)
      go_enter Try.func15, Try.ntmps15
      go_wp2_with (go_at_call 52; refine (spec_in _ _ _ _).mono ?_; rintro e w1 ⟨rfl, rfl⟩)
      go_ret
      exact ⟨by rw [HE.out]; rfl, by repeat (first | with_reducible exact Below.refl _ _ | (with_reducible refine Below.setCell ?_ (by first | omega | (simp; done) | (simp <;> omega)) _) | (with_reducible refine Below.alloc ?_ (by first | omega | (simp; done) | (simp <;> omega)) _) | (refine below_dN ?_ _) | (refine Below.drew ?_))⟩
    · clear h' h
      have HE := Lib.hid (mEvName_at.2.2.2.2.2.2.2.2.1)
      have HF := Lib.hid (show inR 9 (1) (10) = true from rfl)
      go_enter Try.func15, Try.ntmps15
      go_wp2_with (go_at_call 52; refine (spec_in _ _ _ _).mono ?_; rintro e w1 ⟨rfl, rfl⟩)
      go_ret
      exact ⟨by rw [HE.out]; rfl, by repeat (first | with_reducible exact Below.refl _ _ | (with_reducible refine Below.setCell ?_ (by first | omega | (simp; done) | (simp <;> omega)) _) | (with_reducible refine Below.alloc ?_ (by first | omega | (simp; done) | (simp <;> omega)) _) | (refine below_dN ?_ _) | (refine Below.drew ?_))⟩
    · clear h' h
      have HE := Lib.hid (mEvName_at.2.2.2.2.2.2.2.2.2)
      have HF := Lib.hid (show inR 10 (1) (10) = true from rfl)
      go_enter Try.func15, Try.ntmps15
      go_wp2_with (go_at_call 52; refine (spec_in _ _ _ _).mono ?_; rintro e w1 ⟨rfl, rfl⟩)
      go_ret
      exact ⟨by rw [HE.out]; rfl, by repeat (first | with_reducible exact Below.refl _ _ | (with_reducible refine Below.setCell ?_ (by first | omega | (simp; done) | (simp <;> omega)) _) | (with_reducible refine Below.alloc ?_ (by first | omega | (simp; done) | (simp <;> omega)) _) | (refine below_dN ?_ _) | (refine Below.drew ?_))⟩
  · have h : inR a (1) (10) = false := by simpa using h
    have HE := Lib.hid (mEvName_no a h)
    go_enter Try.func15, Try.ntmps15
    go_wp2_with (go_at_call 52; refine (spec_in _ _ _ _).mono ?_; rintro e w1 ⟨rfl, rfl⟩)
    go_ret
    exact ⟨by rw [HE.out]; rfl, by repeat (first | with_reducible exact Below.refl _ _ | (with_reducible refine Below.setCell ?_ (by first | omega | (simp; done) | (simp <;> omega)) _) | (with_reducible refine Below.alloc ?_ (by first | omega | (simp; done) | (simp <;> omega)) _) | (refine below_dN ?_ _) | (refine Below.drew ?_))⟩
end Go.Proofs.Ytmdmihilhilkiaa
