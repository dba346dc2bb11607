/- ReviewName, of the program and of the model. -/
import Derived.Test.YtldpdjojnbdleaaGreatDoorIn
import Derived.Test.YtldpdjojnbdleaaGreatDoorEFrame
namespace Go.Proofs.YtldpdjojnbdleaaGreatDoor
open Go Go.ChangeShapes Go.WideShapes Go.ChangeAt Go.RowKit Go.Lib
set_option linter.unusedVariables false
set_option linter.unusedSimpArgs false
set_option maxRecDepth 100000
def mRvName (a : Int) : ByteArray := if (a == 0) = true then ⟨#[102, 105, 110, 101]⟩ else if (a == 1) = true then ⟨#[102, 111, 114, 109]⟩ else if (a == 2) = true then ⟨#[115, 101, 97, 108]⟩ else if (a == 3) = true then ⟨#[114, 117, 108, 101]⟩ else if (a == 4) = true then ⟨#[114, 101, 97, 100]⟩ else if (a == 5) = true then ⟨#[115, 101, 110, 100]⟩ else if (a == 6) = true then ⟨#[102, 108, 111, 119]⟩ else ⟨#[]⟩
theorem mRvName_at : mRvName 0 = ⟨#[102, 105, 110, 101]⟩ ∧ mRvName 1 = ⟨#[102, 111, 114, 109]⟩ ∧ mRvName 2 = ⟨#[115, 101, 97, 108]⟩ ∧ mRvName 3 = ⟨#[114, 117, 108, 101]⟩ ∧ mRvName 4 = ⟨#[114, 101, 97, 100]⟩ ∧ mRvName 5 = ⟨#[115, 101, 110, 100]⟩ ∧ mRvName 6 = ⟨#[102, 108, 111, 119]⟩ := ⟨rfl, rfl, rfl, rfl, rfl, rfl, rfl⟩
theorem mRvName_no (a : Int) (h : inR a (0) (6) = false) : mRvName a = ⟨#[]⟩ := by
  have h' := inR_false.1 h
  unfold mRvName
  rw [if_neg (by simp; omega), if_neg (by simp; omega), if_neg (by simp; omega), if_neg (by simp; omega), if_neg (by simp; omega), if_neg (by simp; omega), if_neg (by simp; omega)]
theorem impl_reviewChecks (w : World) : Calls Tryz.prog 8 #[] w (fun e w' => e = .returned (.slice (some ⟨w.heap.size, 0, none⟩) 7 7) ∧ w' = w.alloc (.cells #[.string ⟨#[102, 105, 110, 101]⟩, .func (.func 9) #[] #[], .string ⟨#[102, 111, 114, 109]⟩, .func (.func 10) #[] #[], .string ⟨#[115, 101, 97, 108]⟩, .func (.func 12) #[] #[], .string ⟨#[114, 117, 108, 101]⟩, .func (.func 14) #[] #[], .string ⟨#[114, 101, 97, 100]⟩, .func (.func 17) #[] #[], .string ⟨#[115, 101, 110, 100]⟩, .func (.func 20) #[] #[], .string ⟨#[102, 108, 111, 119]⟩, .func (.func 22) #[] #[]] 28)) := by
  go_enter Tryz.func8, Tryz.ntmps8
  go_wp2_with fail
  go_ret
  exact ⟨rfl, rfl⟩
set_option maxHeartbeats 4000000 in
theorem impl_ReviewName (a : Int) (w : World) (hT : Pow10 w) : Calls Tryz.prog 5 #[.int .i64 a] w (Says (.string (mRvName a)) w) := by
  clear hT
  by_cases h : inR a (0) (6) = true
  · have h' := inR_true.1 h
    obtain rfl | rfl | rfl | rfl | rfl | rfl | rfl : a = 0 ∨ a = 1 ∨ a = 2 ∨ a = 3 ∨ a = 4 ∨ a = 5 ∨ a = 6 := by omega
    · clear h' h
      have HE := Lib.hid (mRvName_at.1)
      have HF := Lib.hid (show inR 0 (0) (6) = true from rfl)
      go_enter Tryz.func5, Tryz.ntmps5
      go_wp2_with (first | (go_at_call 8; refine (impl_reviewChecks _).mono ?_; rintro e w2 ⟨rfl, rfl⟩) | (go_at_call 7; refine (impl_in _ _ _ _).mono ?_; rintro e w1 ⟨rfl, rfl⟩))
      go_ret
      exact ⟨by rw [HE.out]; rfl, by repeat (first | with_reducible exact Below.refl _ _ | (with_reducible refine Below.setCell ?_ (by first | omega | (simp; done) | (simp <;> omega)) _) | (with_reducible refine Below.alloc ?_ (by first | omega | (simp; done) | (simp <;> omega)) _) | (refine below_dN ?_ _) | (refine Below.drew ?_))⟩
    · clear h' h
      have HE := Lib.hid (mRvName_at.2.1)
      have HF := Lib.hid (show inR 1 (0) (6) = true from rfl)
      go_enter Tryz.func5, Tryz.ntmps5
      go_wp2_with (first | (go_at_call 8; refine (impl_reviewChecks _).mono ?_; rintro e w2 ⟨rfl, rfl⟩) | (go_at_call 7; refine (impl_in _ _ _ _).mono ?_; rintro e w1 ⟨rfl, rfl⟩))
      go_ret
      exact ⟨by rw [HE.out]; rfl, by repeat (first | with_reducible exact Below.refl _ _ | (with_reducible refine Below.setCell ?_ (by first | omega | (simp; done) | (simp <;> omega)) _) | (with_reducible refine Below.alloc ?_ (by first | omega | (simp; done) | (simp <;> omega)) _) | (refine below_dN ?_ _) | (refine Below.drew ?_))⟩
    · clear h' h
      have HE := Lib.hid (mRvName_at.2.2.1)
      have HF := Lib.hid (show inR 2 (0) (6) = true from rfl)
      go_enter Tryz.func5, Tryz.ntmps5
      go_wp2_with (first | (go_at_call 8; refine (impl_reviewChecks _).mono ?_; rintro e w2 ⟨rfl, rfl⟩) | (go_at_call 7; refine (impl_in _ _ _ _).mono ?_; rintro e w1 ⟨rfl, rfl⟩))
      go_ret
      exact ⟨by rw [HE.out]; rfl, by repeat (first | with_reducible exact Below.refl _ _ | (with_reducible refine Below.setCell ?_ (by first | omega | (simp; done) | (simp <;> omega)) _) | (with_reducible refine Below.alloc ?_ (by first | omega | (simp; done) | (simp <;> omega)) _) | (refine below_dN ?_ _) | (refine Below.drew ?_))⟩
    · clear h' h
      have HE := Lib.hid (mRvName_at.2.2.2.1)
      have HF := Lib.hid (show inR 3 (0) (6) = true from rfl)
      go_enter Tryz.func5, Tryz.ntmps5
      go_wp2_with (first | (go_at_call 8; refine (impl_reviewChecks _).mono ?_; rintro e w2 ⟨rfl, rfl⟩) | (go_at_call 7; refine (impl_in _ _ _ _).mono ?_; rintro e w1 ⟨rfl, rfl⟩))
      go_ret
      exact ⟨by rw [HE.out]; rfl, by repeat (first | with_reducible exact Below.refl _ _ | (with_reducible refine Below.setCell ?_ (by first | omega | (simp; done) | (simp <;> omega)) _) | (with_reducible refine Below.alloc ?_ (by first | omega | (simp; done) | (simp <;> omega)) _) | (refine below_dN ?_ _) | (refine Below.drew ?_))⟩
    · clear h' h
      have HE := Lib.hid (mRvName_at.2.2.2.2.1)
      have HF := Lib.hid (show inR 4 (0) (6) = true from rfl)
      go_enter Tryz.func5, Tryz.ntmps5
      go_wp2_with (first | (go_at_call 8; refine (impl_reviewChecks _).mono ?_; rintro e w2 ⟨rfl, rfl⟩) | (go_at_call 7; refine (impl_in _ _ _ _).mono ?_; rintro e w1 ⟨rfl, rfl⟩))
      go_ret
      exact ⟨by rw [HE.out]; rfl, by repeat (first | with_reducible exact Below.refl _ _ | (with_reducible refine Below.setCell ?_ (by first | omega | (simp; done) | (simp <;> omega)) _) | (with_reducible refine Below.alloc ?_ (by first | omega | (simp; done) | (simp <;> omega)) _) | (refine below_dN ?_ _) | (refine Below.drew ?_))⟩
    · clear h' h
      have HE := Lib.hid (mRvName_at.2.2.2.2.2.1)
      have HF := Lib.hid (show inR 5 (0) (6) = true from rfl)
      go_enter Tryz.func5, Tryz.ntmps5
      go_wp2_with (first | (go_at_call 8; refine (impl_reviewChecks _).mono ?_; rintro e w2 ⟨rfl, rfl⟩) | (go_at_call 7; refine (impl_in _ _ _ _).mono ?_; rintro e w1 ⟨rfl, rfl⟩))
      go_ret
      exact ⟨by rw [HE.out]; rfl, by repeat (first | with_reducible exact Below.refl _ _ | (with_reducible refine Below.setCell ?_ (by first | omega | (simp; done) | (simp <;> omega)) _) | (with_reducible refine Below.alloc ?_ (by first | omega | (simp; done) | (simp <;> omega)) _) | (refine below_dN ?_ _) | (refine Below.drew ?_))⟩
    · clear h' h
      have HE := Lib.hid (mRvName_at.2.2.2.2.2.2)
      have HF := Lib.hid (show inR 6 (0) (6) = true from rfl)
      go_enter Tryz.func5, Tryz.ntmps5
      go_wp2_with (first | (go_at_call 8; refine (impl_reviewChecks _).mono ?_; rintro e w2 ⟨rfl, rfl⟩) | (go_at_call 7; refine (impl_in _ _ _ _).mono ?_; rintro e w1 ⟨rfl, rfl⟩))
      go_ret
      exact ⟨by rw [HE.out]; rfl, by repeat (first | with_reducible exact Below.refl _ _ | (with_reducible refine Below.setCell ?_ (by first | omega | (simp; done) | (simp <;> omega)) _) | (with_reducible refine Below.alloc ?_ (by first | omega | (simp; done) | (simp <;> omega)) _) | (refine below_dN ?_ _) | (refine Below.drew ?_))⟩
  · have h : inR a (0) (6) = false := by simpa using h
    have HE := Lib.hid (mRvName_no a h)
    go_enter Tryz.func5, Tryz.ntmps5
    go_wp2_with (first | (go_at_call 8; refine (impl_reviewChecks _).mono ?_; rintro e w2 ⟨rfl, rfl⟩) | (go_at_call 7; refine (impl_in _ _ _ _).mono ?_; rintro e w1 ⟨rfl, rfl⟩))
    go_ret
    exact ⟨by rw [HE.out]; rfl, by repeat (first | with_reducible exact Below.refl _ _ | (with_reducible refine Below.setCell ?_ (by first | omega | (simp; done) | (simp <;> omega)) _) | (with_reducible refine Below.alloc ?_ (by first | omega | (simp; done) | (simp <;> omega)) _) | (refine below_dN ?_ _) | (refine Below.drew ?_))⟩
set_option maxHeartbeats 4000000 in
theorem spec_ReviewName (a : Int) (w : World) (hT : Pow10 w) : Calls Tryz.prog 4 #[.int .i64 a] w (Says (.string (mRvName a)) w) := by
  clear hT
  by_cases h : inR a (0) (6) = true
  · have h' := inR_true.1 h
    obtain rfl | rfl | rfl | rfl | rfl | rfl | rfl : a = 0 ∨ a = 1 ∨ a = 2 ∨ a = 3 ∨ a = 4 ∨ a = 5 ∨ a = 6 := by omega
    · clear h' h
      have HE := Lib.hid (mRvName_at.1)
      have HF := Lib.hid (show inR 0 (0) (6) = true from rfl)
      go_enter Tryz.func4, Tryz.ntmps4
      go_wp2_with (go_at_call 6; refine (spec_in _ _ _ _).mono ?_; rintro e w1 ⟨rfl, rfl⟩)
      go_ret
      exact ⟨by rw [HE.out]; rfl, by repeat (first | with_reducible exact Below.refl _ _ | (with_reducible refine Below.setCell ?_ (by first | omega | (simp; done) | (simp <;> omega)) _) | (with_reducible refine Below.alloc ?_ (by first | omega | (simp; done) | (simp <;> omega)) _) | (refine below_dN ?_ _) | (refine Below.drew ?_))⟩
    · clear h' h
      have HE := Lib.hid (mRvName_at.2.1)
      have HF := Lib.hid (show inR 1 (0) (6) = true from rfl)
      go_enter Tryz.func4, Tryz.ntmps4
      go_wp2_with (go_at_call 6; refine (spec_in _ _ _ _).mono ?_; rintro e w1 ⟨rfl, rfl⟩)
      go_ret
      exact ⟨by rw [HE.out]; rfl, by repeat (first | with_reducible exact Below.refl _ _ | (with_reducible refine Below.setCell ?_ (by first | omega | (simp; done) | (simp <;> omega)) _) | (with_reducible refine Below.alloc ?_ (by first | omega | (simp; done) | (simp <;> omega)) _) | (refine below_dN ?_ _) | (refine Below.drew ?_))⟩
    · clear h' h
      have HE := Lib.hid (mRvName_at.2.2.1)
      have HF := Lib.hid (show inR 2 (0) (6) = true from rfl)
      go_enter Tryz.func4, Tryz.ntmps4
      go_wp2_with (go_at_call 6; refine (spec_in _ _ _ _).mono ?_; rintro e w1 ⟨rfl, rfl⟩)
      go_ret
      exact ⟨by rw [HE.out]; rfl, by repeat (first | with_reducible exact Below.refl _ _ | (with_reducible refine Below.setCell ?_ (by first | omega | (simp; done) | (simp <;> omega)) _) | (with_reducible refine Below.alloc ?_ (by first | omega | (simp; done) | (simp <;> omega)) _) | (refine below_dN ?_ _) | (refine Below.drew ?_))⟩
    · clear h' h
      have HE := Lib.hid (mRvName_at.2.2.2.1)
      have HF := Lib.hid (show inR 3 (0) (6) = true from rfl)
      go_enter Tryz.func4, Tryz.ntmps4
      go_wp2_with (go_at_call 6; refine (spec_in _ _ _ _).mono ?_; rintro e w1 ⟨rfl, rfl⟩)
      go_ret
      exact ⟨by rw [HE.out]; rfl, by repeat (first | with_reducible exact Below.refl _ _ | (with_reducible refine Below.setCell ?_ (by first | omega | (simp; done) | (simp <;> omega)) _) | (with_reducible refine Below.alloc ?_ (by first | omega | (simp; done) | (simp <;> omega)) _) | (refine below_dN ?_ _) | (refine Below.drew ?_))⟩
    · clear h' h
      have HE := Lib.hid (mRvName_at.2.2.2.2.1)
      have HF := Lib.hid (show inR 4 (0) (6) = true from rfl)
      go_enter Tryz.func4, Tryz.ntmps4
      go_wp2_with (go_at_call 6; refine (spec_in _ _ _ _).mono ?_; rintro e w1 ⟨rfl, rfl⟩)
      go_ret
      exact ⟨by rw [HE.out]; rfl, by repeat (first | with_reducible exact Below.refl _ _ | (with_reducible refine Below.setCell ?_ (by first | omega | (simp; done) | (simp <;> omega)) _) | (with_reducible refine Below.alloc ?_ (by first | omega | (simp; done) | (simp <;> omega)) _) | (refine below_dN ?_ _) | (refine Below.drew ?_))⟩
    · clear h' h
      have HE := Lib.hid (mRvName_at.2.2.2.2.2.1)
      have HF := Lib.hid (show inR 5 (0) (6) = true from rfl)
      go_enter Tryz.func4, Tryz.ntmps4
      go_wp2_with (go_at_call 6; refine (spec_in _ _ _ _).mono ?_; rintro e w1 ⟨rfl, rfl⟩)
      go_ret
      exact ⟨by rw [HE.out]; rfl, by repeat (first | with_reducible exact Below.refl _ _ | (with_reducible refine Below.setCell ?_ (by first | omega | (simp; done) | (simp <;> omega)) _) | (with_reducible refine Below.alloc ?_ (by first | omega | (simp; done) | (simp <;> omega)) _) | (refine below_dN ?_ _) | (refine Below.drew ?_))⟩
    · clear h' h
      have HE := Lib.hid (mRvName_at.2.2.2.2.2.2)
      have HF := Lib.hid (show inR 6 (0) (6) = true from rfl)
      go_enter Tryz.func4, Tryz.ntmps4
      go_wp2_with (go_at_call 6; refine (spec_in _ _ _ _).mono ?_; rintro e w1 ⟨rfl, rfl⟩)
      go_ret
      exact ⟨by rw [HE.out]; rfl, by repeat (first | with_reducible exact Below.refl _ _ | (with_reducible refine Below.setCell ?_ (by first | omega | (simp; done) | (simp <;> omega)) _) | (with_reducible refine Below.alloc ?_ (by first | omega | (simp; done) | (simp <;> omega)) _) | (refine below_dN ?_ _) | (refine Below.drew ?_))⟩
  · have h : inR a (0) (6) = false := by simpa using h
    have HE := Lib.hid (mRvName_no a h)
    go_enter Tryz.func4, Tryz.ntmps4
    go_wp2_with (go_at_call 6; refine (spec_in _ _ _ _).mono ?_; rintro e w1 ⟨rfl, rfl⟩)
    go_ret
    exact ⟨by rw [HE.out]; rfl, by repeat (first | with_reducible exact Below.refl _ _ | (with_reducible refine Below.setCell ?_ (by first | omega | (simp; done) | (simp <;> omega)) _) | (with_reducible refine Below.alloc ?_ (by first | omega | (simp; done) | (simp <;> omega)) _) | (refine below_dN ?_ _) | (refine Below.drew ?_))⟩
end Go.Proofs.YtldpdjojnbdleaaGreatDoor
