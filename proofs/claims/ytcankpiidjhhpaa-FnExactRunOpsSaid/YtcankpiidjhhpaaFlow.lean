/- IsFlow, of the program and of the model. -/
import Derived.Test.YtcankpiidjhhpaaTFlow
import Derived.Test.YtcankpiidjhhpaaIn
namespace Go.Proofs.Ytcankpiidjhhpaa
open Go Go.ChangeShapes Go.WideShapes Go.ChangeAt Go.RowKit Go.Lib
set_option linter.unusedVariables false
set_option linter.unusedSimpArgs false
set_option maxRecDepth 100000
abbrev vFlow (x : TFlow) : Value := .agg #[.int .i64 x.f0, .int .i64 x.f1, .int .i64 x.f2]
def mIsFlow (x : TFlow) : Bool := inR x.f0 1 5 && inR x.f1 1 9 && inR x.f2 1 9

set_option maxHeartbeats 40000000 in
theorem spec_IsFlow (x : TFlow) (w : World) :
  Calls Try.prog 55 #[vFlow x] w (Says (.bool (mIsFlow x)) w) := by
 by_cases h0 : (inR x.f0 1 5) = true
 ·
  by_cases h1 : (inR x.f1 1 9) = true
  ·
   by_cases h2 : (inR x.f2 1 9) = true
   ·
    have HE := Lib.hid (show mIsFlow x = true by simp [mIsFlow, h0, h1, h2])
    go_enter Try.func55, Try.ntmps55
    go_wp2_with (first | (go_at_call 58; refine (spec_in _ _ _ _).mono ?_; rintro e w1 ⟨rfl, rfl⟩))
    go_ret
    exact ⟨by rw [HE.out]; rfl, by repeat (first | with_reducible exact Below.refl _ _ | (with_reducible refine below_step ?_ (by assumption) (by first | omega | (simp <;> omega))) | (with_reducible refine Below.alloc ?_ (by first | omega | (simp <;> omega)) _) | (with_reducible refine Below.setCell ?_ (by first | omega | (simp <;> omega)) _) | (with_reducible refine Below.drew ?_) | (with_reducible refine below_dN ?_ _) | (refine Below.alloc ?_ (by first | omega | (simp <;> omega)) _))⟩
   ·
    have h2 : (inR x.f2 1 9) = false := by simpa using h2
    have HE := Lib.hid (show mIsFlow x = false by simp [mIsFlow, h0, h1, h2])
    go_enter Try.func55, Try.ntmps55
    go_wp2_with (first | (go_at_call 58; refine (spec_in _ _ _ _).mono ?_; rintro e w1 ⟨rfl, rfl⟩))
    go_ret
    exact ⟨by rw [HE.out]; rfl, by repeat (first | with_reducible exact Below.refl _ _ | (with_reducible refine below_step ?_ (by assumption) (by first | omega | (simp <;> omega))) | (with_reducible refine Below.alloc ?_ (by first | omega | (simp <;> omega)) _) | (with_reducible refine Below.setCell ?_ (by first | omega | (simp <;> omega)) _) | (with_reducible refine Below.drew ?_) | (with_reducible refine below_dN ?_ _) | (refine Below.alloc ?_ (by first | omega | (simp <;> omega)) _))⟩
  ·
   have h1 : (inR x.f1 1 9) = false := by simpa using h1
   have HE := Lib.hid (show mIsFlow x = false by simp [mIsFlow, h0, h1])
   go_enter Try.func55, Try.ntmps55
   go_wp2_with (first | (go_at_call 58; refine (spec_in _ _ _ _).mono ?_; rintro e w1 ⟨rfl, rfl⟩))
   go_ret
   exact ⟨by rw [HE.out]; rfl, by repeat (first | with_reducible exact Below.refl _ _ | (with_reducible refine below_step ?_ (by assumption) (by first | omega | (simp <;> omega))) | (with_reducible refine Below.alloc ?_ (by first | omega | (simp <;> omega)) _) | (with_reducible refine Below.setCell ?_ (by first | omega | (simp <;> omega)) _) | (with_reducible refine Below.drew ?_) | (with_reducible refine below_dN ?_ _) | (refine Below.alloc ?_ (by first | omega | (simp <;> omega)) _))⟩
 ·
  have h0 : (inR x.f0 1 5) = false := by simpa using h0
  have HE := Lib.hid (show mIsFlow x = false by simp [mIsFlow, h0])
  go_enter Try.func55, Try.ntmps55
  go_wp2_with (first | (go_at_call 58; refine (spec_in _ _ _ _).mono ?_; rintro e w1 ⟨rfl, rfl⟩))
  go_ret
  exact ⟨by rw [HE.out]; rfl, by repeat (first | with_reducible exact Below.refl _ _ | (with_reducible refine below_step ?_ (by assumption) (by first | omega | (simp <;> omega))) | (with_reducible refine Below.alloc ?_ (by first | omega | (simp <;> omega)) _) | (with_reducible refine Below.setCell ?_ (by first | omega | (simp <;> omega)) _) | (with_reducible refine Below.drew ?_) | (with_reducible refine below_dN ?_ _) | (refine Below.alloc ?_ (by first | omega | (simp <;> omega)) _))⟩

set_option maxHeartbeats 40000000 in
theorem impl_IsFlow (x : TFlow) (w : World) :
  Calls Try.prog 68 #[vFlow x] w (Says (.bool (mIsFlow x)) w) := by
 by_cases h0 : (inR x.f0 1 5) = true
 ·
  by_cases h1 : (inR x.f1 1 9) = true
  ·
   by_cases h2 : (inR x.f2 1 9) = true
   ·
    have HE := Lib.hid (show mIsFlow x = true by simp [mIsFlow, h0, h1, h2])
    go_enter Try.func68, Try.ntmps68
    go_wp2_with (first | (go_at_call 59; refine (impl_in _ _ _ _).mono ?_; rintro e w1 ⟨rfl, rfl⟩))
    go_ret
    exact ⟨by rw [HE.out]; rfl, by repeat (first | with_reducible exact Below.refl _ _ | (with_reducible refine below_step ?_ (by assumption) (by first | omega | (simp <;> omega))) | (with_reducible refine Below.alloc ?_ (by first | omega | (simp <;> omega)) _) | (with_reducible refine Below.setCell ?_ (by first | omega | (simp <;> omega)) _) | (with_reducible refine Below.drew ?_) | (with_reducible refine below_dN ?_ _) | (refine Below.alloc ?_ (by first | omega | (simp <;> omega)) _))⟩
   ·
    have h2 : (inR x.f2 1 9) = false := by simpa using h2
    have HE := Lib.hid (show mIsFlow x = false by simp [mIsFlow, h0, h1, h2])
    go_enter Try.func68, Try.ntmps68
    go_wp2_with (first | (go_at_call 59; refine (impl_in _ _ _ _).mono ?_; rintro e w1 ⟨rfl, rfl⟩))
    go_ret
    exact ⟨by rw [HE.out]; rfl, by repeat (first | with_reducible exact Below.refl _ _ | (with_reducible refine below_step ?_ (by assumption) (by first | omega | (simp <;> omega))) | (with_reducible refine Below.alloc ?_ (by first | omega | (simp <;> omega)) _) | (with_reducible refine Below.setCell ?_ (by first | omega | (simp <;> omega)) _) | (with_reducible refine Below.drew ?_) | (with_reducible refine below_dN ?_ _) | (refine Below.alloc ?_ (by first | omega | (simp <;> omega)) _))⟩
  ·
   have h1 : (inR x.f1 1 9) = false := by simpa using h1
   have HE := Lib.hid (show mIsFlow x = false by simp [mIsFlow, h0, h1])
   go_enter Try.func68, Try.ntmps68
   go_wp2_with (first | (go_at_call 59; refine (impl_in _ _ _ _).mono ?_; rintro e w1 ⟨rfl, rfl⟩))
   go_ret
   exact ⟨by rw [HE.out]; rfl, by repeat (first | with_reducible exact Below.refl _ _ | (with_reducible refine below_step ?_ (by assumption) (by first | omega | (simp <;> omega))) | (with_reducible refine Below.alloc ?_ (by first | omega | (simp <;> omega)) _) | (with_reducible refine Below.setCell ?_ (by first | omega | (simp <;> omega)) _) | (with_reducible refine Below.drew ?_) | (with_reducible refine below_dN ?_ _) | (refine Below.alloc ?_ (by first | omega | (simp <;> omega)) _))⟩
 ·
  have h0 : (inR x.f0 1 5) = false := by simpa using h0
  have HE := Lib.hid (show mIsFlow x = false by simp [mIsFlow, h0])
  go_enter Try.func68, Try.ntmps68
  go_wp2_with (first | (go_at_call 59; refine (impl_in _ _ _ _).mono ?_; rintro e w1 ⟨rfl, rfl⟩))
  go_ret
  exact ⟨by rw [HE.out]; rfl, by repeat (first | with_reducible exact Below.refl _ _ | (with_reducible refine below_step ?_ (by assumption) (by first | omega | (simp <;> omega))) | (with_reducible refine Below.alloc ?_ (by first | omega | (simp <;> omega)) _) | (with_reducible refine Below.setCell ?_ (by first | omega | (simp <;> omega)) _) | (with_reducible refine Below.drew ?_) | (with_reducible refine below_dN ?_ _) | (refine Below.alloc ?_ (by first | omega | (simp <;> omega)) _))⟩
end Go.Proofs.Ytcankpiidjhhpaa
