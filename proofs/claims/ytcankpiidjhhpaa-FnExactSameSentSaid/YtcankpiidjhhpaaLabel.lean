/- IsLabel, of the program and of the model. -/
import Derived.Test.YtcankpiidjhhpaaIn
namespace Go.Proofs.Ytcankpiidjhhpaa
open Go Go.ChangeShapes Go.WideShapes Go.ChangeAt Go.RowKit Go.Lib
set_option linter.unusedVariables false
set_option linter.unusedSimpArgs false
set_option maxRecDepth 100000
def mIsLabel (x : Int) : Bool := inR x 0 1022 && (x % 2 == 0)
theorem and1 {z : Int} (h0 : 0 ≤ z) (h1 : z ≤ 1022) : bits .and .i64 z 1 = z % 2 := by
 obtain ⟨m, rfl⟩ := Int.eq_ofNat_of_zero_le h0
 have hm : m < 1023 := by omega
 have h : ∀ k : Fin 1023, bits .and .i64 ((k.1 : Nat) : Int) 1 = ((k.1 : Nat) : Int) % 2 := by decide +kernel
 exact h ⟨m, hm⟩

set_option maxHeartbeats 8000000 in
theorem spec_IsLabel (a0 : Int) (w : World) :
  Calls Try.prog 57 #[.int .i64 a0] w (Says (.bool (mIsLabel a0)) w) := by
 by_cases h0 : (inR a0 0 1022) = true
 ·
  have hb := inR_true.1 h0
  have ht : Int.tmod a0 2 = a0 % 2 := Int.tmod_eq_emod_of_nonneg hb.1
  by_cases h1 : (a0 % 2 == 0) = true
  ·
   have HE := Lib.hid (show mIsLabel a0 = true by simp [mIsLabel, h0, h1])
   have h2 : (Int.tmod a0 2 == 0) = true := by rw [ht]; exact h1
   clear hb ht h1
   go_enter Try.func57, Try.ntmps57
   go_wp2_with (first | (go_at_call 58; refine (spec_in _ _ _ _).mono ?_; rintro e w1 ⟨rfl, rfl⟩))
   go_ret
   exact ⟨by rw [HE.out]; rfl, Below.refl _ _⟩
  ·
   have h1 : (a0 % 2 == 0) = false := by simpa using h1
   have HE := Lib.hid (show mIsLabel a0 = false by simp [mIsLabel, h0, h1])
   have h2 : (Int.tmod a0 2 == 0) = false := by rw [ht]; exact h1
   clear hb ht h1
   go_enter Try.func57, Try.ntmps57
   go_wp2_with (first | (go_at_call 58; refine (spec_in _ _ _ _).mono ?_; rintro e w1 ⟨rfl, rfl⟩))
   go_ret
   exact ⟨by rw [HE.out]; rfl, Below.refl _ _⟩
 ·
  have h0 : (inR a0 0 1022) = false := by simpa using h0
  have HE := Lib.hid (show mIsLabel a0 = false by simp [mIsLabel, h0])
  go_enter Try.func57, Try.ntmps57
  go_wp2_with (first | (go_at_call 58; refine (spec_in _ _ _ _).mono ?_; rintro e w1 ⟨rfl, rfl⟩))
  go_ret
  exact ⟨by rw [HE.out]; rfl, Below.refl _ _⟩

set_option maxHeartbeats 8000000 in
theorem impl_IsLabel (a0 : Int) (w : World) :
  Calls Try.prog 11 #[.int .i64 a0] w (Says (.bool (mIsLabel a0)) w) := by
 by_cases h2 : (bits .and .i64 a0 1 == 0) = true
 ·
  by_cases h0 : (inR a0 0 1022) = true
  ·
   have hb := inR_true.1 h0
   have HE := Lib.hid (show mIsLabel a0 = true by rw [and1 hb.1 hb.2] at h2; unfold mIsLabel; rw [h0, h2]; rfl)
   clear hb
   go_enter Try.func11, Try.ntmps11
   go_wp2_with (first | (go_at_call 59; refine (impl_in _ _ _ _).mono ?_; rintro e w1 ⟨rfl, rfl⟩))
   go_ret
   exact ⟨by rw [HE.out]; rfl, Below.refl _ _⟩
  ·
   have h0 : (inR a0 0 1022) = false := by simpa using h0
   have HE := Lib.hid (show mIsLabel a0 = false by simp [mIsLabel, h0])
   go_enter Try.func11, Try.ntmps11
   go_wp2_with (first | (go_at_call 59; refine (impl_in _ _ _ _).mono ?_; rintro e w1 ⟨rfl, rfl⟩))
   go_ret
   exact ⟨by rw [HE.out]; rfl, Below.refl _ _⟩
 ·
  have h2 : (bits .and .i64 a0 1 == 0) = false := by simpa using h2
  have HE := Lib.hid (show mIsLabel a0 = false by
   cases h0 : inR a0 0 1022 with
   | false => simp [mIsLabel, h0]
   | true =>
    have hb := inR_true.1 h0
    rw [and1 hb.1 hb.2] at h2
    unfold mIsLabel; rw [h0, h2]; rfl)
  go_enter Try.func11, Try.ntmps11
  go_wp2_with (first | (go_at_call 59; refine (impl_in _ _ _ _).mono ?_; rintro e w1 ⟨rfl, rfl⟩))
  go_ret
  exact ⟨by rw [HE.out]; rfl, Below.refl _ _⟩
end Go.Proofs.Ytcankpiidjhhpaa
