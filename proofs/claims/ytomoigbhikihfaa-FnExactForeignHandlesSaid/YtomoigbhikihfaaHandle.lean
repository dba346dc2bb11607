/- HandleOf, of the program and of the model, answer the handle's number, 0 beyond the ranges. -/
import Derived.Test.YtomoigbhikihfaaHash
import Derived.Test.YtomoigbhikihfaaIn
import Derived.Test.YtomoigbhikihfaaApp
namespace Go.Proofs.Ytomoigbhikihfaa
open Go Go.ChangeShapes Go.WideShapes Go.ChangeAt Go.RowKit Go.Lib
set_option linter.unusedVariables false
set_option maxRecDepth 100000
def mHandle (a0 a1 a2 : Int) : Int := if inR a0 1 9999 && inR a1 0 5 && inR a2 0 99 then mHash [a0, a1, a2] % 100000 + 1 else 0
theorem i64s_3 {a b c : Int} (ha : (Lit.int .i64 a).wf = true) (hb : (Lit.int .i64 b).wf = true) (hc : (Lit.int .i64 c).wf = true) : Hid (I64s [a, b, c]) := by
  intro z hz
  simp only [List.mem_cons, List.not_mem_nil, or_false] at hz
  rcases hz with rfl | rfl | rfl
  · exact bounds_i64 ha
  · exact bounds_i64 hb
  · exact bounds_i64 hc
theorem impl_HandleOf (a0 a1 a2 : Int) (w : World) (w0 : (Lit.int .i64 a0).wf = true) (w1 : (Lit.int .i64 a1).wf = true) (w2 : (Lit.int .i64 a2).wf = true) :
    Calls Try.prog 78 #[.int .i64 a0, .int .i64 a1, .int .i64 a2] w (Says (.int .i64 (mHandle a0 a1 a2)) w) := by
  have HI := i64s_3 w0 w1 w2
  clear w0 w1 w2
  by_cases h0 : inR a0 1 9999 = true
  · by_cases h1 : inR a1 0 5 = true
    · by_cases h2 : inR a2 0 99 = true
      · have HE := Lib.hid (show mHandle a0 a1 a2 = mHash [a0, a1, a2] % 100000 + 1 by simp [mHandle, h0, h1, h2])
        have b1 := (mHash_bd [a0, a1, a2]).1
        have b2 := (mHash_bd [a0, a1, a2]).2
        have HW : Hid ((Lit.int .i64 (mHash [a0, a1, a2])).wf = true) := WalkArith.wf_i64 (by omega)
        have e1 := Int.emod_nonneg (mHash [a0, a1, a2]) (show (100000 : Int) ≠ 0 by omega)
        have e2 := Int.emod_lt_of_pos (mHash [a0, a1, a2]) (show (0 : Int) < 100000 by omega)
        have HR := Lib.hid (rd_lit w #[.int .i64 a0, .int .i64 a1, .int .i64 a2] 3 3 1 rfl)
        clear b1 b2
        go_enter Try.func78, Try.ntmps78
        go_wp2_with (first | (go_at_call 68; refine (impl_in _ _ _ _).mono ?_; rintro e w1 ⟨rfl, rfl⟩) | (go_at_call 85; refine (impl_Hash' [a0, a1, a2] _ 3 3 _ _ _ (by omega) HR.out HI).mono ?_; rintro e w1 ⟨rfl, rfl⟩) | (go_at_call 84; refine (impl_mod _ 100000 _ (by omega) (by omega) HW.out).mono ?_; rintro e w1 ⟨rfl, rfl⟩))
        go_ret
        exact ⟨by rw [HE.out]; rfl, (Below.refl _ _).alloc (Nat.le_refl _) _⟩
      · have h2 : inR a2 0 99 = false := by simpa using h2
        have HE := Lib.hid (show mHandle a0 a1 a2 = 0 by simp [mHandle, h0, h1, h2])
        go_enter Try.func78, Try.ntmps78
        go_wp2_with (go_at_call 68; refine (impl_in _ _ _ _).mono ?_; rintro e w1 ⟨rfl, rfl⟩)
        go_ret
        exact ⟨by rw [HE.out]; rfl, Below.refl _ _⟩
    · have h1 : inR a1 0 5 = false := by simpa using h1
      have HE := Lib.hid (show mHandle a0 a1 a2 = 0 by simp [mHandle, h0, h1])
      go_enter Try.func78, Try.ntmps78
      go_wp2_with (go_at_call 68; refine (impl_in _ _ _ _).mono ?_; rintro e w1 ⟨rfl, rfl⟩)
      go_ret
      exact ⟨by rw [HE.out]; rfl, Below.refl _ _⟩
  · have h0 : inR a0 1 9999 = false := by simpa using h0
    have HE := Lib.hid (show mHandle a0 a1 a2 = 0 by simp [mHandle, h0])
    go_enter Try.func78, Try.ntmps78
    go_wp2_with (go_at_call 68; refine (impl_in _ _ _ _).mono ?_; rintro e w1 ⟨rfl, rfl⟩)
    go_ret
    exact ⟨by rw [HE.out]; rfl, Below.refl _ _⟩
theorem spec_HandleOf (a0 a1 a2 : Int) (w : World) (w0 : (Lit.int .i64 a0).wf = true) (w1 : (Lit.int .i64 a1).wf = true) (w2 : (Lit.int .i64 a2).wf = true) :
    Calls Try.prog 56 #[.int .i64 a0, .int .i64 a1, .int .i64 a2] w (Says (.int .i64 (mHandle a0 a1 a2)) w) := by
  have HI := i64s_3 w0 w1 w2
  clear w0 w1 w2
  by_cases h0 : inR a0 1 9999 = true
  · by_cases h1 : inR a1 0 5 = true
    · by_cases h2 : inR a2 0 99 = true
      · have HE := Lib.hid (show mHandle a0 a1 a2 = mHash [a0, a1, a2] % 100000 + 1 by simp [mHandle, h0, h1, h2])
        have b1 := (mHash_bd [a0, a1, a2]).1
        have b2 := (mHash_bd [a0, a1, a2]).2
        have HW : Hid ((Lit.int .i64 (mHash [a0, a1, a2])).wf = true) := WalkArith.wf_i64 (by omega)
        have e1 := Int.emod_nonneg (mHash [a0, a1, a2]) (show (100000 : Int) ≠ 0 by omega)
        have e2 := Int.emod_lt_of_pos (mHash [a0, a1, a2]) (show (0 : Int) < 100000 by omega)
        have HR := Lib.hid (rd_lit w #[.int .i64 a0, .int .i64 a1, .int .i64 a2] 3 3 1 rfl)
        clear b1 b2
        go_enter Try.func56, Try.ntmps56
        go_wp2_with (first | (go_at_call 60; refine (spec_in _ _ _ _).mono ?_; rintro e w1 ⟨rfl, rfl⟩) | (go_at_call 75; refine (spec_Hash' [a0, a1, a2] _ 3 3 _ _ _ (by omega) HR.out HI).mono ?_; rintro e w1 ⟨rfl, rfl⟩) | (go_at_call 74; refine (spec_mod _ 100000 _ (by omega) (by omega) HW.out).mono ?_; rintro e w1 ⟨rfl, rfl⟩))
        go_ret
        exact ⟨by rw [HE.out]; rfl, (Below.refl _ _).alloc (Nat.le_refl _) _⟩
      · have h2 : inR a2 0 99 = false := by simpa using h2
        have HE := Lib.hid (show mHandle a0 a1 a2 = 0 by simp [mHandle, h0, h1, h2])
        go_enter Try.func56, Try.ntmps56
        go_wp2_with (go_at_call 60; refine (spec_in _ _ _ _).mono ?_; rintro e w1 ⟨rfl, rfl⟩)
        go_ret
        exact ⟨by rw [HE.out]; rfl, Below.refl _ _⟩
    · have h1 : inR a1 0 5 = false := by simpa using h1
      have HE := Lib.hid (show mHandle a0 a1 a2 = 0 by simp [mHandle, h0, h1])
      go_enter Try.func56, Try.ntmps56
      go_wp2_with (go_at_call 60; refine (spec_in _ _ _ _).mono ?_; rintro e w1 ⟨rfl, rfl⟩)
      go_ret
      exact ⟨by rw [HE.out]; rfl, Below.refl _ _⟩
  · have h0 : inR a0 1 9999 = false := by simpa using h0
    have HE := Lib.hid (show mHandle a0 a1 a2 = 0 by simp [mHandle, h0])
    go_enter Try.func56, Try.ntmps56
    go_wp2_with (go_at_call 60; refine (spec_in _ _ _ _).mono ?_; rintro e w1 ⟨rfl, rfl⟩)
    go_ret
    exact ⟨by rw [HE.out]; rfl, Below.refl _ _⟩
end Go.Proofs.Ytomoigbhikihfaa
