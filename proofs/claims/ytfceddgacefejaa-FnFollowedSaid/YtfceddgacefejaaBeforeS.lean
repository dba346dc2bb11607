/- IsBefore of the model, of the program and of the model. -/
import Derived.Test.YtfceddgacefejaaBefore
namespace Go.Proofs.Ytfceddgacefejaa
open Go Go.ChangeShapes Go.WideShapes Go.ChangeAt Go.RowKit Go.Lib
set_option linter.unusedVariables false
set_option linter.unusedSimpArgs false
set_option maxRecDepth 100000
theorem mOr_cons (z : Int) (l : List Int) : mOr (z :: l) = if z = 0 then mOr l else z := by
  unfold mOr
  rw [List.find?_cons]
  by_cases h : z = 0
  · have hb : (z != 0) = false := by simp [h]
    rw [hb, if_pos h]
  · have hb : (z != 0) = true := by simp [h]
    rw [hb, if_neg h]
theorem mCmp_zero (a b : Int) : mCmp a b = 0 ↔ a = b := by unfold mCmp; split <;> (try split) <;> omega
theorem mCmp_neg (a b : Int) : mCmp a b < 0 ↔ a < b := by unfold mCmp; split <;> (try split) <;> omega
theorem before_eq (a b : TRule) : mIsBefore a b = if (a.f1 != b.f1) = true then decide (b.f1 < a.f1) else if (a.f5 != b.f5) = true then decide (a.f5 < b.f5) else if (a.f0 != b.f0) = true then decide (a.f0 < b.f0) else
    if (a.f6 != b.f6) = true then decide (a.f6 < b.f6) else decide (a.f7 < b.f7) := by
  unfold mIsBefore mCmpRules
  simp only [mOr_cons, mCmp_zero]
  have hn : mOr [] = 0 := rfl
  rw [hn]
  by_cases h1 : a.f1 = b.f1
  · by_cases h2 : a.f5 = b.f5
    · by_cases h3 : a.f0 = b.f0
      · by_cases h4 : a.f6 = b.f6
        · by_cases h5 : a.f7 = b.f7
          · simp [h1, h2, h3, h4, h5]
          · simp [h1, h2, h3, h4, h5, mCmp_neg]
        · simp [h1, h2, h3, h4, mCmp_neg]
      · simp [h1, h2, h3, mCmp_neg]
    · simp [h1, h2, mCmp_neg]
  · have h1' : b.f1 ≠ a.f1 := fun h => h1 h.symm
    simp [h1, h1', mCmp_neg]

set_option maxHeartbeats 40000000 in
theorem spec_IsBefore (a b : TRule) (w : World) :
    Calls Try.prog 144 #[vRule a, vRule b] w (Says (.bool (mIsBefore a b)) w) := by
  by_cases h0 : (a.f1 != b.f1) = true
  · skip
    have HE := Lib.hid (show mIsBefore a b = decide (b.f1 < a.f1) by simp [before_eq, h0])
    go_enter Try.func144, Try.ntmps144
    go_wp2_with fail
    go_ret
    exact ⟨by rw [HE.out]; rfl, by repeat (first | with_reducible exact Below.refl _ _ | (with_reducible refine below_step ?_ (by assumption) (by first | omega | (simp; done) | (simp <;> omega))) | (with_reducible refine Below.alloc ?_ (by first | omega | (simp; done) | (simp <;> omega)) _) | (with_reducible refine Below.setCell ?_ (by first | omega | (simp; done) | (simp <;> omega)) _) | (with_reducible refine Below.drew ?_) | (with_reducible refine below_dN ?_ _) | (refine Below.alloc ?_ (by first | omega | (simp; done) | (simp <;> omega)) _))⟩
  · have h0 : (a.f1 != b.f1) = false := by simpa using h0
    by_cases h1 : (a.f5 != b.f5) = true
    · skip
      have HE := Lib.hid (show mIsBefore a b = decide (a.f5 < b.f5) by simp [before_eq, h0, h1])
      go_enter Try.func144, Try.ntmps144
      go_wp2_with fail
      go_ret
      exact ⟨by rw [HE.out]; rfl, by repeat (first | with_reducible exact Below.refl _ _ | (with_reducible refine below_step ?_ (by assumption) (by first | omega | (simp; done) | (simp <;> omega))) | (with_reducible refine Below.alloc ?_ (by first | omega | (simp; done) | (simp <;> omega)) _) | (with_reducible refine Below.setCell ?_ (by first | omega | (simp; done) | (simp <;> omega)) _) | (with_reducible refine Below.drew ?_) | (with_reducible refine below_dN ?_ _) | (refine Below.alloc ?_ (by first | omega | (simp; done) | (simp <;> omega)) _))⟩
    · have h1 : (a.f5 != b.f5) = false := by simpa using h1
      by_cases h2 : (a.f0 != b.f0) = true
      · skip
        have HE := Lib.hid (show mIsBefore a b = decide (a.f0 < b.f0) by simp [before_eq, h0, h1, h2])
        go_enter Try.func144, Try.ntmps144
        go_wp2_with fail
        go_ret
        exact ⟨by rw [HE.out]; rfl, by repeat (first | with_reducible exact Below.refl _ _ | (with_reducible refine below_step ?_ (by assumption) (by first | omega | (simp; done) | (simp <;> omega))) | (with_reducible refine Below.alloc ?_ (by first | omega | (simp; done) | (simp <;> omega)) _) | (with_reducible refine Below.setCell ?_ (by first | omega | (simp; done) | (simp <;> omega)) _) | (with_reducible refine Below.drew ?_) | (with_reducible refine below_dN ?_ _) | (refine Below.alloc ?_ (by first | omega | (simp; done) | (simp <;> omega)) _))⟩
      · have h2 : (a.f0 != b.f0) = false := by simpa using h2
        by_cases h3 : (a.f6 != b.f6) = true
        · skip
          have HE := Lib.hid (show mIsBefore a b = decide (a.f6 < b.f6) by simp [before_eq, h0, h1, h2, h3])
          go_enter Try.func144, Try.ntmps144
          go_wp2_with fail
          go_ret
          exact ⟨by rw [HE.out]; rfl, by repeat (first | with_reducible exact Below.refl _ _ | (with_reducible refine below_step ?_ (by assumption) (by first | omega | (simp; done) | (simp <;> omega))) | (with_reducible refine Below.alloc ?_ (by first | omega | (simp; done) | (simp <;> omega)) _) | (with_reducible refine Below.setCell ?_ (by first | omega | (simp; done) | (simp <;> omega)) _) | (with_reducible refine Below.drew ?_) | (with_reducible refine below_dN ?_ _) | (refine Below.alloc ?_ (by first | omega | (simp; done) | (simp <;> omega)) _))⟩
        · have h3 : (a.f6 != b.f6) = false := by simpa using h3
          have HE := Lib.hid (show mIsBefore a b = decide (a.f7 < b.f7) by simp [before_eq, h0, h1, h2, h3])
          go_enter Try.func144, Try.ntmps144
          go_wp2_with fail
          go_ret
          exact ⟨by rw [HE.out]; rfl, by repeat (first | with_reducible exact Below.refl _ _ | (with_reducible refine below_step ?_ (by assumption) (by first | omega | (simp; done) | (simp <;> omega))) | (with_reducible refine Below.alloc ?_ (by first | omega | (simp; done) | (simp <;> omega)) _) | (with_reducible refine Below.setCell ?_ (by first | omega | (simp; done) | (simp <;> omega)) _) | (with_reducible refine Below.drew ?_) | (with_reducible refine below_dN ?_ _) | (refine Below.alloc ?_ (by first | omega | (simp; done) | (simp <;> omega)) _))⟩
end Go.Proofs.Ytfceddgacefejaa
