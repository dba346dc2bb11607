/- IsLimit, of the program and of the model. -/
import Derived.Test.YtafekceggpbnlaaGreatSite
import Derived.Test.YtafekceggpbnlaaGreatTLimit
namespace Go.Proofs.YtafekceggpbnlaaGreat
open Go Go.ChangeShapes Go.WideShapes Go.ChangeAt Go.RowKit Go.Lib
set_option linter.unusedVariables false
set_option linter.unusedSimpArgs false
set_option maxRecDepth 100000
abbrev vLimit (x : TLimit) : Value := .agg #[.int .i64 x.f0, .int .i64 x.f1, .int .i64 x.f2, .int .i64 x.f3]
def mIsLimit (x : TLimit) : Bool := inR x.f0 0 5 && mIsPattern ⟨x.f1, x.f2⟩ && inR x.f3 0 4

set_option maxHeartbeats 40000000 in
theorem spec_IsLimit (x : TLimit) (w : World) :
    Calls Tryz.prog 84 #[vLimit x] w (Says (.bool (mIsLimit x)) w) := by
  by_cases h0 : (inR x.f0 0 5) = true
  · skip
    by_cases h1 : (mIsPattern ⟨x.f1, x.f2⟩) = true
    · skip
      by_cases h2 : (inR x.f3 0 4) = true
      · skip
        have HE := Lib.hid (show mIsLimit x = true by simp [mIsLimit, h0, h1, h2])
        go_enter Tryz.func84, Tryz.ntmps84
        go_wp2_with (first | (go_at_call 81; refine (spec_in _ _ _ _).mono ?_; rintro e w1 ⟨rfl, rfl⟩) | (go_at_call 108; refine (spec_IsPattern ⟨x.f1, x.f2⟩ _).mono ?_; rintro e w1 ⟨rfl, hb1⟩; obtain ⟨hc1, hf1⟩ := bcell hb1; have HB1 := Lib.hid hb1; have hs1 := hb1.size; (try simp at hs1); (have hz0 : w.heap.size < w1.heap.size := by omega); clear hb1))
        go_ret
        exact ⟨by rw [HE.out]; rfl, by repeat (first | with_reducible exact Below.refl _ _ | (with_reducible refine below_step ?_ (by assumption) (by first | omega | (simp; done) | (simp <;> omega))) | (with_reducible refine Below.alloc ?_ (by first | omega | (simp; done) | (simp <;> omega)) _) | (with_reducible refine Below.setCell ?_ (by first | omega | (simp; done) | (simp <;> omega)) _) | (with_reducible refine Below.drew ?_) | (with_reducible refine below_dN ?_ _) | (refine Below.alloc ?_ (by first | omega | (simp; done) | (simp <;> omega)) _))⟩
      · have h2 : (inR x.f3 0 4) = false := by simpa using h2
        have HE := Lib.hid (show mIsLimit x = false by simp [mIsLimit, h0, h1, h2])
        go_enter Tryz.func84, Tryz.ntmps84
        go_wp2_with (first | (go_at_call 81; refine (spec_in _ _ _ _).mono ?_; rintro e w1 ⟨rfl, rfl⟩) | (go_at_call 108; refine (spec_IsPattern ⟨x.f1, x.f2⟩ _).mono ?_; rintro e w1 ⟨rfl, hb1⟩; obtain ⟨hc1, hf1⟩ := bcell hb1; have HB1 := Lib.hid hb1; have hs1 := hb1.size; (try simp at hs1); (have hz0 : w.heap.size < w1.heap.size := by omega); clear hb1))
        go_ret
        exact ⟨by rw [HE.out]; rfl, by repeat (first | with_reducible exact Below.refl _ _ | (with_reducible refine below_step ?_ (by assumption) (by first | omega | (simp; done) | (simp <;> omega))) | (with_reducible refine Below.alloc ?_ (by first | omega | (simp; done) | (simp <;> omega)) _) | (with_reducible refine Below.setCell ?_ (by first | omega | (simp; done) | (simp <;> omega)) _) | (with_reducible refine Below.drew ?_) | (with_reducible refine below_dN ?_ _) | (refine Below.alloc ?_ (by first | omega | (simp; done) | (simp <;> omega)) _))⟩
    · have h1 : (mIsPattern ⟨x.f1, x.f2⟩) = false := by simpa using h1
      have HE := Lib.hid (show mIsLimit x = false by simp [mIsLimit, h0, h1])
      go_enter Tryz.func84, Tryz.ntmps84
      go_wp2_with (first | (go_at_call 81; refine (spec_in _ _ _ _).mono ?_; rintro e w1 ⟨rfl, rfl⟩) | (go_at_call 108; refine (spec_IsPattern ⟨x.f1, x.f2⟩ _).mono ?_; rintro e w1 ⟨rfl, hb1⟩; obtain ⟨hc1, hf1⟩ := bcell hb1; have HB1 := Lib.hid hb1; have hs1 := hb1.size; (try simp at hs1); (have hz0 : w.heap.size < w1.heap.size := by omega); clear hb1))
      go_ret
      exact ⟨by rw [HE.out]; rfl, by repeat (first | with_reducible exact Below.refl _ _ | (with_reducible refine below_step ?_ (by assumption) (by first | omega | (simp; done) | (simp <;> omega))) | (with_reducible refine Below.alloc ?_ (by first | omega | (simp; done) | (simp <;> omega)) _) | (with_reducible refine Below.setCell ?_ (by first | omega | (simp; done) | (simp <;> omega)) _) | (with_reducible refine Below.drew ?_) | (with_reducible refine below_dN ?_ _) | (refine Below.alloc ?_ (by first | omega | (simp; done) | (simp <;> omega)) _))⟩
  · have h0 : (inR x.f0 0 5) = false := by simpa using h0
    have HE := Lib.hid (show mIsLimit x = false by simp [mIsLimit, h0])
    go_enter Tryz.func84, Tryz.ntmps84
    go_wp2_with (first | (go_at_call 81; refine (spec_in _ _ _ _).mono ?_; rintro e w1 ⟨rfl, rfl⟩) | (go_at_call 108; refine (spec_IsPattern ⟨x.f1, x.f2⟩ _).mono ?_; rintro e w1 ⟨rfl, hb1⟩; obtain ⟨hc1, hf1⟩ := bcell hb1; have HB1 := Lib.hid hb1; have hs1 := hb1.size; (try simp at hs1); (have hz0 : w.heap.size < w1.heap.size := by omega); clear hb1))
    go_ret
    exact ⟨by rw [HE.out]; rfl, by repeat (first | with_reducible exact Below.refl _ _ | (with_reducible refine below_step ?_ (by assumption) (by first | omega | (simp; done) | (simp <;> omega))) | (with_reducible refine Below.alloc ?_ (by first | omega | (simp; done) | (simp <;> omega)) _) | (with_reducible refine Below.setCell ?_ (by first | omega | (simp; done) | (simp <;> omega)) _) | (with_reducible refine Below.drew ?_) | (with_reducible refine below_dN ?_ _) | (refine Below.alloc ?_ (by first | omega | (simp; done) | (simp <;> omega)) _))⟩

set_option maxHeartbeats 40000000 in
theorem impl_IsLimit (x : TLimit) (w : World) :
    Calls Tryz.prog 97 #[vLimit x] w (Says (.bool (mIsLimit x)) w) := by
  by_cases h0 : (inR x.f0 0 5) = true
  · skip
    by_cases h1 : (mIsPattern ⟨x.f1, x.f2⟩) = true
    · skip
      by_cases h2 : (inR x.f3 0 4) = true
      · skip
        have HE := Lib.hid (show mIsLimit x = true by simp [mIsLimit, h0, h1, h2])
        go_enter Tryz.func97, Tryz.ntmps97
        go_wp2_with (first | (go_at_call 93; refine (impl_in _ _ _ _).mono ?_; rintro e w1 ⟨rfl, rfl⟩) | (go_at_call 117; refine (impl_IsPattern ⟨x.f1, x.f2⟩ _).mono ?_; rintro e w1 ⟨rfl, hb1⟩; obtain ⟨hc1, hf1⟩ := bcell hb1; have HB1 := Lib.hid hb1; have hs1 := hb1.size; (try simp at hs1); (have hz0 : w.heap.size < w1.heap.size := by omega); clear hb1))
        go_ret
        exact ⟨by rw [HE.out]; rfl, by repeat (first | with_reducible exact Below.refl _ _ | (with_reducible refine below_step ?_ (by assumption) (by first | omega | (simp; done) | (simp <;> omega))) | (with_reducible refine Below.alloc ?_ (by first | omega | (simp; done) | (simp <;> omega)) _) | (with_reducible refine Below.setCell ?_ (by first | omega | (simp; done) | (simp <;> omega)) _) | (with_reducible refine Below.drew ?_) | (with_reducible refine below_dN ?_ _) | (refine Below.alloc ?_ (by first | omega | (simp; done) | (simp <;> omega)) _))⟩
      · have h2 : (inR x.f3 0 4) = false := by simpa using h2
        have HE := Lib.hid (show mIsLimit x = false by simp [mIsLimit, h0, h1, h2])
        go_enter Tryz.func97, Tryz.ntmps97
        go_wp2_with (first | (go_at_call 93; refine (impl_in _ _ _ _).mono ?_; rintro e w1 ⟨rfl, rfl⟩) | (go_at_call 117; refine (impl_IsPattern ⟨x.f1, x.f2⟩ _).mono ?_; rintro e w1 ⟨rfl, hb1⟩; obtain ⟨hc1, hf1⟩ := bcell hb1; have HB1 := Lib.hid hb1; have hs1 := hb1.size; (try simp at hs1); (have hz0 : w.heap.size < w1.heap.size := by omega); clear hb1))
        go_ret
        exact ⟨by rw [HE.out]; rfl, by repeat (first | with_reducible exact Below.refl _ _ | (with_reducible refine below_step ?_ (by assumption) (by first | omega | (simp; done) | (simp <;> omega))) | (with_reducible refine Below.alloc ?_ (by first | omega | (simp; done) | (simp <;> omega)) _) | (with_reducible refine Below.setCell ?_ (by first | omega | (simp; done) | (simp <;> omega)) _) | (with_reducible refine Below.drew ?_) | (with_reducible refine below_dN ?_ _) | (refine Below.alloc ?_ (by first | omega | (simp; done) | (simp <;> omega)) _))⟩
    · have h1 : (mIsPattern ⟨x.f1, x.f2⟩) = false := by simpa using h1
      have HE := Lib.hid (show mIsLimit x = false by simp [mIsLimit, h0, h1])
      go_enter Tryz.func97, Tryz.ntmps97
      go_wp2_with (first | (go_at_call 93; refine (impl_in _ _ _ _).mono ?_; rintro e w1 ⟨rfl, rfl⟩) | (go_at_call 117; refine (impl_IsPattern ⟨x.f1, x.f2⟩ _).mono ?_; rintro e w1 ⟨rfl, hb1⟩; obtain ⟨hc1, hf1⟩ := bcell hb1; have HB1 := Lib.hid hb1; have hs1 := hb1.size; (try simp at hs1); (have hz0 : w.heap.size < w1.heap.size := by omega); clear hb1))
      go_ret
      exact ⟨by rw [HE.out]; rfl, by repeat (first | with_reducible exact Below.refl _ _ | (with_reducible refine below_step ?_ (by assumption) (by first | omega | (simp; done) | (simp <;> omega))) | (with_reducible refine Below.alloc ?_ (by first | omega | (simp; done) | (simp <;> omega)) _) | (with_reducible refine Below.setCell ?_ (by first | omega | (simp; done) | (simp <;> omega)) _) | (with_reducible refine Below.drew ?_) | (with_reducible refine below_dN ?_ _) | (refine Below.alloc ?_ (by first | omega | (simp; done) | (simp <;> omega)) _))⟩
  · have h0 : (inR x.f0 0 5) = false := by simpa using h0
    have HE := Lib.hid (show mIsLimit x = false by simp [mIsLimit, h0])
    go_enter Tryz.func97, Tryz.ntmps97
    go_wp2_with (first | (go_at_call 93; refine (impl_in _ _ _ _).mono ?_; rintro e w1 ⟨rfl, rfl⟩) | (go_at_call 117; refine (impl_IsPattern ⟨x.f1, x.f2⟩ _).mono ?_; rintro e w1 ⟨rfl, hb1⟩; obtain ⟨hc1, hf1⟩ := bcell hb1; have HB1 := Lib.hid hb1; have hs1 := hb1.size; (try simp at hs1); (have hz0 : w.heap.size < w1.heap.size := by omega); clear hb1))
    go_ret
    exact ⟨by rw [HE.out]; rfl, by repeat (first | with_reducible exact Below.refl _ _ | (with_reducible refine below_step ?_ (by assumption) (by first | omega | (simp; done) | (simp <;> omega))) | (with_reducible refine Below.alloc ?_ (by first | omega | (simp; done) | (simp <;> omega)) _) | (with_reducible refine Below.setCell ?_ (by first | omega | (simp; done) | (simp <;> omega)) _) | (with_reducible refine Below.drew ?_) | (with_reducible refine below_dN ?_ _) | (refine Below.alloc ?_ (by first | omega | (simp; done) | (simp <;> omega)) _))⟩
end Go.Proofs.YtafekceggpbnlaaGreat
