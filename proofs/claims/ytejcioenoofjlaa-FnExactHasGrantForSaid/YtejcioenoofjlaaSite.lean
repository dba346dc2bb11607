/- Sites and patterns: the tests of chapter 9, of the program and of the model. -/
import Derived.Test.YtejcioenoofjlaaTPattern
import Derived.Test.YtejcioenoofjlaaTSite
import Derived.Test.YtejcioenoofjlaaIn
import Derived.Deep.RegionHeld3
namespace Go.Proofs.Ytejcioenoofjlaa
open Go Go.ChangeShapes Go.WideShapes Go.ChangeAt Go.RowKit Go.Lib
set_option linter.unusedVariables false
set_option linter.unusedSimpArgs false
set_option maxRecDepth 100000
abbrev vPat (p : TPattern) : Value := .agg #[.int .i64 p.f0, .int .i64 p.f1]
abbrev vSite (p : TSite) : Value := .agg #[.int .i64 p.f0, .int .i64 p.f1]
def mIsSite (s : TSite) : Bool := inR s.f0 1 9 && inR s.f1 0 9
def mIsPattern (s : TPattern) : Bool := inR s.f0 0 9 && inR s.f1 (-1) 9
/-- Whether k, or the sign for all numbers, meets n. -/
def mTakes (all k n : Int) : Bool := k == all || k == n
def mMatchSite (p : TPattern) (s : TSite) : Bool := mIsPattern p && mIsSite s && mTakes 0 p.f0 s.f0 && mTakes (-1) p.f1 s.f1
def mIsNarrower (p q : TPattern) : Bool := mIsPattern p && mIsPattern q && (q.f0 == 0 || p.f0 == q.f0) && (q.f1 == -1 || p.f1 == q.f1)

set_option maxHeartbeats 2000000 in
theorem spec_IsSite (s : TSite) (w : World) :
    Calls Try.prog 185 #[.agg #[.int .i64 s.f0, .int .i64 s.f1]] w (Says (.bool (mIsSite s)) w) := by
  by_cases h0 : (inR s.f0 1 9) = true
  · skip
    by_cases h1 : (inR s.f1 0 9) = true
    · skip
      have HE := Lib.hid (show mIsSite s = true by simp [mIsSite, h0, h1])
      go_enter Try.func185, Try.ntmps185
      go_wp2_with (first | (go_at_call 78; refine (spec_in _ _ _ _).mono ?_; rintro e w1 ⟨rfl, rfl⟩))
      go_ret
      exact ⟨by rw [HE.out]; rfl, by repeat (first | exact Below.refl _ _ | (refine Below.alloc ?_ (by first | omega | (simp; done) | (simp <;> omega)) _) | (refine below_dN ?_ _))⟩
    · have h1 : (inR s.f1 0 9) = false := by simpa using h1
      have HE := Lib.hid (show mIsSite s = false by simp [mIsSite, h0, h1])
      go_enter Try.func185, Try.ntmps185
      go_wp2_with (first | (go_at_call 78; refine (spec_in _ _ _ _).mono ?_; rintro e w1 ⟨rfl, rfl⟩))
      go_ret
      exact ⟨by rw [HE.out]; rfl, by repeat (first | exact Below.refl _ _ | (refine Below.alloc ?_ (by first | omega | (simp; done) | (simp <;> omega)) _) | (refine below_dN ?_ _))⟩
  · have h0 : (inR s.f0 1 9) = false := by simpa using h0
    have HE := Lib.hid (show mIsSite s = false by simp [mIsSite, h0])
    go_enter Try.func185, Try.ntmps185
    go_wp2_with (first | (go_at_call 78; refine (spec_in _ _ _ _).mono ?_; rintro e w1 ⟨rfl, rfl⟩))
    go_ret
    exact ⟨by rw [HE.out]; rfl, by repeat (first | exact Below.refl _ _ | (refine Below.alloc ?_ (by first | omega | (simp; done) | (simp <;> omega)) _) | (refine below_dN ?_ _))⟩

set_option maxHeartbeats 2000000 in
theorem impl_IsSite (s : TSite) (w : World) :
    Calls Try.prog 193 #[.agg #[.int .i64 s.f0, .int .i64 s.f1]] w (Says (.bool (mIsSite s)) w) := by
  by_cases h0 : (inR s.f0 1 9) = true
  · skip
    by_cases h1 : (inR s.f1 0 9) = true
    · skip
      have HE := Lib.hid (show mIsSite s = true by simp [mIsSite, h0, h1])
      go_enter Try.func193, Try.ntmps193
      go_wp2_with (first | (go_at_call 137; refine (impl_in _ _ _ _).mono ?_; rintro e w1 ⟨rfl, rfl⟩))
      go_ret
      exact ⟨by rw [HE.out]; rfl, by repeat (first | exact Below.refl _ _ | (refine Below.alloc ?_ (by first | omega | (simp; done) | (simp <;> omega)) _) | (refine below_dN ?_ _))⟩
    · have h1 : (inR s.f1 0 9) = false := by simpa using h1
      have HE := Lib.hid (show mIsSite s = false by simp [mIsSite, h0, h1])
      go_enter Try.func193, Try.ntmps193
      go_wp2_with (first | (go_at_call 137; refine (impl_in _ _ _ _).mono ?_; rintro e w1 ⟨rfl, rfl⟩))
      go_ret
      exact ⟨by rw [HE.out]; rfl, by repeat (first | exact Below.refl _ _ | (refine Below.alloc ?_ (by first | omega | (simp; done) | (simp <;> omega)) _) | (refine below_dN ?_ _))⟩
  · have h0 : (inR s.f0 1 9) = false := by simpa using h0
    have HE := Lib.hid (show mIsSite s = false by simp [mIsSite, h0])
    go_enter Try.func193, Try.ntmps193
    go_wp2_with (first | (go_at_call 137; refine (impl_in _ _ _ _).mono ?_; rintro e w1 ⟨rfl, rfl⟩))
    go_ret
    exact ⟨by rw [HE.out]; rfl, by repeat (first | exact Below.refl _ _ | (refine Below.alloc ?_ (by first | omega | (simp; done) | (simp <;> omega)) _) | (refine below_dN ?_ _))⟩

set_option maxHeartbeats 2000000 in
theorem spec_IsPattern (s : TPattern) (w : World) :
    Calls Try.prog 162 #[.agg #[.int .i64 s.f0, .int .i64 s.f1]] w (Says (.bool (mIsPattern s)) w) := by
  by_cases h0 : (inR s.f0 0 9) = true
  · skip
    by_cases h1 : (inR s.f1 (-1) 9) = true
    · skip
      have HE := Lib.hid (show mIsPattern s = true by simp [mIsPattern, h0, h1])
      go_enter Try.func162, Try.ntmps162
      go_wp2_with (first | (go_at_call 78; refine (spec_in _ _ _ _).mono ?_; rintro e w1 ⟨rfl, rfl⟩))
      go_ret
      exact ⟨by rw [HE.out]; rfl, by repeat (first | exact Below.refl _ _ | (refine Below.alloc ?_ (by first | omega | (simp; done) | (simp <;> omega)) _) | (refine below_dN ?_ _))⟩
    · have h1 : (inR s.f1 (-1) 9) = false := by simpa using h1
      have HE := Lib.hid (show mIsPattern s = false by simp [mIsPattern, h0, h1])
      go_enter Try.func162, Try.ntmps162
      go_wp2_with (first | (go_at_call 78; refine (spec_in _ _ _ _).mono ?_; rintro e w1 ⟨rfl, rfl⟩))
      go_ret
      exact ⟨by rw [HE.out]; rfl, by repeat (first | exact Below.refl _ _ | (refine Below.alloc ?_ (by first | omega | (simp; done) | (simp <;> omega)) _) | (refine below_dN ?_ _))⟩
  · have h0 : (inR s.f0 0 9) = false := by simpa using h0
    have HE := Lib.hid (show mIsPattern s = false by simp [mIsPattern, h0])
    go_enter Try.func162, Try.ntmps162
    go_wp2_with (first | (go_at_call 78; refine (spec_in _ _ _ _).mono ?_; rintro e w1 ⟨rfl, rfl⟩))
    go_ret
    exact ⟨by rw [HE.out]; rfl, by repeat (first | exact Below.refl _ _ | (refine Below.alloc ?_ (by first | omega | (simp; done) | (simp <;> omega)) _) | (refine below_dN ?_ _))⟩

set_option maxHeartbeats 2000000 in
theorem impl_IsPattern (s : TPattern) (w : World) :
    Calls Try.prog 188 #[.agg #[.int .i64 s.f0, .int .i64 s.f1]] w (Says (.bool (mIsPattern s)) w) := by
  by_cases h0 : (inR s.f0 0 9) = true
  · skip
    by_cases h1 : (inR s.f1 (-1) 9) = true
    · skip
      have HE := Lib.hid (show mIsPattern s = true by simp [mIsPattern, h0, h1])
      go_enter Try.func188, Try.ntmps188
      go_wp2_with (first | (go_at_call 137; refine (impl_in _ _ _ _).mono ?_; rintro e w1 ⟨rfl, rfl⟩))
      go_ret
      exact ⟨by rw [HE.out]; rfl, by repeat (first | exact Below.refl _ _ | (refine Below.alloc ?_ (by first | omega | (simp; done) | (simp <;> omega)) _) | (refine below_dN ?_ _))⟩
    · have h1 : (inR s.f1 (-1) 9) = false := by simpa using h1
      have HE := Lib.hid (show mIsPattern s = false by simp [mIsPattern, h0, h1])
      go_enter Try.func188, Try.ntmps188
      go_wp2_with (first | (go_at_call 137; refine (impl_in _ _ _ _).mono ?_; rintro e w1 ⟨rfl, rfl⟩))
      go_ret
      exact ⟨by rw [HE.out]; rfl, by repeat (first | exact Below.refl _ _ | (refine Below.alloc ?_ (by first | omega | (simp; done) | (simp <;> omega)) _) | (refine below_dN ?_ _))⟩
  · have h0 : (inR s.f0 0 9) = false := by simpa using h0
    have HE := Lib.hid (show mIsPattern s = false by simp [mIsPattern, h0])
    go_enter Try.func188, Try.ntmps188
    go_wp2_with (first | (go_at_call 137; refine (impl_in _ _ _ _).mono ?_; rintro e w1 ⟨rfl, rfl⟩))
    go_ret
    exact ⟨by rw [HE.out]; rfl, by repeat (first | exact Below.refl _ _ | (refine Below.alloc ?_ (by first | omega | (simp; done) | (simp <;> omega)) _) | (refine below_dN ?_ _))⟩

end Go.Proofs.Ytejcioenoofjlaa
