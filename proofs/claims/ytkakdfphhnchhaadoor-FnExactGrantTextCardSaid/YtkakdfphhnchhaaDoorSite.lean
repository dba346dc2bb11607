/- Sites and patterns: the tests of chapter 9, of the program and of the model. -/
import Derived.Test.YtkakdfphhnchhaaDoorTPattern
import Derived.Test.YtkakdfphhnchhaaDoorTSite
import Derived.Test.YtkakdfphhnchhaaDoorIn
import Derived.Deep.RegionHeld3
namespace Go.Proofs.YtkakdfphhnchhaaDoor
open Go Go.ChangeShapes Go.WideShapes Go.ChangeAt Go.RowKit Go.Lib
set_option linter.unusedVariables false
set_option linter.unusedSimpArgs false
set_option maxRecDepth 100000
abbrev vPat (p : TPattern) : Value := .agg #[.int .i64 p.f0, .int .i64 p.f1]
abbrev vSite (p : TSite) : Value := .agg #[.int .i64 p.f0, .int .i64 p.f1]
def mIsSite (s : TSite) : Bool := inR s.f0 1 9 && inR s.f1 0 9
def mIsPattern (s : TPattern) : Bool := inR s.f0 0 9 && inR s.f1 (-1) 9
/-- Whether k, or the sign for all numbers, meets n. -/
def mTakes (all k n : Int) : Bool := k == all || k == n
def mMatchSite (p : TPattern) (s : TSite) : Bool := mIsPattern p && mIsSite s && mTakes 0 p.f0 s.f0 && mTakes (-1) p.f1 s.f1
def mIsNarrower (p q : TPattern) : Bool := mIsPattern p && mIsPattern q && (q.f0 == 0 || p.f0 == q.f0) && (q.f1 == -1 || p.f1 == q.f1)

set_option maxHeartbeats 2000000 in
theorem spec_IsSite (s : TSite) (w : World) :
    Calls Tryd.prog 33 #[.agg #[.int .i64 s.f0, .int .i64 s.f1]] w (Says (.bool (mIsSite s)) w) := by
  by_cases h0 : (inR s.f0 1 9) = true
  · skip
    by_cases h1 : (inR s.f1 0 9) = true
    · skip
      have HE := Lib.hid (show mIsSite s = true by simp [mIsSite, h0, h1])
      go_enter Tryd.func33, Tryd.ntmps33
      go_wp2_with (first | (go_at_call 57; refine (spec_in _ _ _ _).mono ?_; rintro e w1 ⟨rfl, rfl⟩))
      go_ret
      exact ⟨by rw [HE.out]; rfl, by repeat (first | exact Below.refl _ _ | (refine Below.alloc ?_ (by first | omega | (simp; done) | (simp <;> omega)) _) | (refine below_dN ?_ _))⟩
    · have h1 : (inR s.f1 0 9) = false := by simpa using h1
      have HE := Lib.hid (show mIsSite s = false by simp [mIsSite, h0, h1])
      go_enter Tryd.func33, Tryd.ntmps33
      go_wp2_with (first | (go_at_call 57; refine (spec_in _ _ _ _).mono ?_; rintro e w1 ⟨rfl, rfl⟩))
      go_ret
      exact ⟨by rw [HE.out]; rfl, by repeat (first | exact Below.refl _ _ | (refine Below.alloc ?_ (by first | omega | (simp; done) | (simp <;> omega)) _) | (refine below_dN ?_ _))⟩
  · have h0 : (inR s.f0 1 9) = false := by simpa using h0
    have HE := Lib.hid (show mIsSite s = false by simp [mIsSite, h0])
    go_enter Tryd.func33, Tryd.ntmps33
    go_wp2_with (first | (go_at_call 57; refine (spec_in _ _ _ _).mono ?_; rintro e w1 ⟨rfl, rfl⟩))
    go_ret
    exact ⟨by rw [HE.out]; rfl, by repeat (first | exact Below.refl _ _ | (refine Below.alloc ?_ (by first | omega | (simp; done) | (simp <;> omega)) _) | (refine below_dN ?_ _))⟩

set_option maxHeartbeats 2000000 in
theorem impl_IsSite (s : TSite) (w : World) :
    Calls Tryd.prog 35 #[.agg #[.int .i64 s.f0, .int .i64 s.f1]] w (Says (.bool (mIsSite s)) w) := by
  by_cases h0 : (inR s.f0 1 9) = true
  · skip
    by_cases h1 : (inR s.f1 0 9) = true
    · skip
      have HE := Lib.hid (show mIsSite s = true by simp [mIsSite, h0, h1])
      go_enter Tryd.func35, Tryd.ntmps35
      go_wp2_with (first | (go_at_call 58; refine (impl_in _ _ _ _).mono ?_; rintro e w1 ⟨rfl, rfl⟩))
      go_ret
      exact ⟨by rw [HE.out]; rfl, by repeat (first | exact Below.refl _ _ | (refine Below.alloc ?_ (by first | omega | (simp; done) | (simp <;> omega)) _) | (refine below_dN ?_ _))⟩
    · have h1 : (inR s.f1 0 9) = false := by simpa using h1
      have HE := Lib.hid (show mIsSite s = false by simp [mIsSite, h0, h1])
      go_enter Tryd.func35, Tryd.ntmps35
      go_wp2_with (first | (go_at_call 58; refine (impl_in _ _ _ _).mono ?_; rintro e w1 ⟨rfl, rfl⟩))
      go_ret
      exact ⟨by rw [HE.out]; rfl, by repeat (first | exact Below.refl _ _ | (refine Below.alloc ?_ (by first | omega | (simp; done) | (simp <;> omega)) _) | (refine below_dN ?_ _))⟩
  · have h0 : (inR s.f0 1 9) = false := by simpa using h0
    have HE := Lib.hid (show mIsSite s = false by simp [mIsSite, h0])
    go_enter Tryd.func35, Tryd.ntmps35
    go_wp2_with (first | (go_at_call 58; refine (impl_in _ _ _ _).mono ?_; rintro e w1 ⟨rfl, rfl⟩))
    go_ret
    exact ⟨by rw [HE.out]; rfl, by repeat (first | exact Below.refl _ _ | (refine Below.alloc ?_ (by first | omega | (simp; done) | (simp <;> omega)) _) | (refine below_dN ?_ _))⟩

set_option maxHeartbeats 2000000 in
theorem spec_IsPattern (s : TPattern) (w : World) :
    Calls Tryd.prog 37 #[.agg #[.int .i64 s.f0, .int .i64 s.f1]] w (Says (.bool (mIsPattern s)) w) := by
  by_cases h0 : (inR s.f0 0 9) = true
  · skip
    by_cases h1 : (inR s.f1 (-1) 9) = true
    · skip
      have HE := Lib.hid (show mIsPattern s = true by simp [mIsPattern, h0, h1])
      go_enter Tryd.func37, Tryd.ntmps37
      go_wp2_with (first | (go_at_call 57; refine (spec_in _ _ _ _).mono ?_; rintro e w1 ⟨rfl, rfl⟩))
      go_ret
      exact ⟨by rw [HE.out]; rfl, by repeat (first | exact Below.refl _ _ | (refine Below.alloc ?_ (by first | omega | (simp; done) | (simp <;> omega)) _) | (refine below_dN ?_ _))⟩
    · have h1 : (inR s.f1 (-1) 9) = false := by simpa using h1
      have HE := Lib.hid (show mIsPattern s = false by simp [mIsPattern, h0, h1])
      go_enter Tryd.func37, Tryd.ntmps37
      go_wp2_with (first | (go_at_call 57; refine (spec_in _ _ _ _).mono ?_; rintro e w1 ⟨rfl, rfl⟩))
      go_ret
      exact ⟨by rw [HE.out]; rfl, by repeat (first | exact Below.refl _ _ | (refine Below.alloc ?_ (by first | omega | (simp; done) | (simp <;> omega)) _) | (refine below_dN ?_ _))⟩
  · have h0 : (inR s.f0 0 9) = false := by simpa using h0
    have HE := Lib.hid (show mIsPattern s = false by simp [mIsPattern, h0])
    go_enter Tryd.func37, Tryd.ntmps37
    go_wp2_with (first | (go_at_call 57; refine (spec_in _ _ _ _).mono ?_; rintro e w1 ⟨rfl, rfl⟩))
    go_ret
    exact ⟨by rw [HE.out]; rfl, by repeat (first | exact Below.refl _ _ | (refine Below.alloc ?_ (by first | omega | (simp; done) | (simp <;> omega)) _) | (refine below_dN ?_ _))⟩

set_option maxHeartbeats 2000000 in
theorem impl_IsPattern (s : TPattern) (w : World) :
    Calls Tryd.prog 38 #[.agg #[.int .i64 s.f0, .int .i64 s.f1]] w (Says (.bool (mIsPattern s)) w) := by
  by_cases h0 : (inR s.f0 0 9) = true
  · skip
    by_cases h1 : (inR s.f1 (-1) 9) = true
    · skip
      have HE := Lib.hid (show mIsPattern s = true by simp [mIsPattern, h0, h1])
      go_enter Tryd.func38, Tryd.ntmps38
      go_wp2_with (first | (go_at_call 58; refine (impl_in _ _ _ _).mono ?_; rintro e w1 ⟨rfl, rfl⟩))
      go_ret
      exact ⟨by rw [HE.out]; rfl, by repeat (first | exact Below.refl _ _ | (refine Below.alloc ?_ (by first | omega | (simp; done) | (simp <;> omega)) _) | (refine below_dN ?_ _))⟩
    · have h1 : (inR s.f1 (-1) 9) = false := by simpa using h1
      have HE := Lib.hid (show mIsPattern s = false by simp [mIsPattern, h0, h1])
      go_enter Tryd.func38, Tryd.ntmps38
      go_wp2_with (first | (go_at_call 58; refine (impl_in _ _ _ _).mono ?_; rintro e w1 ⟨rfl, rfl⟩))
      go_ret
      exact ⟨by rw [HE.out]; rfl, by repeat (first | exact Below.refl _ _ | (refine Below.alloc ?_ (by first | omega | (simp; done) | (simp <;> omega)) _) | (refine below_dN ?_ _))⟩
  · have h0 : (inR s.f0 0 9) = false := by simpa using h0
    have HE := Lib.hid (show mIsPattern s = false by simp [mIsPattern, h0])
    go_enter Tryd.func38, Tryd.ntmps38
    go_wp2_with (first | (go_at_call 58; refine (impl_in _ _ _ _).mono ?_; rintro e w1 ⟨rfl, rfl⟩))
    go_ret
    exact ⟨by rw [HE.out]; rfl, by repeat (first | exact Below.refl _ _ | (refine Below.alloc ?_ (by first | omega | (simp; done) | (simp <;> omega)) _) | (refine below_dN ?_ _))⟩

theorem impl_optionOf (n all : Int) (w : World) : Calls Tryd.prog 60 #[.int .i64 n, .int .i64 all] w (Says (.agg #[.bool (n != all), .int .i64 n]) w) := by
  go_enter Tryd.func60, Tryd.ntmps60
  go_wp2
  exact bodyPost_ret (v := .agg #[.bool (n != all), .int .i64 n]) (by simp [results, Tryd.results60, go_sem]) rfl ⟨rfl, by repeat (first | with_reducible exact Below.refl _ _ | (with_reducible refine below_step ?_ (by assumption) (by first | omega | (simp; done) | (simp <;> omega))) | (with_reducible refine Below.alloc ?_ (by first | omega | (simp; done) | (simp <;> omega)) _) | (with_reducible refine Below.setCell ?_ (by first | omega | (simp; done) | (simp <;> omega)) _) | (with_reducible refine Below.drew ?_) | (with_reducible refine below_dN ?_ _) | (refine Below.alloc ?_ (by first | omega | (simp; done) | (simp <;> omega)) _))⟩
theorem impl_scopeOf (p : TPattern) (w : World) : Calls Tryd.prog 39 #[vPat p] w (Says (.agg #[.bool (p.f0 != 0), .int .i64 p.f0, .bool (p.f1 != -1), .int .i64 p.f1]) w) := by
  go_enter Tryd.func39, Tryd.ntmps39
  go_wp2_with fail
  go_region_held3 (fun w' => w'.cell? ⟨w.heap.size, 0, none⟩ = some (.int .i64 p.f0) ∧ w'.cell? ⟨w.heap.size, 1, none⟩ = some (.int .i64 p.f1))
    (first | exact ⟨cell_nw HB1.out (by first | assumption | simp), cell_nw HB1.out (by first | assumption | simp)⟩ | (constructor <;> (repeat (refine cell_past (by simp) ?_)) <;> first | exact And.left (by assumption) | exact And.right (by assumption)) | go_keep)
    (first | (go_at_call 60; refine (impl_optionOf _ _ _).mono ?_; rintro e w1 ⟨rfl, hb1⟩; obtain ⟨hc1, hf1⟩ := bcell hb1; have HB1 := Lib.hid hb1; have hs1 := hb1.size; (try simp at hs1); (have hz0 : w.heap.size < w1.heap.size := by omega); (have hz1 : w.heap.size + 1 < w1.heap.size := by omega); clear hb1))
  all_goals go_wp2_with fail
  all_goals exact bodyPost_ret (v := .agg #[.bool (p.f0 != 0), .int .i64 p.f0, .bool (p.f1 != -1), .int .i64 p.f1]) (by simp [results, Tryd.results39, go_sem, *]) rfl ⟨rfl, by repeat (first | with_reducible exact Below.refl _ _ | (with_reducible refine below_step ?_ (by assumption) (by first | omega | (simp; done) | (simp <;> omega))) | (with_reducible refine Below.alloc ?_ (by first | omega | (simp; done) | (simp <;> omega)) _) | (with_reducible refine Below.setCell ?_ (by first | omega | (simp; done) | (simp <;> omega)) _) | (with_reducible refine Below.drew ?_) | (with_reducible refine below_dN ?_ _) | (refine Below.alloc ?_ (by first | omega | (simp; done) | (simp <;> omega)) _))⟩

end Go.Proofs.YtkakdfphhnchhaaDoor
