/- Sites and patterns: the tests of chapter 9, of the program and of the model. -/
import Derived.Test.YtfceddgacefejaaTPattern
import Derived.Test.YtfceddgacefejaaTSite
import Derived.Test.YtfceddgacefejaaIn
import Derived.Deep.RegionHeld3
namespace Go.Proofs.Ytfceddgacefejaa
open Go Go.ChangeShapes Go.WideShapes Go.ChangeAt Go.RowKit Go.Lib
set_option linter.unusedVariables false
set_option linter.unusedSimpArgs false
set_option maxRecDepth 100000
abbrev vPat (p : TPattern) : Value := .agg #[.int .i64 p.f0, .int .i64 p.f1]
abbrev vSite (p : TSite) : Value := .agg #[.int .i64 p.f0, .int .i64 p.f1]
def mIsSite (s : TSite) : Bool := inR s.f0 1 9 && inR s.f1 0 9
def mIsPattern (s : TPattern) : Bool := inR s.f0 0 9 && inR s.f1 (-1) 9
/-- Whether k, or the sign for all numbers, meets n. -/
def mTakes (all k n : Int) : Bool := k == all || k == n
def mMatchSite (p : TPattern) (s : TSite) : Bool := mIsPattern p && mIsSite s && mTakes 0 p.f0 s.f0 && mTakes (-1) p.f1 s.f1
def mIsNarrower (p q : TPattern) : Bool := mIsPattern p && mIsPattern q && (q.f0 == 0 || p.f0 == q.f0) && (q.f1 == -1 || p.f1 == q.f1)

set_option maxHeartbeats 2000000 in
theorem spec_IsSite (s : TSite) (w : World) :
  Calls Try.prog 160 #[.agg #[.int .i64 s.f0, .int .i64 s.f1]] w (Says (.bool (mIsSite s)) w) := by
 by_cases h0 : (inR s.f0 1 9) = true
 ·
  by_cases h1 : (inR s.f1 0 9) = true
  ·
   have HE := Lib.hid (show mIsSite s = true by simp [mIsSite, h0, h1])
   go_enter Try.func160, Try.ntmps160
   go_wp2_with (first | (go_at_call 161; refine (spec_in _ _ _ _).mono ?_; rintro e w1 ⟨rfl, rfl⟩))
   go_ret
   exact ⟨by rw [HE.out]; rfl, by repeat (first | exact Below.refl _ _ | (refine Below.alloc ?_ (by first | omega | (simp <;> omega)) _) | (refine below_dN ?_ _))⟩
  ·
   have h1 : (inR s.f1 0 9) = false := by simpa using h1
   have HE := Lib.hid (show mIsSite s = false by simp [mIsSite, h0, h1])
   go_enter Try.func160, Try.ntmps160
   go_wp2_with (first | (go_at_call 161; refine (spec_in _ _ _ _).mono ?_; rintro e w1 ⟨rfl, rfl⟩))
   go_ret
   exact ⟨by rw [HE.out]; rfl, by repeat (first | exact Below.refl _ _ | (refine Below.alloc ?_ (by first | omega | (simp <;> omega)) _) | (refine below_dN ?_ _))⟩
 ·
  have h0 : (inR s.f0 1 9) = false := by simpa using h0
  have HE := Lib.hid (show mIsSite s = false by simp [mIsSite, h0])
  go_enter Try.func160, Try.ntmps160
  go_wp2_with (first | (go_at_call 161; refine (spec_in _ _ _ _).mono ?_; rintro e w1 ⟨rfl, rfl⟩))
  go_ret
  exact ⟨by rw [HE.out]; rfl, by repeat (first | exact Below.refl _ _ | (refine Below.alloc ?_ (by first | omega | (simp <;> omega)) _) | (refine below_dN ?_ _))⟩

set_option maxHeartbeats 2000000 in
theorem impl_IsSite (s : TSite) (w : World) :
  Calls Try.prog 119 #[.agg #[.int .i64 s.f0, .int .i64 s.f1]] w (Says (.bool (mIsSite s)) w) := by
 by_cases h0 : (inR s.f0 1 9) = true
 ·
  by_cases h1 : (inR s.f1 0 9) = true
  ·
   have HE := Lib.hid (show mIsSite s = true by simp [mIsSite, h0, h1])
   go_enter Try.func119, Try.ntmps119
   go_wp2_with (first | (go_at_call 116; refine (impl_in _ _ _ _).mono ?_; rintro e w1 ⟨rfl, rfl⟩))
   go_ret
   exact ⟨by rw [HE.out]; rfl, by repeat (first | exact Below.refl _ _ | (refine Below.alloc ?_ (by first | omega | (simp <;> omega)) _) | (refine below_dN ?_ _))⟩
  ·
   have h1 : (inR s.f1 0 9) = false := by simpa using h1
   have HE := Lib.hid (show mIsSite s = false by simp [mIsSite, h0, h1])
   go_enter Try.func119, Try.ntmps119
   go_wp2_with (first | (go_at_call 116; refine (impl_in _ _ _ _).mono ?_; rintro e w1 ⟨rfl, rfl⟩))
   go_ret
   exact ⟨by rw [HE.out]; rfl, by repeat (first | exact Below.refl _ _ | (refine Below.alloc ?_ (by first | omega | (simp <;> omega)) _) | (refine below_dN ?_ _))⟩
 ·
  have h0 : (inR s.f0 1 9) = false := by simpa using h0
  have HE := Lib.hid (show mIsSite s = false by simp [mIsSite, h0])
  go_enter Try.func119, Try.ntmps119
  go_wp2_with (first | (go_at_call 116; refine (impl_in _ _ _ _).mono ?_; rintro e w1 ⟨rfl, rfl⟩))
  go_ret
  exact ⟨by rw [HE.out]; rfl, by repeat (first | exact Below.refl _ _ | (refine Below.alloc ?_ (by first | omega | (simp <;> omega)) _) | (refine below_dN ?_ _))⟩

set_option maxHeartbeats 2000000 in
theorem spec_IsPattern (s : TPattern) (w : World) :
  Calls Try.prog 225 #[.agg #[.int .i64 s.f0, .int .i64 s.f1]] w (Says (.bool (mIsPattern s)) w) := by
 by_cases h0 : (inR s.f0 0 9) = true
 ·
  by_cases h1 : (inR s.f1 (-1) 9) = true
  ·
   have HE := Lib.hid (show mIsPattern s = true by simp [mIsPattern, h0, h1])
   go_enter Try.func225, Try.ntmps225
   go_wp2_with (first | (go_at_call 161; refine (spec_in _ _ _ _).mono ?_; rintro e w1 ⟨rfl, rfl⟩))
   go_ret
   exact ⟨by rw [HE.out]; rfl, by repeat (first | exact Below.refl _ _ | (refine Below.alloc ?_ (by first | omega | (simp <;> omega)) _) | (refine below_dN ?_ _))⟩
  ·
   have h1 : (inR s.f1 (-1) 9) = false := by simpa using h1
   have HE := Lib.hid (show mIsPattern s = false by simp [mIsPattern, h0, h1])
   go_enter Try.func225, Try.ntmps225
   go_wp2_with (first | (go_at_call 161; refine (spec_in _ _ _ _).mono ?_; rintro e w1 ⟨rfl, rfl⟩))
   go_ret
   exact ⟨by rw [HE.out]; rfl, by repeat (first | exact Below.refl _ _ | (refine Below.alloc ?_ (by first | omega | (simp <;> omega)) _) | (refine below_dN ?_ _))⟩
 ·
  have h0 : (inR s.f0 0 9) = false := by simpa using h0
  have HE := Lib.hid (show mIsPattern s = false by simp [mIsPattern, h0])
  go_enter Try.func225, Try.ntmps225
  go_wp2_with (first | (go_at_call 161; refine (spec_in _ _ _ _).mono ?_; rintro e w1 ⟨rfl, rfl⟩))
  go_ret
  exact ⟨by rw [HE.out]; rfl, by repeat (first | exact Below.refl _ _ | (refine Below.alloc ?_ (by first | omega | (simp <;> omega)) _) | (refine below_dN ?_ _))⟩

set_option maxHeartbeats 2000000 in
theorem impl_IsPattern (s : TPattern) (w : World) :
  Calls Try.prog 118 #[.agg #[.int .i64 s.f0, .int .i64 s.f1]] w (Says (.bool (mIsPattern s)) w) := by
 by_cases h0 : (inR s.f0 0 9) = true
 ·
  by_cases h1 : (inR s.f1 (-1) 9) = true
  ·
   have HE := Lib.hid (show mIsPattern s = true by simp [mIsPattern, h0, h1])
   go_enter Try.func118, Try.ntmps118
   go_wp2_with (first | (go_at_call 116; refine (impl_in _ _ _ _).mono ?_; rintro e w1 ⟨rfl, rfl⟩))
   go_ret
   exact ⟨by rw [HE.out]; rfl, by repeat (first | exact Below.refl _ _ | (refine Below.alloc ?_ (by first | omega | (simp <;> omega)) _) | (refine below_dN ?_ _))⟩
  ·
   have h1 : (inR s.f1 (-1) 9) = false := by simpa using h1
   have HE := Lib.hid (show mIsPattern s = false by simp [mIsPattern, h0, h1])
   go_enter Try.func118, Try.ntmps118
   go_wp2_with (first | (go_at_call 116; refine (impl_in _ _ _ _).mono ?_; rintro e w1 ⟨rfl, rfl⟩))
   go_ret
   exact ⟨by rw [HE.out]; rfl, by repeat (first | exact Below.refl _ _ | (refine Below.alloc ?_ (by first | omega | (simp <;> omega)) _) | (refine below_dN ?_ _))⟩
 ·
  have h0 : (inR s.f0 0 9) = false := by simpa using h0
  have HE := Lib.hid (show mIsPattern s = false by simp [mIsPattern, h0])
  go_enter Try.func118, Try.ntmps118
  go_wp2_with (first | (go_at_call 116; refine (impl_in _ _ _ _).mono ?_; rintro e w1 ⟨rfl, rfl⟩))
  go_ret
  exact ⟨by rw [HE.out]; rfl, by repeat (first | exact Below.refl _ _ | (refine Below.alloc ?_ (by first | omega | (simp <;> omega)) _) | (refine below_dN ?_ _))⟩

theorem impl_optionOf (n all : Int) (w : World) : Calls Try.prog 105 #[.int .i64 n, .int .i64 all] w (Says (.agg #[.bool (n != all), .int .i64 n]) w) := by
 go_enter Try.func105, Try.ntmps105
 go_wp2
 exact bodyPost_ret (v := .agg #[.bool (n != all), .int .i64 n]) (by simp [results, Try.results105, go_sem]) rfl ⟨rfl, by repeat (first | with_reducible exact Below.refl _ _ | (with_reducible refine below_step ?_ (by assumption) (by first | omega | (simp <;> omega))) | (with_reducible refine Below.alloc ?_ (by first | omega | (simp <;> omega)) _) | (with_reducible refine Below.setCell ?_ (by first | omega | (simp <;> omega)) _) | (with_reducible refine Below.drew ?_) | (with_reducible refine below_dN ?_ _) | (refine Below.alloc ?_ (by first | omega | (simp <;> omega)) _))⟩
theorem impl_scopeOf (p : TPattern) (w : World) : Calls Try.prog 117 #[vPat p] w (Says (.agg #[.bool (p.f0 != 0), .int .i64 p.f0, .bool (p.f1 != -1), .int .i64 p.f1]) w) := by
 go_enter Try.func117, Try.ntmps117
 go_wp2_with fail
 go_region_held3 (fun w' => w'.cell? ⟨w.heap.size, 0, none⟩ = some (.int .i64 p.f0) ∧ w'.cell? ⟨w.heap.size, 1, none⟩ = some (.int .i64 p.f1))
  (first | exact ⟨cell_nw HB1.out (by first | assumption | simp), cell_nw HB1.out (by first | assumption | simp)⟩ | (constructor <;> (repeat (refine cell_past (by simp) ?_)) <;> first | exact And.left (by assumption) | exact And.right (by assumption)) | go_keep)
  (first | (go_at_call 105; refine (impl_optionOf _ _ _).mono ?_; rintro e w1 ⟨rfl, hb1⟩; obtain ⟨hc1, hf1⟩ := bcell hb1; have HB1 := Lib.hid hb1; have hs1 := hb1.size; (try simp at hs1); (have hz0 : w.heap.size < w1.heap.size := by omega); (have hz1 : w.heap.size + 1 < w1.heap.size := by omega); clear hb1))
 all_goals go_wp2_with fail
 all_goals exact bodyPost_ret (v := .agg #[.bool (p.f0 != 0), .int .i64 p.f0, .bool (p.f1 != -1), .int .i64 p.f1]) (by simp [results, Try.results117, go_sem, *]) rfl ⟨rfl, by repeat (first | with_reducible exact Below.refl _ _ | (with_reducible refine below_step ?_ (by assumption) (by first | omega | (simp <;> omega))) | (with_reducible refine Below.alloc ?_ (by first | omega | (simp <;> omega)) _) | (with_reducible refine Below.setCell ?_ (by first | omega | (simp <;> omega)) _) | (with_reducible refine Below.drew ?_) | (with_reducible refine below_dN ?_ _) | (refine Below.alloc ?_ (by first | omega | (simp <;> omega)) _))⟩

set_option maxHeartbeats 2000000 in
theorem impl_takes (all k n : Int) (w : World) :
  Calls Try.prog 106 #[.agg #[.bool (k != all), .int .i64 k], .int .i64 n] w (Says (.bool (mTakes all k n)) w) := by
 by_cases h0 : (k == all) = true
 ·
  have HE := Lib.hid (show mTakes all k n = true by (simp [mTakes] at *; omega))
  have HB := Lib.hid (show (k != all) = (!(k == all)) by simp [bne, h0])
  rw [HB.out]
  rw [h0]
  simp only [Bool.not_true, Bool.not_false]
  go_enter Try.func106, Try.ntmps106
  go_wp2_with fail
  go_ret
  exact ⟨by rw [HE.out]; rfl, by repeat (first | with_reducible exact Below.refl _ _ | (with_reducible refine below_step ?_ (by assumption) (by first | omega | (simp <;> omega))) | (with_reducible refine Below.alloc ?_ (by first | omega | (simp <;> omega)) _) | (with_reducible refine Below.setCell ?_ (by first | omega | (simp <;> omega)) _) | (with_reducible refine Below.drew ?_) | (with_reducible refine below_dN ?_ _) | (refine Below.alloc ?_ (by first | omega | (simp <;> omega)) _))⟩
 ·
  have h0 : (k == all) = false := by simpa using h0
  by_cases h1 : (n == k) = true
  ·
   have HE := Lib.hid (show mTakes all k n = true by (simp [mTakes] at *; omega))
   have HB := Lib.hid (show (k != all) = (!(k == all)) by simp [bne, h0])
   rw [HB.out]
   rw [h0]
   simp only [Bool.not_true, Bool.not_false]
   go_enter Try.func106, Try.ntmps106
   go_wp2_with fail
   go_ret
   exact ⟨by rw [HE.out]; rfl, by repeat (first | with_reducible exact Below.refl _ _ | (with_reducible refine below_step ?_ (by assumption) (by first | omega | (simp <;> omega))) | (with_reducible refine Below.alloc ?_ (by first | omega | (simp <;> omega)) _) | (with_reducible refine Below.setCell ?_ (by first | omega | (simp <;> omega)) _) | (with_reducible refine Below.drew ?_) | (with_reducible refine below_dN ?_ _) | (refine Below.alloc ?_ (by first | omega | (simp <;> omega)) _))⟩
  ·
   have h1 : (n == k) = false := by simpa using h1
   have HE := Lib.hid (show mTakes all k n = false by (simp [mTakes] at *; omega))
   have HB := Lib.hid (show (k != all) = (!(k == all)) by simp [bne, h0])
   rw [HB.out]
   rw [h0]
   simp only [Bool.not_true, Bool.not_false]
   go_enter Try.func106, Try.ntmps106
   go_wp2_with fail
   go_ret
   exact ⟨by rw [HE.out]; rfl, by repeat (first | with_reducible exact Below.refl _ _ | (with_reducible refine below_step ?_ (by assumption) (by first | omega | (simp <;> omega))) | (with_reducible refine Below.alloc ?_ (by first | omega | (simp <;> omega)) _) | (with_reducible refine Below.setCell ?_ (by first | omega | (simp <;> omega)) _) | (with_reducible refine Below.drew ?_) | (with_reducible refine below_dN ?_ _) | (refine Below.alloc ?_ (by first | omega | (simp <;> omega)) _))⟩

set_option maxHeartbeats 2000000 in
theorem spec_MatchSite (p : TPattern) (s : TSite) (w : World) :
  Calls Try.prog 204 #[vPat p, vSite s] w (Says (.bool (mMatchSite p s)) w) := by
 by_cases h0 : (mIsPattern p) = true
 ·
  by_cases h1 : (mIsSite s) = true
  ·
   by_cases h2 : (p.f0 == 0) = true
   ·
    by_cases h3 : (p.f1 == -1) = true
    ·
     have HE := Lib.hid (show mMatchSite p s = true by simp [mMatchSite, mTakes, h0, h1, h2, h3])
     go_enter Try.func204, Try.ntmps204
     go_wp2_with (first | (go_at_call 225; refine (spec_IsPattern _ _).mono ?_; rintro e w1 ⟨rfl, hb1⟩; obtain ⟨hc1, hf1⟩ := bcell hb1; have HB1 := Lib.hid hb1; have hs1 := hb1.size; (try simp at hs1); (have hz0 : w.heap.size < w1.heap.size := by omega); (have hz1 : w.heap.size + 1 < w1.heap.size := by omega); clear hb1) | (go_at_call 160; refine (spec_IsSite _ _).mono ?_; rintro e w1 ⟨rfl, hb1⟩; obtain ⟨hc1, hf1⟩ := bcell hb1; have HB1 := Lib.hid hb1; have hs1 := hb1.size; (try simp at hs1); (have hz0 : w.heap.size < w1.heap.size := by omega); (have hz1 : w.heap.size + 1 < w1.heap.size := by omega); clear hb1))
     go_ret
     exact ⟨by rw [HE.out]; rfl, by repeat (first | with_reducible exact Below.refl _ _ | (with_reducible refine below_step ?_ (by assumption) (by first | omega | (simp <;> omega))) | (with_reducible refine Below.alloc ?_ (by first | omega | (simp <;> omega)) _) | (with_reducible refine Below.setCell ?_ (by first | omega | (simp <;> omega)) _) | (with_reducible refine Below.drew ?_) | (with_reducible refine below_dN ?_ _) | (refine Below.alloc ?_ (by first | omega | (simp <;> omega)) _))⟩
    ·
     have h3 : (p.f1 == -1) = false := by simpa using h3
     by_cases h4 : (p.f1 == s.f1) = true
     ·
      have HE := Lib.hid (show mMatchSite p s = true by simp [mMatchSite, mTakes, h0, h1, h2, h3, h4])
      go_enter Try.func204, Try.ntmps204
      go_wp2_with (first | (go_at_call 225; refine (spec_IsPattern _ _).mono ?_; rintro e w1 ⟨rfl, hb1⟩; obtain ⟨hc1, hf1⟩ := bcell hb1; have HB1 := Lib.hid hb1; have hs1 := hb1.size; (try simp at hs1); (have hz0 : w.heap.size < w1.heap.size := by omega); (have hz1 : w.heap.size + 1 < w1.heap.size := by omega); clear hb1) | (go_at_call 160; refine (spec_IsSite _ _).mono ?_; rintro e w1 ⟨rfl, hb1⟩; obtain ⟨hc1, hf1⟩ := bcell hb1; have HB1 := Lib.hid hb1; have hs1 := hb1.size; (try simp at hs1); (have hz0 : w.heap.size < w1.heap.size := by omega); (have hz1 : w.heap.size + 1 < w1.heap.size := by omega); clear hb1))
      go_ret
      exact ⟨by rw [HE.out]; rfl, by repeat (first | with_reducible exact Below.refl _ _ | (with_reducible refine below_step ?_ (by assumption) (by first | omega | (simp <;> omega))) | (with_reducible refine Below.alloc ?_ (by first | omega | (simp <;> omega)) _) | (with_reducible refine Below.setCell ?_ (by first | omega | (simp <;> omega)) _) | (with_reducible refine Below.drew ?_) | (with_reducible refine below_dN ?_ _) | (refine Below.alloc ?_ (by first | omega | (simp <;> omega)) _))⟩
     ·
      have h4 : (p.f1 == s.f1) = false := by simpa using h4
      have HE := Lib.hid (show mMatchSite p s = false by simp [mMatchSite, mTakes, h0, h1, h2, h3, h4])
      go_enter Try.func204, Try.ntmps204
      go_wp2_with (first | (go_at_call 225; refine (spec_IsPattern _ _).mono ?_; rintro e w1 ⟨rfl, hb1⟩; obtain ⟨hc1, hf1⟩ := bcell hb1; have HB1 := Lib.hid hb1; have hs1 := hb1.size; (try simp at hs1); (have hz0 : w.heap.size < w1.heap.size := by omega); (have hz1 : w.heap.size + 1 < w1.heap.size := by omega); clear hb1) | (go_at_call 160; refine (spec_IsSite _ _).mono ?_; rintro e w1 ⟨rfl, hb1⟩; obtain ⟨hc1, hf1⟩ := bcell hb1; have HB1 := Lib.hid hb1; have hs1 := hb1.size; (try simp at hs1); (have hz0 : w.heap.size < w1.heap.size := by omega); (have hz1 : w.heap.size + 1 < w1.heap.size := by omega); clear hb1))
      go_ret
      exact ⟨by rw [HE.out]; rfl, by repeat (first | with_reducible exact Below.refl _ _ | (with_reducible refine below_step ?_ (by assumption) (by first | omega | (simp <;> omega))) | (with_reducible refine Below.alloc ?_ (by first | omega | (simp <;> omega)) _) | (with_reducible refine Below.setCell ?_ (by first | omega | (simp <;> omega)) _) | (with_reducible refine Below.drew ?_) | (with_reducible refine below_dN ?_ _) | (refine Below.alloc ?_ (by first | omega | (simp <;> omega)) _))⟩
   ·
    have h2 : (p.f0 == 0) = false := by simpa using h2
    by_cases h5 : (p.f0 == s.f0) = true
    ·
     by_cases h6 : (p.f1 == -1) = true
     ·
      have HE := Lib.hid (show mMatchSite p s = true by simp [mMatchSite, mTakes, h0, h1, h2, h5, h6])
      go_enter Try.func204, Try.ntmps204
      go_wp2_with (first | (go_at_call 225; refine (spec_IsPattern _ _).mono ?_; rintro e w1 ⟨rfl, hb1⟩; obtain ⟨hc1, hf1⟩ := bcell hb1; have HB1 := Lib.hid hb1; have hs1 := hb1.size; (try simp at hs1); (have hz0 : w.heap.size < w1.heap.size := by omega); (have hz1 : w.heap.size + 1 < w1.heap.size := by omega); clear hb1) | (go_at_call 160; refine (spec_IsSite _ _).mono ?_; rintro e w1 ⟨rfl, hb1⟩; obtain ⟨hc1, hf1⟩ := bcell hb1; have HB1 := Lib.hid hb1; have hs1 := hb1.size; (try simp at hs1); (have hz0 : w.heap.size < w1.heap.size := by omega); (have hz1 : w.heap.size + 1 < w1.heap.size := by omega); clear hb1))
      go_ret
      exact ⟨by rw [HE.out]; rfl, by repeat (first | with_reducible exact Below.refl _ _ | (with_reducible refine below_step ?_ (by assumption) (by first | omega | (simp <;> omega))) | (with_reducible refine Below.alloc ?_ (by first | omega | (simp <;> omega)) _) | (with_reducible refine Below.setCell ?_ (by first | omega | (simp <;> omega)) _) | (with_reducible refine Below.drew ?_) | (with_reducible refine below_dN ?_ _) | (refine Below.alloc ?_ (by first | omega | (simp <;> omega)) _))⟩
     ·
      have h6 : (p.f1 == -1) = false := by simpa using h6
      by_cases h7 : (p.f1 == s.f1) = true
      ·
       have HE := Lib.hid (show mMatchSite p s = true by simp [mMatchSite, mTakes, h0, h1, h2, h5, h6, h7])
       go_enter Try.func204, Try.ntmps204
       go_wp2_with (first | (go_at_call 225; refine (spec_IsPattern _ _).mono ?_; rintro e w1 ⟨rfl, hb1⟩; obtain ⟨hc1, hf1⟩ := bcell hb1; have HB1 := Lib.hid hb1; have hs1 := hb1.size; (try simp at hs1); (have hz0 : w.heap.size < w1.heap.size := by omega); (have hz1 : w.heap.size + 1 < w1.heap.size := by omega); clear hb1) | (go_at_call 160; refine (spec_IsSite _ _).mono ?_; rintro e w1 ⟨rfl, hb1⟩; obtain ⟨hc1, hf1⟩ := bcell hb1; have HB1 := Lib.hid hb1; have hs1 := hb1.size; (try simp at hs1); (have hz0 : w.heap.size < w1.heap.size := by omega); (have hz1 : w.heap.size + 1 < w1.heap.size := by omega); clear hb1))
       go_ret
       exact ⟨by rw [HE.out]; rfl, by repeat (first | with_reducible exact Below.refl _ _ | (with_reducible refine below_step ?_ (by assumption) (by first | omega | (simp <;> omega))) | (with_reducible refine Below.alloc ?_ (by first | omega | (simp <;> omega)) _) | (with_reducible refine Below.setCell ?_ (by first | omega | (simp <;> omega)) _) | (with_reducible refine Below.drew ?_) | (with_reducible refine below_dN ?_ _) | (refine Below.alloc ?_ (by first | omega | (simp <;> omega)) _))⟩
      ·
       have h7 : (p.f1 == s.f1) = false := by simpa using h7
       have HE := Lib.hid (show mMatchSite p s = false by simp [mMatchSite, mTakes, h0, h1, h2, h5, h6, h7])
       go_enter Try.func204, Try.ntmps204
       go_wp2_with (first | (go_at_call 225; refine (spec_IsPattern _ _).mono ?_; rintro e w1 ⟨rfl, hb1⟩; obtain ⟨hc1, hf1⟩ := bcell hb1; have HB1 := Lib.hid hb1; have hs1 := hb1.size; (try simp at hs1); (have hz0 : w.heap.size < w1.heap.size := by omega); (have hz1 : w.heap.size + 1 < w1.heap.size := by omega); clear hb1) | (go_at_call 160; refine (spec_IsSite _ _).mono ?_; rintro e w1 ⟨rfl, hb1⟩; obtain ⟨hc1, hf1⟩ := bcell hb1; have HB1 := Lib.hid hb1; have hs1 := hb1.size; (try simp at hs1); (have hz0 : w.heap.size < w1.heap.size := by omega); (have hz1 : w.heap.size + 1 < w1.heap.size := by omega); clear hb1))
       go_ret
       exact ⟨by rw [HE.out]; rfl, by repeat (first | with_reducible exact Below.refl _ _ | (with_reducible refine below_step ?_ (by assumption) (by first | omega | (simp <;> omega))) | (with_reducible refine Below.alloc ?_ (by first | omega | (simp <;> omega)) _) | (with_reducible refine Below.setCell ?_ (by first | omega | (simp <;> omega)) _) | (with_reducible refine Below.drew ?_) | (with_reducible refine below_dN ?_ _) | (refine Below.alloc ?_ (by first | omega | (simp <;> omega)) _))⟩
    ·
     have h5 : (p.f0 == s.f0) = false := by simpa using h5
     have HE := Lib.hid (show mMatchSite p s = false by simp [mMatchSite, mTakes, h0, h1, h2, h5])
     go_enter Try.func204, Try.ntmps204
     go_wp2_with (first | (go_at_call 225; refine (spec_IsPattern _ _).mono ?_; rintro e w1 ⟨rfl, hb1⟩; obtain ⟨hc1, hf1⟩ := bcell hb1; have HB1 := Lib.hid hb1; have hs1 := hb1.size; (try simp at hs1); (have hz0 : w.heap.size < w1.heap.size := by omega); (have hz1 : w.heap.size + 1 < w1.heap.size := by omega); clear hb1) | (go_at_call 160; refine (spec_IsSite _ _).mono ?_; rintro e w1 ⟨rfl, hb1⟩; obtain ⟨hc1, hf1⟩ := bcell hb1; have HB1 := Lib.hid hb1; have hs1 := hb1.size; (try simp at hs1); (have hz0 : w.heap.size < w1.heap.size := by omega); (have hz1 : w.heap.size + 1 < w1.heap.size := by omega); clear hb1))
     go_ret
     exact ⟨by rw [HE.out]; rfl, by repeat (first | with_reducible exact Below.refl _ _ | (with_reducible refine below_step ?_ (by assumption) (by first | omega | (simp <;> omega))) | (with_reducible refine Below.alloc ?_ (by first | omega | (simp <;> omega)) _) | (with_reducible refine Below.setCell ?_ (by first | omega | (simp <;> omega)) _) | (with_reducible refine Below.drew ?_) | (with_reducible refine below_dN ?_ _) | (refine Below.alloc ?_ (by first | omega | (simp <;> omega)) _))⟩
  ·
   have h1 : (mIsSite s) = false := by simpa using h1
   have HE := Lib.hid (show mMatchSite p s = false by simp [mMatchSite, mTakes, h0, h1])
   go_enter Try.func204, Try.ntmps204
   go_wp2_with (first | (go_at_call 225; refine (spec_IsPattern _ _).mono ?_; rintro e w1 ⟨rfl, hb1⟩; obtain ⟨hc1, hf1⟩ := bcell hb1; have HB1 := Lib.hid hb1; have hs1 := hb1.size; (try simp at hs1); (have hz0 : w.heap.size < w1.heap.size := by omega); (have hz1 : w.heap.size + 1 < w1.heap.size := by omega); clear hb1) | (go_at_call 160; refine (spec_IsSite _ _).mono ?_; rintro e w1 ⟨rfl, hb1⟩; obtain ⟨hc1, hf1⟩ := bcell hb1; have HB1 := Lib.hid hb1; have hs1 := hb1.size; (try simp at hs1); (have hz0 : w.heap.size < w1.heap.size := by omega); (have hz1 : w.heap.size + 1 < w1.heap.size := by omega); clear hb1))
   go_ret
   exact ⟨by rw [HE.out]; rfl, by repeat (first | with_reducible exact Below.refl _ _ | (with_reducible refine below_step ?_ (by assumption) (by first | omega | (simp <;> omega))) | (with_reducible refine Below.alloc ?_ (by first | omega | (simp <;> omega)) _) | (with_reducible refine Below.setCell ?_ (by first | omega | (simp <;> omega)) _) | (with_reducible refine Below.drew ?_) | (with_reducible refine below_dN ?_ _) | (refine Below.alloc ?_ (by first | omega | (simp <;> omega)) _))⟩
 ·
  have h0 : (mIsPattern p) = false := by simpa using h0
  have HE := Lib.hid (show mMatchSite p s = false by simp [mMatchSite, mTakes, h0])
  go_enter Try.func204, Try.ntmps204
  go_wp2_with (first | (go_at_call 225; refine (spec_IsPattern _ _).mono ?_; rintro e w1 ⟨rfl, hb1⟩; obtain ⟨hc1, hf1⟩ := bcell hb1; have HB1 := Lib.hid hb1; have hs1 := hb1.size; (try simp at hs1); (have hz0 : w.heap.size < w1.heap.size := by omega); (have hz1 : w.heap.size + 1 < w1.heap.size := by omega); clear hb1) | (go_at_call 160; refine (spec_IsSite _ _).mono ?_; rintro e w1 ⟨rfl, hb1⟩; obtain ⟨hc1, hf1⟩ := bcell hb1; have HB1 := Lib.hid hb1; have hs1 := hb1.size; (try simp at hs1); (have hz0 : w.heap.size < w1.heap.size := by omega); (have hz1 : w.heap.size + 1 < w1.heap.size := by omega); clear hb1))
  go_ret
  exact ⟨by rw [HE.out]; rfl, by repeat (first | with_reducible exact Below.refl _ _ | (with_reducible refine below_step ?_ (by assumption) (by first | omega | (simp <;> omega))) | (with_reducible refine Below.alloc ?_ (by first | omega | (simp <;> omega)) _) | (with_reducible refine Below.setCell ?_ (by first | omega | (simp <;> omega)) _) | (with_reducible refine Below.drew ?_) | (with_reducible refine below_dN ?_ _) | (refine Below.alloc ?_ (by first | omega | (simp <;> omega)) _))⟩

set_option maxHeartbeats 2000000 in
theorem spec_IsNarrower (p q : TPattern) (w : World) :
  Calls Try.prog 248 #[vPat p, vPat q] w (Says (.bool (mIsNarrower p q)) w) := by
 by_cases h0 : (mIsPattern p) = true
 ·
  by_cases h1 : (mIsPattern q) = true
  ·
   by_cases h2 : (q.f0 == 0) = true
   ·
    by_cases h3 : (q.f1 == -1) = true
    ·
     have HE := Lib.hid (show mIsNarrower p q = true by simp [mIsNarrower, h0, h1, h2, h3])
     go_enter Try.func248, Try.ntmps248
     go_wp2_with (first | (go_at_call 225; refine (spec_IsPattern _ _).mono ?_; rintro e w1 ⟨rfl, hb1⟩; obtain ⟨hc1, hf1⟩ := bcell hb1; have HB1 := Lib.hid hb1; have hs1 := hb1.size; (try simp at hs1); (have hz0 : w.heap.size < w1.heap.size := by omega); (have hz1 : w.heap.size + 1 < w1.heap.size := by omega); clear hb1))
     go_ret
     exact ⟨by rw [HE.out]; rfl, by repeat (first | with_reducible exact Below.refl _ _ | (with_reducible refine below_step ?_ (by assumption) (by first | omega | (simp <;> omega))) | (with_reducible refine Below.alloc ?_ (by first | omega | (simp <;> omega)) _) | (with_reducible refine Below.setCell ?_ (by first | omega | (simp <;> omega)) _) | (with_reducible refine Below.drew ?_) | (with_reducible refine below_dN ?_ _) | (refine Below.alloc ?_ (by first | omega | (simp <;> omega)) _))⟩
    ·
     have h3 : (q.f1 == -1) = false := by simpa using h3
     by_cases h4 : (p.f1 == q.f1) = true
     ·
      have HE := Lib.hid (show mIsNarrower p q = true by simp [mIsNarrower, h0, h1, h2, h3, h4])
      go_enter Try.func248, Try.ntmps248
      go_wp2_with (first | (go_at_call 225; refine (spec_IsPattern _ _).mono ?_; rintro e w1 ⟨rfl, hb1⟩; obtain ⟨hc1, hf1⟩ := bcell hb1; have HB1 := Lib.hid hb1; have hs1 := hb1.size; (try simp at hs1); (have hz0 : w.heap.size < w1.heap.size := by omega); (have hz1 : w.heap.size + 1 < w1.heap.size := by omega); clear hb1))
      go_ret
      exact ⟨by rw [HE.out]; rfl, by repeat (first | with_reducible exact Below.refl _ _ | (with_reducible refine below_step ?_ (by assumption) (by first | omega | (simp <;> omega))) | (with_reducible refine Below.alloc ?_ (by first | omega | (simp <;> omega)) _) | (with_reducible refine Below.setCell ?_ (by first | omega | (simp <;> omega)) _) | (with_reducible refine Below.drew ?_) | (with_reducible refine below_dN ?_ _) | (refine Below.alloc ?_ (by first | omega | (simp <;> omega)) _))⟩
     ·
      have h4 : (p.f1 == q.f1) = false := by simpa using h4
      have HE := Lib.hid (show mIsNarrower p q = false by simp [mIsNarrower, h0, h1, h2, h3, h4])
      go_enter Try.func248, Try.ntmps248
      go_wp2_with (first | (go_at_call 225; refine (spec_IsPattern _ _).mono ?_; rintro e w1 ⟨rfl, hb1⟩; obtain ⟨hc1, hf1⟩ := bcell hb1; have HB1 := Lib.hid hb1; have hs1 := hb1.size; (try simp at hs1); (have hz0 : w.heap.size < w1.heap.size := by omega); (have hz1 : w.heap.size + 1 < w1.heap.size := by omega); clear hb1))
      go_ret
      exact ⟨by rw [HE.out]; rfl, by repeat (first | with_reducible exact Below.refl _ _ | (with_reducible refine below_step ?_ (by assumption) (by first | omega | (simp <;> omega))) | (with_reducible refine Below.alloc ?_ (by first | omega | (simp <;> omega)) _) | (with_reducible refine Below.setCell ?_ (by first | omega | (simp <;> omega)) _) | (with_reducible refine Below.drew ?_) | (with_reducible refine below_dN ?_ _) | (refine Below.alloc ?_ (by first | omega | (simp <;> omega)) _))⟩
   ·
    have h2 : (q.f0 == 0) = false := by simpa using h2
    by_cases h5 : (p.f0 == q.f0) = true
    ·
     by_cases h6 : (q.f1 == -1) = true
     ·
      have HE := Lib.hid (show mIsNarrower p q = true by simp [mIsNarrower, h0, h1, h2, h5, h6])
      go_enter Try.func248, Try.ntmps248
      go_wp2_with (first | (go_at_call 225; refine (spec_IsPattern _ _).mono ?_; rintro e w1 ⟨rfl, hb1⟩; obtain ⟨hc1, hf1⟩ := bcell hb1; have HB1 := Lib.hid hb1; have hs1 := hb1.size; (try simp at hs1); (have hz0 : w.heap.size < w1.heap.size := by omega); (have hz1 : w.heap.size + 1 < w1.heap.size := by omega); clear hb1))
      go_ret
      exact ⟨by rw [HE.out]; rfl, by repeat (first | with_reducible exact Below.refl _ _ | (with_reducible refine below_step ?_ (by assumption) (by first | omega | (simp <;> omega))) | (with_reducible refine Below.alloc ?_ (by first | omega | (simp <;> omega)) _) | (with_reducible refine Below.setCell ?_ (by first | omega | (simp <;> omega)) _) | (with_reducible refine Below.drew ?_) | (with_reducible refine below_dN ?_ _) | (refine Below.alloc ?_ (by first | omega | (simp <;> omega)) _))⟩
     ·
      have h6 : (q.f1 == -1) = false := by simpa using h6
      by_cases h7 : (p.f1 == q.f1) = true
      ·
       have HE := Lib.hid (show mIsNarrower p q = true by simp [mIsNarrower, h0, h1, h2, h5, h6, h7])
       go_enter Try.func248, Try.ntmps248
       go_wp2_with (first | (go_at_call 225; refine (spec_IsPattern _ _).mono ?_; rintro e w1 ⟨rfl, hb1⟩; obtain ⟨hc1, hf1⟩ := bcell hb1; have HB1 := Lib.hid hb1; have hs1 := hb1.size; (try simp at hs1); (have hz0 : w.heap.size < w1.heap.size := by omega); (have hz1 : w.heap.size + 1 < w1.heap.size := by omega); clear hb1))
       go_ret
       exact ⟨by rw [HE.out]; rfl, by repeat (first | with_reducible exact Below.refl _ _ | (with_reducible refine below_step ?_ (by assumption) (by first | omega | (simp <;> omega))) | (with_reducible refine Below.alloc ?_ (by first | omega | (simp <;> omega)) _) | (with_reducible refine Below.setCell ?_ (by first | omega | (simp <;> omega)) _) | (with_reducible refine Below.drew ?_) | (with_reducible refine below_dN ?_ _) | (refine Below.alloc ?_ (by first | omega | (simp <;> omega)) _))⟩
      ·
       have h7 : (p.f1 == q.f1) = false := by simpa using h7
       have HE := Lib.hid (show mIsNarrower p q = false by simp [mIsNarrower, h0, h1, h2, h5, h6, h7])
       go_enter Try.func248, Try.ntmps248
       go_wp2_with (first | (go_at_call 225; refine (spec_IsPattern _ _).mono ?_; rintro e w1 ⟨rfl, hb1⟩; obtain ⟨hc1, hf1⟩ := bcell hb1; have HB1 := Lib.hid hb1; have hs1 := hb1.size; (try simp at hs1); (have hz0 : w.heap.size < w1.heap.size := by omega); (have hz1 : w.heap.size + 1 < w1.heap.size := by omega); clear hb1))
       go_ret
       exact ⟨by rw [HE.out]; rfl, by repeat (first | with_reducible exact Below.refl _ _ | (with_reducible refine below_step ?_ (by assumption) (by first | omega | (simp <;> omega))) | (with_reducible refine Below.alloc ?_ (by first | omega | (simp <;> omega)) _) | (with_reducible refine Below.setCell ?_ (by first | omega | (simp <;> omega)) _) | (with_reducible refine Below.drew ?_) | (with_reducible refine below_dN ?_ _) | (refine Below.alloc ?_ (by first | omega | (simp <;> omega)) _))⟩
    ·
     have h5 : (p.f0 == q.f0) = false := by simpa using h5
     have HE := Lib.hid (show mIsNarrower p q = false by simp [mIsNarrower, h0, h1, h2, h5])
     go_enter Try.func248, Try.ntmps248
     go_wp2_with (first | (go_at_call 225; refine (spec_IsPattern _ _).mono ?_; rintro e w1 ⟨rfl, hb1⟩; obtain ⟨hc1, hf1⟩ := bcell hb1; have HB1 := Lib.hid hb1; have hs1 := hb1.size; (try simp at hs1); (have hz0 : w.heap.size < w1.heap.size := by omega); (have hz1 : w.heap.size + 1 < w1.heap.size := by omega); clear hb1))
     go_ret
     exact ⟨by rw [HE.out]; rfl, by repeat (first | with_reducible exact Below.refl _ _ | (with_reducible refine below_step ?_ (by assumption) (by first | omega | (simp <;> omega))) | (with_reducible refine Below.alloc ?_ (by first | omega | (simp <;> omega)) _) | (with_reducible refine Below.setCell ?_ (by first | omega | (simp <;> omega)) _) | (with_reducible refine Below.drew ?_) | (with_reducible refine below_dN ?_ _) | (refine Below.alloc ?_ (by first | omega | (simp <;> omega)) _))⟩
  ·
   have h1 : (mIsPattern q) = false := by simpa using h1
   have HE := Lib.hid (show mIsNarrower p q = false by simp [mIsNarrower, h0, h1])
   go_enter Try.func248, Try.ntmps248
   go_wp2_with (first | (go_at_call 225; refine (spec_IsPattern _ _).mono ?_; rintro e w1 ⟨rfl, hb1⟩; obtain ⟨hc1, hf1⟩ := bcell hb1; have HB1 := Lib.hid hb1; have hs1 := hb1.size; (try simp at hs1); (have hz0 : w.heap.size < w1.heap.size := by omega); (have hz1 : w.heap.size + 1 < w1.heap.size := by omega); clear hb1))
   go_ret
   exact ⟨by rw [HE.out]; rfl, by repeat (first | with_reducible exact Below.refl _ _ | (with_reducible refine below_step ?_ (by assumption) (by first | omega | (simp <;> omega))) | (with_reducible refine Below.alloc ?_ (by first | omega | (simp <;> omega)) _) | (with_reducible refine Below.setCell ?_ (by first | omega | (simp <;> omega)) _) | (with_reducible refine Below.drew ?_) | (with_reducible refine below_dN ?_ _) | (refine Below.alloc ?_ (by first | omega | (simp <;> omega)) _))⟩
 ·
  have h0 : (mIsPattern p) = false := by simpa using h0
  have HE := Lib.hid (show mIsNarrower p q = false by simp [mIsNarrower, h0])
  go_enter Try.func248, Try.ntmps248
  go_wp2_with (first | (go_at_call 225; refine (spec_IsPattern _ _).mono ?_; rintro e w1 ⟨rfl, hb1⟩; obtain ⟨hc1, hf1⟩ := bcell hb1; have HB1 := Lib.hid hb1; have hs1 := hb1.size; (try simp at hs1); (have hz0 : w.heap.size < w1.heap.size := by omega); (have hz1 : w.heap.size + 1 < w1.heap.size := by omega); clear hb1))
  go_ret
  exact ⟨by rw [HE.out]; rfl, by repeat (first | with_reducible exact Below.refl _ _ | (with_reducible refine below_step ?_ (by assumption) (by first | omega | (simp <;> omega))) | (with_reducible refine Below.alloc ?_ (by first | omega | (simp <;> omega)) _) | (with_reducible refine Below.setCell ?_ (by first | omega | (simp <;> omega)) _) | (with_reducible refine Below.drew ?_) | (with_reducible refine below_dN ?_ _) | (refine Below.alloc ?_ (by first | omega | (simp <;> omega)) _))⟩

set_option maxHeartbeats 2000000 in
theorem impl_MatchSite (p : TPattern) (s : TSite) (w : World) :
  Calls Try.prog 25 #[vPat p, vSite s] w (Says (.bool (mMatchSite p s)) w) := by
 by_cases h0 : (mIsPattern p) = true
 ·
  by_cases h1 : (mIsSite s) = true
  ·
   by_cases h2 : (mTakes 0 p.f0 s.f0) = true
   ·
    by_cases h3 : (mTakes (-1) p.f1 s.f1) = true
    ·
     have HE := Lib.hid (show mMatchSite p s = true by simp [mMatchSite, h0, h1, h2, h3])
     go_enter Try.func25, Try.ntmps25
     go_wp2_with (first | (go_at_call 118; refine (impl_IsPattern _ _).mono ?_; rintro e w1 ⟨rfl, hb1⟩; obtain ⟨hc1, hf1⟩ := bcell hb1; have HB1 := Lib.hid hb1; have hs1 := hb1.size; (try simp at hs1); (have hz0 : w.heap.size < w1.heap.size := by omega); (have hz1 : w.heap.size + 1 < w1.heap.size := by omega); (try (have hywS : wS.heap.size < w1.heap.size := by omega)); clear hb1) | (go_at_call 119; refine (impl_IsSite _ _).mono ?_; rintro e w1 ⟨rfl, hb1⟩; obtain ⟨hc1, hf1⟩ := bcell hb1; have HB1 := Lib.hid hb1; have hs1 := hb1.size; (try simp at hs1); (have hz0 : w.heap.size < w1.heap.size := by omega); (have hz1 : w.heap.size + 1 < w1.heap.size := by omega); (try (have hywS : wS.heap.size < w1.heap.size := by omega)); clear hb1) | (go_at_call 117; refine (impl_scopeOf p _).mono ?_; rintro e wS ⟨rfl, hb1⟩; obtain ⟨hc1, hf1⟩ := bcell hb1; have HB1 := Lib.hid hb1; have hs1 := hb1.size; (try simp at hs1); (have hz0 : w.heap.size < wS.heap.size := by omega); (have hz1 : w.heap.size + 1 < wS.heap.size := by omega); clear hb1) | (go_at_call 106; refine (impl_takes _ _ _ _).mono ?_; rintro e w1 ⟨rfl, hb1⟩; obtain ⟨hc1, hf1⟩ := bcell hb1; have HB1 := Lib.hid hb1; have hs1 := hb1.size; (try simp at hs1); (have hz0 : w.heap.size < w1.heap.size := by omega); (have hz1 : w.heap.size + 1 < w1.heap.size := by omega); (try (have hywS : wS.heap.size < w1.heap.size := by omega)); clear hb1))
     go_ret
     exact ⟨by rw [HE.out]; rfl, by repeat (first | with_reducible exact Below.refl _ _ | (with_reducible refine below_step ?_ (by assumption) (by first | omega | (simp <;> omega))) | (with_reducible refine Below.alloc ?_ (by first | omega | (simp <;> omega)) _) | (with_reducible refine Below.setCell ?_ (by first | omega | (simp <;> omega)) _) | (with_reducible refine Below.drew ?_) | (with_reducible refine below_dN ?_ _) | (refine Below.alloc ?_ (by first | omega | (simp <;> omega)) _))⟩
    ·
     have h3 : (mTakes (-1) p.f1 s.f1) = false := by simpa using h3
     have HE := Lib.hid (show mMatchSite p s = false by simp [mMatchSite, h0, h1, h2, h3])
     go_enter Try.func25, Try.ntmps25
     go_wp2_with (first | (go_at_call 118; refine (impl_IsPattern _ _).mono ?_; rintro e w1 ⟨rfl, hb1⟩; obtain ⟨hc1, hf1⟩ := bcell hb1; have HB1 := Lib.hid hb1; have hs1 := hb1.size; (try simp at hs1); (have hz0 : w.heap.size < w1.heap.size := by omega); (have hz1 : w.heap.size + 1 < w1.heap.size := by omega); (try (have hywS : wS.heap.size < w1.heap.size := by omega)); clear hb1) | (go_at_call 119; refine (impl_IsSite _ _).mono ?_; rintro e w1 ⟨rfl, hb1⟩; obtain ⟨hc1, hf1⟩ := bcell hb1; have HB1 := Lib.hid hb1; have hs1 := hb1.size; (try simp at hs1); (have hz0 : w.heap.size < w1.heap.size := by omega); (have hz1 : w.heap.size + 1 < w1.heap.size := by omega); (try (have hywS : wS.heap.size < w1.heap.size := by omega)); clear hb1) | (go_at_call 117; refine (impl_scopeOf p _).mono ?_; rintro e wS ⟨rfl, hb1⟩; obtain ⟨hc1, hf1⟩ := bcell hb1; have HB1 := Lib.hid hb1; have hs1 := hb1.size; (try simp at hs1); (have hz0 : w.heap.size < wS.heap.size := by omega); (have hz1 : w.heap.size + 1 < wS.heap.size := by omega); clear hb1) | (go_at_call 106; refine (impl_takes _ _ _ _).mono ?_; rintro e w1 ⟨rfl, hb1⟩; obtain ⟨hc1, hf1⟩ := bcell hb1; have HB1 := Lib.hid hb1; have hs1 := hb1.size; (try simp at hs1); (have hz0 : w.heap.size < w1.heap.size := by omega); (have hz1 : w.heap.size + 1 < w1.heap.size := by omega); (try (have hywS : wS.heap.size < w1.heap.size := by omega)); clear hb1))
     go_ret
     exact ⟨by rw [HE.out]; rfl, by repeat (first | with_reducible exact Below.refl _ _ | (with_reducible refine below_step ?_ (by assumption) (by first | omega | (simp <;> omega))) | (with_reducible refine Below.alloc ?_ (by first | omega | (simp <;> omega)) _) | (with_reducible refine Below.setCell ?_ (by first | omega | (simp <;> omega)) _) | (with_reducible refine Below.drew ?_) | (with_reducible refine below_dN ?_ _) | (refine Below.alloc ?_ (by first | omega | (simp <;> omega)) _))⟩
   ·
    have h2 : (mTakes 0 p.f0 s.f0) = false := by simpa using h2
    have HE := Lib.hid (show mMatchSite p s = false by simp [mMatchSite, h0, h1, h2])
    go_enter Try.func25, Try.ntmps25
    go_wp2_with (first | (go_at_call 118; refine (impl_IsPattern _ _).mono ?_; rintro e w1 ⟨rfl, hb1⟩; obtain ⟨hc1, hf1⟩ := bcell hb1; have HB1 := Lib.hid hb1; have hs1 := hb1.size; (try simp at hs1); (have hz0 : w.heap.size < w1.heap.size := by omega); (have hz1 : w.heap.size + 1 < w1.heap.size := by omega); (try (have hywS : wS.heap.size < w1.heap.size := by omega)); clear hb1) | (go_at_call 119; refine (impl_IsSite _ _).mono ?_; rintro e w1 ⟨rfl, hb1⟩; obtain ⟨hc1, hf1⟩ := bcell hb1; have HB1 := Lib.hid hb1; have hs1 := hb1.size; (try simp at hs1); (have hz0 : w.heap.size < w1.heap.size := by omega); (have hz1 : w.heap.size + 1 < w1.heap.size := by omega); (try (have hywS : wS.heap.size < w1.heap.size := by omega)); clear hb1) | (go_at_call 117; refine (impl_scopeOf p _).mono ?_; rintro e wS ⟨rfl, hb1⟩; obtain ⟨hc1, hf1⟩ := bcell hb1; have HB1 := Lib.hid hb1; have hs1 := hb1.size; (try simp at hs1); (have hz0 : w.heap.size < wS.heap.size := by omega); (have hz1 : w.heap.size + 1 < wS.heap.size := by omega); clear hb1) | (go_at_call 106; refine (impl_takes _ _ _ _).mono ?_; rintro e w1 ⟨rfl, hb1⟩; obtain ⟨hc1, hf1⟩ := bcell hb1; have HB1 := Lib.hid hb1; have hs1 := hb1.size; (try simp at hs1); (have hz0 : w.heap.size < w1.heap.size := by omega); (have hz1 : w.heap.size + 1 < w1.heap.size := by omega); (try (have hywS : wS.heap.size < w1.heap.size := by omega)); clear hb1))
    go_ret
    exact ⟨by rw [HE.out]; rfl, by repeat (first | with_reducible exact Below.refl _ _ | (with_reducible refine below_step ?_ (by assumption) (by first | omega | (simp <;> omega))) | (with_reducible refine Below.alloc ?_ (by first | omega | (simp <;> omega)) _) | (with_reducible refine Below.setCell ?_ (by first | omega | (simp <;> omega)) _) | (with_reducible refine Below.drew ?_) | (with_reducible refine below_dN ?_ _) | (refine Below.alloc ?_ (by first | omega | (simp <;> omega)) _))⟩
  ·
   have h1 : (mIsSite s) = false := by simpa using h1
   have HE := Lib.hid (show mMatchSite p s = false by simp [mMatchSite, h0, h1])
   go_enter Try.func25, Try.ntmps25
   go_wp2_with (first | (go_at_call 118; refine (impl_IsPattern _ _).mono ?_; rintro e w1 ⟨rfl, hb1⟩; obtain ⟨hc1, hf1⟩ := bcell hb1; have HB1 := Lib.hid hb1; have hs1 := hb1.size; (try simp at hs1); (have hz0 : w.heap.size < w1.heap.size := by omega); (have hz1 : w.heap.size + 1 < w1.heap.size := by omega); (try (have hywS : wS.heap.size < w1.heap.size := by omega)); clear hb1) | (go_at_call 119; refine (impl_IsSite _ _).mono ?_; rintro e w1 ⟨rfl, hb1⟩; obtain ⟨hc1, hf1⟩ := bcell hb1; have HB1 := Lib.hid hb1; have hs1 := hb1.size; (try simp at hs1); (have hz0 : w.heap.size < w1.heap.size := by omega); (have hz1 : w.heap.size + 1 < w1.heap.size := by omega); (try (have hywS : wS.heap.size < w1.heap.size := by omega)); clear hb1) | (go_at_call 117; refine (impl_scopeOf p _).mono ?_; rintro e wS ⟨rfl, hb1⟩; obtain ⟨hc1, hf1⟩ := bcell hb1; have HB1 := Lib.hid hb1; have hs1 := hb1.size; (try simp at hs1); (have hz0 : w.heap.size < wS.heap.size := by omega); (have hz1 : w.heap.size + 1 < wS.heap.size := by omega); clear hb1) | (go_at_call 106; refine (impl_takes _ _ _ _).mono ?_; rintro e w1 ⟨rfl, hb1⟩; obtain ⟨hc1, hf1⟩ := bcell hb1; have HB1 := Lib.hid hb1; have hs1 := hb1.size; (try simp at hs1); (have hz0 : w.heap.size < w1.heap.size := by omega); (have hz1 : w.heap.size + 1 < w1.heap.size := by omega); (try (have hywS : wS.heap.size < w1.heap.size := by omega)); clear hb1))
   go_ret
   exact ⟨by rw [HE.out]; rfl, by repeat (first | with_reducible exact Below.refl _ _ | (with_reducible refine below_step ?_ (by assumption) (by first | omega | (simp <;> omega))) | (with_reducible refine Below.alloc ?_ (by first | omega | (simp <;> omega)) _) | (with_reducible refine Below.setCell ?_ (by first | omega | (simp <;> omega)) _) | (with_reducible refine Below.drew ?_) | (with_reducible refine below_dN ?_ _) | (refine Below.alloc ?_ (by first | omega | (simp <;> omega)) _))⟩
 ·
  have h0 : (mIsPattern p) = false := by simpa using h0
  have HE := Lib.hid (show mMatchSite p s = false by simp [mMatchSite, h0])
  go_enter Try.func25, Try.ntmps25
  go_wp2_with (first | (go_at_call 118; refine (impl_IsPattern _ _).mono ?_; rintro e w1 ⟨rfl, hb1⟩; obtain ⟨hc1, hf1⟩ := bcell hb1; have HB1 := Lib.hid hb1; have hs1 := hb1.size; (try simp at hs1); (have hz0 : w.heap.size < w1.heap.size := by omega); (have hz1 : w.heap.size + 1 < w1.heap.size := by omega); (try (have hywS : wS.heap.size < w1.heap.size := by omega)); clear hb1) | (go_at_call 119; refine (impl_IsSite _ _).mono ?_; rintro e w1 ⟨rfl, hb1⟩; obtain ⟨hc1, hf1⟩ := bcell hb1; have HB1 := Lib.hid hb1; have hs1 := hb1.size; (try simp at hs1); (have hz0 : w.heap.size < w1.heap.size := by omega); (have hz1 : w.heap.size + 1 < w1.heap.size := by omega); (try (have hywS : wS.heap.size < w1.heap.size := by omega)); clear hb1) | (go_at_call 117; refine (impl_scopeOf p _).mono ?_; rintro e wS ⟨rfl, hb1⟩; obtain ⟨hc1, hf1⟩ := bcell hb1; have HB1 := Lib.hid hb1; have hs1 := hb1.size; (try simp at hs1); (have hz0 : w.heap.size < wS.heap.size := by omega); (have hz1 : w.heap.size + 1 < wS.heap.size := by omega); clear hb1) | (go_at_call 106; refine (impl_takes _ _ _ _).mono ?_; rintro e w1 ⟨rfl, hb1⟩; obtain ⟨hc1, hf1⟩ := bcell hb1; have HB1 := Lib.hid hb1; have hs1 := hb1.size; (try simp at hs1); (have hz0 : w.heap.size < w1.heap.size := by omega); (have hz1 : w.heap.size + 1 < w1.heap.size := by omega); (try (have hywS : wS.heap.size < w1.heap.size := by omega)); clear hb1))
  go_ret
  exact ⟨by rw [HE.out]; rfl, by repeat (first | with_reducible exact Below.refl _ _ | (with_reducible refine below_step ?_ (by assumption) (by first | omega | (simp <;> omega))) | (with_reducible refine Below.alloc ?_ (by first | omega | (simp <;> omega)) _) | (with_reducible refine Below.setCell ?_ (by first | omega | (simp <;> omega)) _) | (with_reducible refine Below.drew ?_) | (with_reducible refine below_dN ?_ _) | (refine Below.alloc ?_ (by first | omega | (simp <;> omega)) _))⟩

end Go.Proofs.Ytfceddgacefejaa
