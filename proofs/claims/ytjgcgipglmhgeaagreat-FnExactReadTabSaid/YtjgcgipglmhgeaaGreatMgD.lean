/- Merged: Site, Limit, Grant, FAllowed, Allow, Denied, MayDo, MayN. -/
import Derived.Test.YtjgcgipglmhgeaaGreatTPattern
import Derived.Test.YtjgcgipglmhgeaaGreatTSite
import Derived.Test.YtjgcgipglmhgeaaGreatIn
import Derived.Deep.RegionHeld3
import Derived.Test.YtjgcgipglmhgeaaGreatTLimit
import Derived.Test.YtjgcgipglmhgeaaGreatTGrant
import Derived.Test.YtjgcgipglmhgeaaGreatFun
import Derived.Test.YtjgcgipglmhgeaaGreatDBrowser
namespace Go.Proofs.YtjgcgipglmhgeaaGreat
open Go Go.ChangeShapes Go.WideShapes Go.ChangeAt Go.RowKit Go.Lib
set_option linter.unusedVariables false
set_option linter.unusedSimpArgs false
set_option maxRecDepth 100000
abbrev vPat (p : TPattern) : Value := .agg #[.int .i64 p.f0, .int .i64 p.f1]
abbrev vSite (p : TSite) : Value := .agg #[.int .i64 p.f0, .int .i64 p.f1]
def mIsSite (s : TSite) : Bool := inR s.f0 1 9 && inR s.f1 0 9
def mIsPattern (s : TPattern) : Bool := inR s.f0 0 9 && inR s.f1 (-1) 9
/-- Whether k, or the sign for all numbers, meets n. -/
def mTakes (all k n : Int) : Bool := k == all || k == n
def mMatchSite (p : TPattern) (s : TSite) : Bool := mIsPattern p && mIsSite s && mTakes 0 p.f0 s.f0 && mTakes (-1) p.f1 s.f1
def mIsNarrower (p q : TPattern) : Bool := mIsPattern p && mIsPattern q && (q.f0 == 0 || p.f0 == q.f0) && (q.f1 == -1 || p.f1 == q.f1)

set_option maxHeartbeats 2000000 in
theorem spec_IsSite (s : TSite) (w : World) :
    Calls Tryz.prog 141 #[.agg #[.int .i64 s.f0, .int .i64 s.f1]] w (Says (.bool (mIsSite s)) w) := by
  by_cases h0 : (inR s.f0 1 9) = true
  · skip
    by_cases h1 : (inR s.f1 0 9) = true
    · skip
      have HE := Lib.hid (show mIsSite s = true by simp [mIsSite, h0, h1])
      go_enter Tryz.func141, Tryz.ntmps141
      go_wp2_with (first | (go_at_call 47; refine (spec_in _ _ _ _).mono ?_; rintro e w1 ⟨rfl, rfl⟩))
      go_ret
      exact ⟨by rw [HE.out]; rfl, by repeat (first | exact Below.refl _ _ | (refine Below.alloc ?_ (by first | omega | (simp; done) | (simp <;> omega)) _) | (refine below_dN ?_ _))⟩
    · have h1 : (inR s.f1 0 9) = false := by simpa using h1
      have HE := Lib.hid (show mIsSite s = false by simp [mIsSite, h0, h1])
      go_enter Tryz.func141, Tryz.ntmps141
      go_wp2_with (first | (go_at_call 47; refine (spec_in _ _ _ _).mono ?_; rintro e w1 ⟨rfl, rfl⟩))
      go_ret
      exact ⟨by rw [HE.out]; rfl, by repeat (first | exact Below.refl _ _ | (refine Below.alloc ?_ (by first | omega | (simp; done) | (simp <;> omega)) _) | (refine below_dN ?_ _))⟩
  · have h0 : (inR s.f0 1 9) = false := by simpa using h0
    have HE := Lib.hid (show mIsSite s = false by simp [mIsSite, h0])
    go_enter Tryz.func141, Tryz.ntmps141
    go_wp2_with (first | (go_at_call 47; refine (spec_in _ _ _ _).mono ?_; rintro e w1 ⟨rfl, rfl⟩))
    go_ret
    exact ⟨by rw [HE.out]; rfl, by repeat (first | exact Below.refl _ _ | (refine Below.alloc ?_ (by first | omega | (simp; done) | (simp <;> omega)) _) | (refine below_dN ?_ _))⟩

set_option maxHeartbeats 2000000 in
theorem impl_IsSite (s : TSite) (w : World) :
    Calls Tryz.prog 157 #[.agg #[.int .i64 s.f0, .int .i64 s.f1]] w (Says (.bool (mIsSite s)) w) := by
  by_cases h0 : (inR s.f0 1 9) = true
  · skip
    by_cases h1 : (inR s.f1 0 9) = true
    · skip
      have HE := Lib.hid (show mIsSite s = true by simp [mIsSite, h0, h1])
      go_enter Tryz.func157, Tryz.ntmps157
      go_wp2_with (first | (go_at_call 93; refine (impl_in _ _ _ _).mono ?_; rintro e w1 ⟨rfl, rfl⟩))
      go_ret
      exact ⟨by rw [HE.out]; rfl, by repeat (first | exact Below.refl _ _ | (refine Below.alloc ?_ (by first | omega | (simp; done) | (simp <;> omega)) _) | (refine below_dN ?_ _))⟩
    · have h1 : (inR s.f1 0 9) = false := by simpa using h1
      have HE := Lib.hid (show mIsSite s = false by simp [mIsSite, h0, h1])
      go_enter Tryz.func157, Tryz.ntmps157
      go_wp2_with (first | (go_at_call 93; refine (impl_in _ _ _ _).mono ?_; rintro e w1 ⟨rfl, rfl⟩))
      go_ret
      exact ⟨by rw [HE.out]; rfl, by repeat (first | exact Below.refl _ _ | (refine Below.alloc ?_ (by first | omega | (simp; done) | (simp <;> omega)) _) | (refine below_dN ?_ _))⟩
  · have h0 : (inR s.f0 1 9) = false := by simpa using h0
    have HE := Lib.hid (show mIsSite s = false by simp [mIsSite, h0])
    go_enter Tryz.func157, Tryz.ntmps157
    go_wp2_with (first | (go_at_call 93; refine (impl_in _ _ _ _).mono ?_; rintro e w1 ⟨rfl, rfl⟩))
    go_ret
    exact ⟨by rw [HE.out]; rfl, by repeat (first | exact Below.refl _ _ | (refine Below.alloc ?_ (by first | omega | (simp; done) | (simp <;> omega)) _) | (refine below_dN ?_ _))⟩

set_option maxHeartbeats 2000000 in
theorem spec_IsPattern (s : TPattern) (w : World) :
    Calls Tryz.prog 140 #[.agg #[.int .i64 s.f0, .int .i64 s.f1]] w (Says (.bool (mIsPattern s)) w) := by
  by_cases h0 : (inR s.f0 0 9) = true
  · skip
    by_cases h1 : (inR s.f1 (-1) 9) = true
    · skip
      have HE := Lib.hid (show mIsPattern s = true by simp [mIsPattern, h0, h1])
      go_enter Tryz.func140, Tryz.ntmps140
      go_wp2_with (first | (go_at_call 47; refine (spec_in _ _ _ _).mono ?_; rintro e w1 ⟨rfl, rfl⟩))
      go_ret
      exact ⟨by rw [HE.out]; rfl, by repeat (first | exact Below.refl _ _ | (refine Below.alloc ?_ (by first | omega | (simp; done) | (simp <;> omega)) _) | (refine below_dN ?_ _))⟩
    · have h1 : (inR s.f1 (-1) 9) = false := by simpa using h1
      have HE := Lib.hid (show mIsPattern s = false by simp [mIsPattern, h0, h1])
      go_enter Tryz.func140, Tryz.ntmps140
      go_wp2_with (first | (go_at_call 47; refine (spec_in _ _ _ _).mono ?_; rintro e w1 ⟨rfl, rfl⟩))
      go_ret
      exact ⟨by rw [HE.out]; rfl, by repeat (first | exact Below.refl _ _ | (refine Below.alloc ?_ (by first | omega | (simp; done) | (simp <;> omega)) _) | (refine below_dN ?_ _))⟩
  · have h0 : (inR s.f0 0 9) = false := by simpa using h0
    have HE := Lib.hid (show mIsPattern s = false by simp [mIsPattern, h0])
    go_enter Tryz.func140, Tryz.ntmps140
    go_wp2_with (first | (go_at_call 47; refine (spec_in _ _ _ _).mono ?_; rintro e w1 ⟨rfl, rfl⟩))
    go_ret
    exact ⟨by rw [HE.out]; rfl, by repeat (first | exact Below.refl _ _ | (refine Below.alloc ?_ (by first | omega | (simp; done) | (simp <;> omega)) _) | (refine below_dN ?_ _))⟩

set_option maxHeartbeats 2000000 in
theorem impl_IsPattern (s : TPattern) (w : World) :
    Calls Tryz.prog 155 #[.agg #[.int .i64 s.f0, .int .i64 s.f1]] w (Says (.bool (mIsPattern s)) w) := by
  by_cases h0 : (inR s.f0 0 9) = true
  · skip
    by_cases h1 : (inR s.f1 (-1) 9) = true
    · skip
      have HE := Lib.hid (show mIsPattern s = true by simp [mIsPattern, h0, h1])
      go_enter Tryz.func155, Tryz.ntmps155
      go_wp2_with (first | (go_at_call 93; refine (impl_in _ _ _ _).mono ?_; rintro e w1 ⟨rfl, rfl⟩))
      go_ret
      exact ⟨by rw [HE.out]; rfl, by repeat (first | exact Below.refl _ _ | (refine Below.alloc ?_ (by first | omega | (simp; done) | (simp <;> omega)) _) | (refine below_dN ?_ _))⟩
    · have h1 : (inR s.f1 (-1) 9) = false := by simpa using h1
      have HE := Lib.hid (show mIsPattern s = false by simp [mIsPattern, h0, h1])
      go_enter Tryz.func155, Tryz.ntmps155
      go_wp2_with (first | (go_at_call 93; refine (impl_in _ _ _ _).mono ?_; rintro e w1 ⟨rfl, rfl⟩))
      go_ret
      exact ⟨by rw [HE.out]; rfl, by repeat (first | exact Below.refl _ _ | (refine Below.alloc ?_ (by first | omega | (simp; done) | (simp <;> omega)) _) | (refine below_dN ?_ _))⟩
  · have h0 : (inR s.f0 0 9) = false := by simpa using h0
    have HE := Lib.hid (show mIsPattern s = false by simp [mIsPattern, h0])
    go_enter Tryz.func155, Tryz.ntmps155
    go_wp2_with (first | (go_at_call 93; refine (impl_in _ _ _ _).mono ?_; rintro e w1 ⟨rfl, rfl⟩))
    go_ret
    exact ⟨by rw [HE.out]; rfl, by repeat (first | exact Below.refl _ _ | (refine Below.alloc ?_ (by first | omega | (simp; done) | (simp <;> omega)) _) | (refine below_dN ?_ _))⟩

theorem impl_optionOf (n all : Int) (w : World) : Calls Tryz.prog 128 #[.int .i64 n, .int .i64 all] w (Says (.agg #[.bool (n != all), .int .i64 n]) w) := by
  go_enter Tryz.func128, Tryz.ntmps128
  go_wp2
  exact bodyPost_ret (v := .agg #[.bool (n != all), .int .i64 n]) (by simp [results, Tryz.results128, go_sem]) rfl ⟨rfl, by repeat (first | with_reducible exact Below.refl _ _ | (with_reducible refine below_step ?_ (by assumption) (by first | omega | (simp; done) | (simp <;> omega))) | (with_reducible refine Below.alloc ?_ (by first | omega | (simp; done) | (simp <;> omega)) _) | (with_reducible refine Below.setCell ?_ (by first | omega | (simp; done) | (simp <;> omega)) _) | (with_reducible refine Below.drew ?_) | (with_reducible refine below_dN ?_ _) | (refine Below.alloc ?_ (by first | omega | (simp; done) | (simp <;> omega)) _))⟩
theorem impl_scopeOf (p : TPattern) (w : World) : Calls Tryz.prog 156 #[vPat p] w (Says (.agg #[.bool (p.f0 != 0), .int .i64 p.f0, .bool (p.f1 != -1), .int .i64 p.f1]) w) := by
  go_enter Tryz.func156, Tryz.ntmps156
  go_wp2_with fail
  go_region_held3 (fun w' => w'.cell? ⟨w.heap.size, 0, none⟩ = some (.int .i64 p.f0) ∧ w'.cell? ⟨w.heap.size, 1, none⟩ = some (.int .i64 p.f1))
    (first | exact ⟨cell_nw HB1.out (by first | assumption | simp), cell_nw HB1.out (by first | assumption | simp)⟩ | (constructor <;> (repeat (refine cell_past (by simp) ?_)) <;> first | exact And.left (by assumption) | exact And.right (by assumption)) | go_keep)
    (first | (go_at_call 128; refine (impl_optionOf _ _ _).mono ?_; rintro e w1 ⟨rfl, hb1⟩; obtain ⟨hc1, hf1⟩ := bcell hb1; have HB1 := Lib.hid hb1; have hs1 := hb1.size; (try simp at hs1); (have hz0 : w.heap.size < w1.heap.size := by omega); (have hz1 : w.heap.size + 1 < w1.heap.size := by omega); clear hb1))
  all_goals go_wp2_with fail
  all_goals exact bodyPost_ret (v := .agg #[.bool (p.f0 != 0), .int .i64 p.f0, .bool (p.f1 != -1), .int .i64 p.f1]) (by simp [results, Tryz.results156, go_sem, *]) rfl ⟨rfl, by repeat (first | with_reducible exact Below.refl _ _ | (with_reducible refine below_step ?_ (by assumption) (by first | omega | (simp; done) | (simp <;> omega))) | (with_reducible refine Below.alloc ?_ (by first | omega | (simp; done) | (simp <;> omega)) _) | (with_reducible refine Below.setCell ?_ (by first | omega | (simp; done) | (simp <;> omega)) _) | (with_reducible refine Below.drew ?_) | (with_reducible refine below_dN ?_ _) | (refine Below.alloc ?_ (by first | omega | (simp; done) | (simp <;> omega)) _))⟩

set_option maxHeartbeats 2000000 in
theorem impl_takes (all k n : Int) (w : World) :
    Calls Tryz.prog 129 #[.agg #[.bool (k != all), .int .i64 k], .int .i64 n] w (Says (.bool (mTakes all k n)) w) := by
  by_cases h0 : (k == all) = true
  · skip
    have HE := Lib.hid (show mTakes all k n = true by (simp [mTakes] at *; omega))
    have HB := Lib.hid (show (k != all) = (!(k == all)) by simp [bne, h0])
    rw [HB.out]
    rw [h0]
    simp only [Bool.not_true, Bool.not_false]
    go_enter Tryz.func129, Tryz.ntmps129
    go_wp2_with fail
    go_ret
    exact ⟨by rw [HE.out]; rfl, by repeat (first | with_reducible exact Below.refl _ _ | (with_reducible refine below_step ?_ (by assumption) (by first | omega | (simp; done) | (simp <;> omega))) | (with_reducible refine Below.alloc ?_ (by first | omega | (simp; done) | (simp <;> omega)) _) | (with_reducible refine Below.setCell ?_ (by first | omega | (simp; done) | (simp <;> omega)) _) | (with_reducible refine Below.drew ?_) | (with_reducible refine below_dN ?_ _) | (refine Below.alloc ?_ (by first | omega | (simp; done) | (simp <;> omega)) _))⟩
  · have h0 : (k == all) = false := by simpa using h0
    by_cases h1 : (n == k) = true
    · skip
      have HE := Lib.hid (show mTakes all k n = true by (simp [mTakes] at *; omega))
      have HB := Lib.hid (show (k != all) = (!(k == all)) by simp [bne, h0])
      rw [HB.out]
      rw [h0]
      simp only [Bool.not_true, Bool.not_false]
      go_enter Tryz.func129, Tryz.ntmps129
      go_wp2_with fail
      go_ret
      exact ⟨by rw [HE.out]; rfl, by repeat (first | with_reducible exact Below.refl _ _ | (with_reducible refine below_step ?_ (by assumption) (by first | omega | (simp; done) | (simp <;> omega))) | (with_reducible refine Below.alloc ?_ (by first | omega | (simp; done) | (simp <;> omega)) _) | (with_reducible refine Below.setCell ?_ (by first | omega | (simp; done) | (simp <;> omega)) _) | (with_reducible refine Below.drew ?_) | (with_reducible refine below_dN ?_ _) | (refine Below.alloc ?_ (by first | omega | (simp; done) | (simp <;> omega)) _))⟩
    · have h1 : (n == k) = false := by simpa using h1
      have HE := Lib.hid (show mTakes all k n = false by (simp [mTakes] at *; omega))
      have HB := Lib.hid (show (k != all) = (!(k == all)) by simp [bne, h0])
      rw [HB.out]
      rw [h0]
      simp only [Bool.not_true, Bool.not_false]
      go_enter Tryz.func129, Tryz.ntmps129
      go_wp2_with fail
      go_ret
      exact ⟨by rw [HE.out]; rfl, by repeat (first | with_reducible exact Below.refl _ _ | (with_reducible refine below_step ?_ (by assumption) (by first | omega | (simp; done) | (simp <;> omega))) | (with_reducible refine Below.alloc ?_ (by first | omega | (simp; done) | (simp <;> omega)) _) | (with_reducible refine Below.setCell ?_ (by first | omega | (simp; done) | (simp <;> omega)) _) | (with_reducible refine Below.drew ?_) | (with_reducible refine below_dN ?_ _) | (refine Below.alloc ?_ (by first | omega | (simp; done) | (simp <;> omega)) _))⟩

set_option maxHeartbeats 2000000 in
theorem spec_MatchSite (p : TPattern) (s : TSite) (w : World) :
    Calls Tryz.prog 113 #[vPat p, vSite s] w (Says (.bool (mMatchSite p s)) w) := by
  by_cases h0 : (mIsPattern p) = true
  · skip
    by_cases h1 : (mIsSite s) = true
    · skip
      by_cases h2 : (p.f0 == 0) = true
      · skip
        by_cases h3 : (p.f1 == -1) = true
        · skip
          have HE := Lib.hid (show mMatchSite p s = true by simp [mMatchSite, mTakes, h0, h1, h2, h3])
          go_enter Tryz.func113, Tryz.ntmps113
          go_wp2_with (first | (go_at_call 140; refine (spec_IsPattern _ _).mono ?_; rintro e w1 ⟨rfl, hb1⟩; obtain ⟨hc1, hf1⟩ := bcell hb1; have HB1 := Lib.hid hb1; have hs1 := hb1.size; (try simp at hs1); (have hz0 : w.heap.size < w1.heap.size := by omega); (have hz1 : w.heap.size + 1 < w1.heap.size := by omega); clear hb1) | (go_at_call 141; refine (spec_IsSite _ _).mono ?_; rintro e w1 ⟨rfl, hb1⟩; obtain ⟨hc1, hf1⟩ := bcell hb1; have HB1 := Lib.hid hb1; have hs1 := hb1.size; (try simp at hs1); (have hz0 : w.heap.size < w1.heap.size := by omega); (have hz1 : w.heap.size + 1 < w1.heap.size := by omega); clear hb1))
          go_ret
          exact ⟨by rw [HE.out]; rfl, by repeat (first | with_reducible exact Below.refl _ _ | (with_reducible refine below_step ?_ (by assumption) (by first | omega | (simp; done) | (simp <;> omega))) | (with_reducible refine Below.alloc ?_ (by first | omega | (simp; done) | (simp <;> omega)) _) | (with_reducible refine Below.setCell ?_ (by first | omega | (simp; done) | (simp <;> omega)) _) | (with_reducible refine Below.drew ?_) | (with_reducible refine below_dN ?_ _) | (refine Below.alloc ?_ (by first | omega | (simp; done) | (simp <;> omega)) _))⟩
        · have h3 : (p.f1 == -1) = false := by simpa using h3
          by_cases h4 : (p.f1 == s.f1) = true
          · skip
            have HE := Lib.hid (show mMatchSite p s = true by simp [mMatchSite, mTakes, h0, h1, h2, h3, h4])
            go_enter Tryz.func113, Tryz.ntmps113
            go_wp2_with (first | (go_at_call 140; refine (spec_IsPattern _ _).mono ?_; rintro e w1 ⟨rfl, hb1⟩; obtain ⟨hc1, hf1⟩ := bcell hb1; have HB1 := Lib.hid hb1; have hs1 := hb1.size; (try simp at hs1); (have hz0 : w.heap.size < w1.heap.size := by omega); (have hz1 : w.heap.size + 1 < w1.heap.size := by omega); clear hb1) | (go_at_call 141; refine (spec_IsSite _ _).mono ?_; rintro e w1 ⟨rfl, hb1⟩; obtain ⟨hc1, hf1⟩ := bcell hb1; have HB1 := Lib.hid hb1; have hs1 := hb1.size; (try simp at hs1); (have hz0 : w.heap.size < w1.heap.size := by omega); (have hz1 : w.heap.size + 1 < w1.heap.size := by omega); clear hb1))
            go_ret
            exact ⟨by rw [HE.out]; rfl, by repeat (first | with_reducible exact Below.refl _ _ | (with_reducible refine below_step ?_ (by assumption) (by first | omega | (simp; done) | (simp <;> omega))) | (with_reducible refine Below.alloc ?_ (by first | omega | (simp; done) | (simp <;> omega)) _) | (with_reducible refine Below.setCell ?_ (by first | omega | (simp; done) | (simp <;> omega)) _) | (with_reducible refine Below.drew ?_) | (with_reducible refine below_dN ?_ _) | (refine Below.alloc ?_ (by first | omega | (simp; done) | (simp <;> omega)) _))⟩
          · have h4 : (p.f1 == s.f1) = false := by simpa using h4
            have HE := Lib.hid (show mMatchSite p s = false by simp [mMatchSite, mTakes, h0, h1, h2, h3, h4])
            go_enter Tryz.func113, Tryz.ntmps113
            go_wp2_with (first | (go_at_call 140; refine (spec_IsPattern _ _).mono ?_; rintro e w1 ⟨rfl, hb1⟩; obtain ⟨hc1, hf1⟩ := bcell hb1; have HB1 := Lib.hid hb1; have hs1 := hb1.size; (try simp at hs1); (have hz0 : w.heap.size < w1.heap.size := by omega); (have hz1 : w.heap.size + 1 < w1.heap.size := by omega); clear hb1) | (go_at_call 141; refine (spec_IsSite _ _).mono ?_; rintro e w1 ⟨rfl, hb1⟩; obtain ⟨hc1, hf1⟩ := bcell hb1; have HB1 := Lib.hid hb1; have hs1 := hb1.size; (try simp at hs1); (have hz0 : w.heap.size < w1.heap.size := by omega); (have hz1 : w.heap.size + 1 < w1.heap.size := by omega); clear hb1))
            go_ret
            exact ⟨by rw [HE.out]; rfl, by repeat (first | with_reducible exact Below.refl _ _ | (with_reducible refine below_step ?_ (by assumption) (by first | omega | (simp; done) | (simp <;> omega))) | (with_reducible refine Below.alloc ?_ (by first | omega | (simp; done) | (simp <;> omega)) _) | (with_reducible refine Below.setCell ?_ (by first | omega | (simp; done) | (simp <;> omega)) _) | (with_reducible refine Below.drew ?_) | (with_reducible refine below_dN ?_ _) | (refine Below.alloc ?_ (by first | omega | (simp; done) | (simp <;> omega)) _))⟩
      · have h2 : (p.f0 == 0) = false := by simpa using h2
        by_cases h5 : (p.f0 == s.f0) = true
        · skip
          by_cases h6 : (p.f1 == -1) = true
          · skip
            have HE := Lib.hid (show mMatchSite p s = true by simp [mMatchSite, mTakes, h0, h1, h2, h5, h6])
            go_enter Tryz.func113, Tryz.ntmps113
            go_wp2_with (first | (go_at_call 140; refine (spec_IsPattern _ _).mono ?_; rintro e w1 ⟨rfl, hb1⟩; obtain ⟨hc1, hf1⟩ := bcell hb1; have HB1 := Lib.hid hb1; have hs1 := hb1.size; (try simp at hs1); (have hz0 : w.heap.size < w1.heap.size := by omega); (have hz1 : w.heap.size + 1 < w1.heap.size := by omega); clear hb1) | (go_at_call 141; refine (spec_IsSite _ _).mono ?_; rintro e w1 ⟨rfl, hb1⟩; obtain ⟨hc1, hf1⟩ := bcell hb1; have HB1 := Lib.hid hb1; have hs1 := hb1.size; (try simp at hs1); (have hz0 : w.heap.size < w1.heap.size := by omega); (have hz1 : w.heap.size + 1 < w1.heap.size := by omega); clear hb1))
            go_ret
            exact ⟨by rw [HE.out]; rfl, by repeat (first | with_reducible exact Below.refl _ _ | (with_reducible refine below_step ?_ (by assumption) (by first | omega | (simp; done) | (simp <;> omega))) | (with_reducible refine Below.alloc ?_ (by first | omega | (simp; done) | (simp <;> omega)) _) | (with_reducible refine Below.setCell ?_ (by first | omega | (simp; done) | (simp <;> omega)) _) | (with_reducible refine Below.drew ?_) | (with_reducible refine below_dN ?_ _) | (refine Below.alloc ?_ (by first | omega | (simp; done) | (simp <;> omega)) _))⟩
          · have h6 : (p.f1 == -1) = false := by simpa using h6
            by_cases h7 : (p.f1 == s.f1) = true
            · skip
              have HE := Lib.hid (show mMatchSite p s = true by simp [mMatchSite, mTakes, h0, h1, h2, h5, h6, h7])
              go_enter Tryz.func113, Tryz.ntmps113
              go_wp2_with (first | (go_at_call 140; refine (spec_IsPattern _ _).mono ?_; rintro e w1 ⟨rfl, hb1⟩; obtain ⟨hc1, hf1⟩ := bcell hb1; have HB1 := Lib.hid hb1; have hs1 := hb1.size; (try simp at hs1); (have hz0 : w.heap.size < w1.heap.size := by omega); (have hz1 : w.heap.size + 1 < w1.heap.size := by omega); clear hb1) | (go_at_call 141; refine (spec_IsSite _ _).mono ?_; rintro e w1 ⟨rfl, hb1⟩; obtain ⟨hc1, hf1⟩ := bcell hb1; have HB1 := Lib.hid hb1; have hs1 := hb1.size; (try simp at hs1); (have hz0 : w.heap.size < w1.heap.size := by omega); (have hz1 : w.heap.size + 1 < w1.heap.size := by omega); clear hb1))
              go_ret
              exact ⟨by rw [HE.out]; rfl, by repeat (first | with_reducible exact Below.refl _ _ | (with_reducible refine below_step ?_ (by assumption) (by first | omega | (simp; done) | (simp <;> omega))) | (with_reducible refine Below.alloc ?_ (by first | omega | (simp; done) | (simp <;> omega)) _) | (with_reducible refine Below.setCell ?_ (by first | omega | (simp; done) | (simp <;> omega)) _) | (with_reducible refine Below.drew ?_) | (with_reducible refine below_dN ?_ _) | (refine Below.alloc ?_ (by first | omega | (simp; done) | (simp <;> omega)) _))⟩
            · have h7 : (p.f1 == s.f1) = false := by simpa using h7
              have HE := Lib.hid (show mMatchSite p s = false by simp [mMatchSite, mTakes, h0, h1, h2, h5, h6, h7])
              go_enter Tryz.func113, Tryz.ntmps113
              go_wp2_with (first | (go_at_call 140; refine (spec_IsPattern _ _).mono ?_; rintro e w1 ⟨rfl, hb1⟩; obtain ⟨hc1, hf1⟩ := bcell hb1; have HB1 := Lib.hid hb1; have hs1 := hb1.size; (try simp at hs1); (have hz0 : w.heap.size < w1.heap.size := by omega); (have hz1 : w.heap.size + 1 < w1.heap.size := by omega); clear hb1) | (go_at_call 141; refine (spec_IsSite _ _).mono ?_; rintro e w1 ⟨rfl, hb1⟩; obtain ⟨hc1, hf1⟩ := bcell hb1; have HB1 := Lib.hid hb1; have hs1 := hb1.size; (try simp at hs1); (have hz0 : w.heap.size < w1.heap.size := by omega); (have hz1 : w.heap.size + 1 < w1.heap.size := by omega); clear hb1))
              go_ret
              exact ⟨by rw [HE.out]; rfl, by repeat (first | with_reducible exact Below.refl _ _ | (with_reducible refine below_step ?_ (by assumption) (by first | omega | (simp; done) | (simp <;> omega))) | (with_reducible refine Below.alloc ?_ (by first | omega | (simp; done) | (simp <;> omega)) _) | (with_reducible refine Below.setCell ?_ (by first | omega | (simp; done) | (simp <;> omega)) _) | (with_reducible refine Below.drew ?_) | (with_reducible refine below_dN ?_ _) | (refine Below.alloc ?_ (by first | omega | (simp; done) | (simp <;> omega)) _))⟩
        · have h5 : (p.f0 == s.f0) = false := by simpa using h5
          have HE := Lib.hid (show mMatchSite p s = false by simp [mMatchSite, mTakes, h0, h1, h2, h5])
          go_enter Tryz.func113, Tryz.ntmps113
          go_wp2_with (first | (go_at_call 140; refine (spec_IsPattern _ _).mono ?_; rintro e w1 ⟨rfl, hb1⟩; obtain ⟨hc1, hf1⟩ := bcell hb1; have HB1 := Lib.hid hb1; have hs1 := hb1.size; (try simp at hs1); (have hz0 : w.heap.size < w1.heap.size := by omega); (have hz1 : w.heap.size + 1 < w1.heap.size := by omega); clear hb1) | (go_at_call 141; refine (spec_IsSite _ _).mono ?_; rintro e w1 ⟨rfl, hb1⟩; obtain ⟨hc1, hf1⟩ := bcell hb1; have HB1 := Lib.hid hb1; have hs1 := hb1.size; (try simp at hs1); (have hz0 : w.heap.size < w1.heap.size := by omega); (have hz1 : w.heap.size + 1 < w1.heap.size := by omega); clear hb1))
          go_ret
          exact ⟨by rw [HE.out]; rfl, by repeat (first | with_reducible exact Below.refl _ _ | (with_reducible refine below_step ?_ (by assumption) (by first | omega | (simp; done) | (simp <;> omega))) | (with_reducible refine Below.alloc ?_ (by first | omega | (simp; done) | (simp <;> omega)) _) | (with_reducible refine Below.setCell ?_ (by first | omega | (simp; done) | (simp <;> omega)) _) | (with_reducible refine Below.drew ?_) | (with_reducible refine below_dN ?_ _) | (refine Below.alloc ?_ (by first | omega | (simp; done) | (simp <;> omega)) _))⟩
    · have h1 : (mIsSite s) = false := by simpa using h1
      have HE := Lib.hid (show mMatchSite p s = false by simp [mMatchSite, mTakes, h0, h1])
      go_enter Tryz.func113, Tryz.ntmps113
      go_wp2_with (first | (go_at_call 140; refine (spec_IsPattern _ _).mono ?_; rintro e w1 ⟨rfl, hb1⟩; obtain ⟨hc1, hf1⟩ := bcell hb1; have HB1 := Lib.hid hb1; have hs1 := hb1.size; (try simp at hs1); (have hz0 : w.heap.size < w1.heap.size := by omega); (have hz1 : w.heap.size + 1 < w1.heap.size := by omega); clear hb1) | (go_at_call 141; refine (spec_IsSite _ _).mono ?_; rintro e w1 ⟨rfl, hb1⟩; obtain ⟨hc1, hf1⟩ := bcell hb1; have HB1 := Lib.hid hb1; have hs1 := hb1.size; (try simp at hs1); (have hz0 : w.heap.size < w1.heap.size := by omega); (have hz1 : w.heap.size + 1 < w1.heap.size := by omega); clear hb1))
      go_ret
      exact ⟨by rw [HE.out]; rfl, by repeat (first | with_reducible exact Below.refl _ _ | (with_reducible refine below_step ?_ (by assumption) (by first | omega | (simp; done) | (simp <;> omega))) | (with_reducible refine Below.alloc ?_ (by first | omega | (simp; done) | (simp <;> omega)) _) | (with_reducible refine Below.setCell ?_ (by first | omega | (simp; done) | (simp <;> omega)) _) | (with_reducible refine Below.drew ?_) | (with_reducible refine below_dN ?_ _) | (refine Below.alloc ?_ (by first | omega | (simp; done) | (simp <;> omega)) _))⟩
  · have h0 : (mIsPattern p) = false := by simpa using h0
    have HE := Lib.hid (show mMatchSite p s = false by simp [mMatchSite, mTakes, h0])
    go_enter Tryz.func113, Tryz.ntmps113
    go_wp2_with (first | (go_at_call 140; refine (spec_IsPattern _ _).mono ?_; rintro e w1 ⟨rfl, hb1⟩; obtain ⟨hc1, hf1⟩ := bcell hb1; have HB1 := Lib.hid hb1; have hs1 := hb1.size; (try simp at hs1); (have hz0 : w.heap.size < w1.heap.size := by omega); (have hz1 : w.heap.size + 1 < w1.heap.size := by omega); clear hb1) | (go_at_call 141; refine (spec_IsSite _ _).mono ?_; rintro e w1 ⟨rfl, hb1⟩; obtain ⟨hc1, hf1⟩ := bcell hb1; have HB1 := Lib.hid hb1; have hs1 := hb1.size; (try simp at hs1); (have hz0 : w.heap.size < w1.heap.size := by omega); (have hz1 : w.heap.size + 1 < w1.heap.size := by omega); clear hb1))
    go_ret
    exact ⟨by rw [HE.out]; rfl, by repeat (first | with_reducible exact Below.refl _ _ | (with_reducible refine below_step ?_ (by assumption) (by first | omega | (simp; done) | (simp <;> omega))) | (with_reducible refine Below.alloc ?_ (by first | omega | (simp; done) | (simp <;> omega)) _) | (with_reducible refine Below.setCell ?_ (by first | omega | (simp; done) | (simp <;> omega)) _) | (with_reducible refine Below.drew ?_) | (with_reducible refine below_dN ?_ _) | (refine Below.alloc ?_ (by first | omega | (simp; done) | (simp <;> omega)) _))⟩

set_option maxHeartbeats 2000000 in
theorem impl_MatchSite (p : TPattern) (s : TSite) (w : World) :
    Calls Tryz.prog 130 #[vPat p, vSite s] w (Says (.bool (mMatchSite p s)) w) := by
  by_cases h0 : (mIsPattern p) = true
  · skip
    by_cases h1 : (mIsSite s) = true
    · skip
      by_cases h2 : (mTakes 0 p.f0 s.f0) = true
      · skip
        by_cases h3 : (mTakes (-1) p.f1 s.f1) = true
        · skip
          have HE := Lib.hid (show mMatchSite p s = true by simp [mMatchSite, h0, h1, h2, h3])
          go_enter Tryz.func130, Tryz.ntmps130
          go_wp2_with (first | (go_at_call 155; refine (impl_IsPattern _ _).mono ?_; rintro e w1 ⟨rfl, hb1⟩; obtain ⟨hc1, hf1⟩ := bcell hb1; have HB1 := Lib.hid hb1; have hs1 := hb1.size; (try simp at hs1); (have hz0 : w.heap.size < w1.heap.size := by omega); (have hz1 : w.heap.size + 1 < w1.heap.size := by omega); (try (have hywS : wS.heap.size < w1.heap.size := by omega)); clear hb1) | (go_at_call 157; refine (impl_IsSite _ _).mono ?_; rintro e w1 ⟨rfl, hb1⟩; obtain ⟨hc1, hf1⟩ := bcell hb1; have HB1 := Lib.hid hb1; have hs1 := hb1.size; (try simp at hs1); (have hz0 : w.heap.size < w1.heap.size := by omega); (have hz1 : w.heap.size + 1 < w1.heap.size := by omega); (try (have hywS : wS.heap.size < w1.heap.size := by omega)); clear hb1) | (go_at_call 156; refine (impl_scopeOf p _).mono ?_; rintro e wS ⟨rfl, hb1⟩; obtain ⟨hc1, hf1⟩ := bcell hb1; have HB1 := Lib.hid hb1; have hs1 := hb1.size; (try simp at hs1); (have hz0 : w.heap.size < wS.heap.size := by omega); (have hz1 : w.heap.size + 1 < wS.heap.size := by omega); clear hb1) | (go_at_call 129; refine (impl_takes _ _ _ _).mono ?_; rintro e w1 ⟨rfl, hb1⟩; obtain ⟨hc1, hf1⟩ := bcell hb1; have HB1 := Lib.hid hb1; have hs1 := hb1.size; (try simp at hs1); (have hz0 : w.heap.size < w1.heap.size := by omega); (have hz1 : w.heap.size + 1 < w1.heap.size := by omega); (try (have hywS : wS.heap.size < w1.heap.size := by omega)); clear hb1))
          go_ret
          exact ⟨by rw [HE.out]; rfl, by repeat (first | with_reducible exact Below.refl _ _ | (with_reducible refine below_step ?_ (by assumption) (by first | omega | (simp; done) | (simp <;> omega))) | (with_reducible refine Below.alloc ?_ (by first | omega | (simp; done) | (simp <;> omega)) _) | (with_reducible refine Below.setCell ?_ (by first | omega | (simp; done) | (simp <;> omega)) _) | (with_reducible refine Below.drew ?_) | (with_reducible refine below_dN ?_ _) | (refine Below.alloc ?_ (by first | omega | (simp; done) | (simp <;> omega)) _))⟩
        · have h3 : (mTakes (-1) p.f1 s.f1) = false := by simpa using h3
          have HE := Lib.hid (show mMatchSite p s = false by simp [mMatchSite, h0, h1, h2, h3])
          go_enter Tryz.func130, Tryz.ntmps130
          go_wp2_with (first | (go_at_call 155; refine (impl_IsPattern _ _).mono ?_; rintro e w1 ⟨rfl, hb1⟩; obtain ⟨hc1, hf1⟩ := bcell hb1; have HB1 := Lib.hid hb1; have hs1 := hb1.size; (try simp at hs1); (have hz0 : w.heap.size < w1.heap.size := by omega); (have hz1 : w.heap.size + 1 < w1.heap.size := by omega); (try (have hywS : wS.heap.size < w1.heap.size := by omega)); clear hb1) | (go_at_call 157; refine (impl_IsSite _ _).mono ?_; rintro e w1 ⟨rfl, hb1⟩; obtain ⟨hc1, hf1⟩ := bcell hb1; have HB1 := Lib.hid hb1; have hs1 := hb1.size; (try simp at hs1); (have hz0 : w.heap.size < w1.heap.size := by omega); (have hz1 : w.heap.size + 1 < w1.heap.size := by omega); (try (have hywS : wS.heap.size < w1.heap.size := by omega)); clear hb1) | (go_at_call 156; refine (impl_scopeOf p _).mono ?_; rintro e wS ⟨rfl, hb1⟩; obtain ⟨hc1, hf1⟩ := bcell hb1; have HB1 := Lib.hid hb1; have hs1 := hb1.size; (try simp at hs1); (have hz0 : w.heap.size < wS.heap.size := by omega); (have hz1 : w.heap.size + 1 < wS.heap.size := by omega); clear hb1) | (go_at_call 129; refine (impl_takes _ _ _ _).mono ?_; rintro e w1 ⟨rfl, hb1⟩; obtain ⟨hc1, hf1⟩ := bcell hb1; have HB1 := Lib.hid hb1; have hs1 := hb1.size; (try simp at hs1); (have hz0 : w.heap.size < w1.heap.size := by omega); (have hz1 : w.heap.size + 1 < w1.heap.size := by omega); (try (have hywS : wS.heap.size < w1.heap.size := by omega)); clear hb1))
          go_ret
          exact ⟨by rw [HE.out]; rfl, by repeat (first | with_reducible exact Below.refl _ _ | (with_reducible refine below_step ?_ (by assumption) (by first | omega | (simp; done) | (simp <;> omega))) | (with_reducible refine Below.alloc ?_ (by first | omega | (simp; done) | (simp <;> omega)) _) | (with_reducible refine Below.setCell ?_ (by first | omega | (simp; done) | (simp <;> omega)) _) | (with_reducible refine Below.drew ?_) | (with_reducible refine below_dN ?_ _) | (refine Below.alloc ?_ (by first | omega | (simp; done) | (simp <;> omega)) _))⟩
      · have h2 : (mTakes 0 p.f0 s.f0) = false := by simpa using h2
        have HE := Lib.hid (show mMatchSite p s = false by simp [mMatchSite, h0, h1, h2])
        go_enter Tryz.func130, Tryz.ntmps130
        go_wp2_with (first | (go_at_call 155; refine (impl_IsPattern _ _).mono ?_; rintro e w1 ⟨rfl, hb1⟩; obtain ⟨hc1, hf1⟩ := bcell hb1; have HB1 := Lib.hid hb1; have hs1 := hb1.size; (try simp at hs1); (have hz0 : w.heap.size < w1.heap.size := by omega); (have hz1 : w.heap.size + 1 < w1.heap.size := by omega); (try (have hywS : wS.heap.size < w1.heap.size := by omega)); clear hb1) | (go_at_call 157; refine (impl_IsSite _ _).mono ?_; rintro e w1 ⟨rfl, hb1⟩; obtain ⟨hc1, hf1⟩ := bcell hb1; have HB1 := Lib.hid hb1; have hs1 := hb1.size; (try simp at hs1); (have hz0 : w.heap.size < w1.heap.size := by omega); (have hz1 : w.heap.size + 1 < w1.heap.size := by omega); (try (have hywS : wS.heap.size < w1.heap.size := by omega)); clear hb1) | (go_at_call 156; refine (impl_scopeOf p _).mono ?_; rintro e wS ⟨rfl, hb1⟩; obtain ⟨hc1, hf1⟩ := bcell hb1; have HB1 := Lib.hid hb1; have hs1 := hb1.size; (try simp at hs1); (have hz0 : w.heap.size < wS.heap.size := by omega); (have hz1 : w.heap.size + 1 < wS.heap.size := by omega); clear hb1) | (go_at_call 129; refine (impl_takes _ _ _ _).mono ?_; rintro e w1 ⟨rfl, hb1⟩; obtain ⟨hc1, hf1⟩ := bcell hb1; have HB1 := Lib.hid hb1; have hs1 := hb1.size; (try simp at hs1); (have hz0 : w.heap.size < w1.heap.size := by omega); (have hz1 : w.heap.size + 1 < w1.heap.size := by omega); (try (have hywS : wS.heap.size < w1.heap.size := by omega)); clear hb1))
        go_ret
        exact ⟨by rw [HE.out]; rfl, by repeat (first | with_reducible exact Below.refl _ _ | (with_reducible refine below_step ?_ (by assumption) (by first | omega | (simp; done) | (simp <;> omega))) | (with_reducible refine Below.alloc ?_ (by first | omega | (simp; done) | (simp <;> omega)) _) | (with_reducible refine Below.setCell ?_ (by first | omega | (simp; done) | (simp <;> omega)) _) | (with_reducible refine Below.drew ?_) | (with_reducible refine below_dN ?_ _) | (refine Below.alloc ?_ (by first | omega | (simp; done) | (simp <;> omega)) _))⟩
    · have h1 : (mIsSite s) = false := by simpa using h1
      have HE := Lib.hid (show mMatchSite p s = false by simp [mMatchSite, h0, h1])
      go_enter Tryz.func130, Tryz.ntmps130
      go_wp2_with (first | (go_at_call 155; refine (impl_IsPattern _ _).mono ?_; rintro e w1 ⟨rfl, hb1⟩; obtain ⟨hc1, hf1⟩ := bcell hb1; have HB1 := Lib.hid hb1; have hs1 := hb1.size; (try simp at hs1); (have hz0 : w.heap.size < w1.heap.size := by omega); (have hz1 : w.heap.size + 1 < w1.heap.size := by omega); (try (have hywS : wS.heap.size < w1.heap.size := by omega)); clear hb1) | (go_at_call 157; refine (impl_IsSite _ _).mono ?_; rintro e w1 ⟨rfl, hb1⟩; obtain ⟨hc1, hf1⟩ := bcell hb1; have HB1 := Lib.hid hb1; have hs1 := hb1.size; (try simp at hs1); (have hz0 : w.heap.size < w1.heap.size := by omega); (have hz1 : w.heap.size + 1 < w1.heap.size := by omega); (try (have hywS : wS.heap.size < w1.heap.size := by omega)); clear hb1) | (go_at_call 156; refine (impl_scopeOf p _).mono ?_; rintro e wS ⟨rfl, hb1⟩; obtain ⟨hc1, hf1⟩ := bcell hb1; have HB1 := Lib.hid hb1; have hs1 := hb1.size; (try simp at hs1); (have hz0 : w.heap.size < wS.heap.size := by omega); (have hz1 : w.heap.size + 1 < wS.heap.size := by omega); clear hb1) | (go_at_call 129; refine (impl_takes _ _ _ _).mono ?_; rintro e w1 ⟨rfl, hb1⟩; obtain ⟨hc1, hf1⟩ := bcell hb1; have HB1 := Lib.hid hb1; have hs1 := hb1.size; (try simp at hs1); (have hz0 : w.heap.size < w1.heap.size := by omega); (have hz1 : w.heap.size + 1 < w1.heap.size := by omega); (try (have hywS : wS.heap.size < w1.heap.size := by omega)); clear hb1))
      go_ret
      exact ⟨by rw [HE.out]; rfl, by repeat (first | with_reducible exact Below.refl _ _ | (with_reducible refine below_step ?_ (by assumption) (by first | omega | (simp; done) | (simp <;> omega))) | (with_reducible refine Below.alloc ?_ (by first | omega | (simp; done) | (simp <;> omega)) _) | (with_reducible refine Below.setCell ?_ (by first | omega | (simp; done) | (simp <;> omega)) _) | (with_reducible refine Below.drew ?_) | (with_reducible refine below_dN ?_ _) | (refine Below.alloc ?_ (by first | omega | (simp; done) | (simp <;> omega)) _))⟩
  · have h0 : (mIsPattern p) = false := by simpa using h0
    have HE := Lib.hid (show mMatchSite p s = false by simp [mMatchSite, h0])
    go_enter Tryz.func130, Tryz.ntmps130
    go_wp2_with (first | (go_at_call 155; refine (impl_IsPattern _ _).mono ?_; rintro e w1 ⟨rfl, hb1⟩; obtain ⟨hc1, hf1⟩ := bcell hb1; have HB1 := Lib.hid hb1; have hs1 := hb1.size; (try simp at hs1); (have hz0 : w.heap.size < w1.heap.size := by omega); (have hz1 : w.heap.size + 1 < w1.heap.size := by omega); (try (have hywS : wS.heap.size < w1.heap.size := by omega)); clear hb1) | (go_at_call 157; refine (impl_IsSite _ _).mono ?_; rintro e w1 ⟨rfl, hb1⟩; obtain ⟨hc1, hf1⟩ := bcell hb1; have HB1 := Lib.hid hb1; have hs1 := hb1.size; (try simp at hs1); (have hz0 : w.heap.size < w1.heap.size := by omega); (have hz1 : w.heap.size + 1 < w1.heap.size := by omega); (try (have hywS : wS.heap.size < w1.heap.size := by omega)); clear hb1) | (go_at_call 156; refine (impl_scopeOf p _).mono ?_; rintro e wS ⟨rfl, hb1⟩; obtain ⟨hc1, hf1⟩ := bcell hb1; have HB1 := Lib.hid hb1; have hs1 := hb1.size; (try simp at hs1); (have hz0 : w.heap.size < wS.heap.size := by omega); (have hz1 : w.heap.size + 1 < wS.heap.size := by omega); clear hb1) | (go_at_call 129; refine (impl_takes _ _ _ _).mono ?_; rintro e w1 ⟨rfl, hb1⟩; obtain ⟨hc1, hf1⟩ := bcell hb1; have HB1 := Lib.hid hb1; have hs1 := hb1.size; (try simp at hs1); (have hz0 : w.heap.size < w1.heap.size := by omega); (have hz1 : w.heap.size + 1 < w1.heap.size := by omega); (try (have hywS : wS.heap.size < w1.heap.size := by omega)); clear hb1))
    go_ret
    exact ⟨by rw [HE.out]; rfl, by repeat (first | with_reducible exact Below.refl _ _ | (with_reducible refine below_step ?_ (by assumption) (by first | omega | (simp; done) | (simp <;> omega))) | (with_reducible refine Below.alloc ?_ (by first | omega | (simp; done) | (simp <;> omega)) _) | (with_reducible refine Below.setCell ?_ (by first | omega | (simp; done) | (simp <;> omega)) _) | (with_reducible refine Below.drew ?_) | (with_reducible refine below_dN ?_ _) | (refine Below.alloc ?_ (by first | omega | (simp; done) | (simp <;> omega)) _))⟩

end Go.Proofs.YtjgcgipglmhgeaaGreat
namespace Go.Proofs.YtjgcgipglmhgeaaGreat
open Go Go.ChangeShapes Go.WideShapes Go.ChangeAt Go.RowKit Go.Lib
set_option linter.unusedVariables false
set_option linter.unusedSimpArgs false
set_option maxRecDepth 100000
abbrev vLimit (x : TLimit) : Value := .agg #[.int .i64 x.f0, .int .i64 x.f1, .int .i64 x.f2, .int .i64 x.f3]
def mIsLimit (x : TLimit) : Bool := inR x.f0 0 5 && mIsPattern ⟨x.f1, x.f2⟩ && inR x.f3 0 4

set_option maxHeartbeats 40000000 in
theorem spec_IsLimit (x : TLimit) (w : World) :
    Calls Tryz.prog 112 #[vLimit x] w (Says (.bool (mIsLimit x)) w) := by
  by_cases h0 : (inR x.f0 0 5) = true
  · skip
    by_cases h1 : (mIsPattern ⟨x.f1, x.f2⟩) = true
    · skip
      by_cases h2 : (inR x.f3 0 4) = true
      · skip
        have HE := Lib.hid (show mIsLimit x = true by simp [mIsLimit, h0, h1, h2])
        go_enter Tryz.func112, Tryz.ntmps112
        go_wp2_with (first | (go_at_call 47; refine (spec_in _ _ _ _).mono ?_; rintro e w1 ⟨rfl, rfl⟩) | (go_at_call 140; refine (spec_IsPattern ⟨x.f1, x.f2⟩ _).mono ?_; rintro e w1 ⟨rfl, hb1⟩; obtain ⟨hc1, hf1⟩ := bcell hb1; have HB1 := Lib.hid hb1; have hs1 := hb1.size; (try simp at hs1); (have hz0 : w.heap.size < w1.heap.size := by omega); clear hb1))
        go_ret
        exact ⟨by rw [HE.out]; rfl, by repeat (first | with_reducible exact Below.refl _ _ | (with_reducible refine below_step ?_ (by assumption) (by first | omega | (simp; done) | (simp <;> omega))) | (with_reducible refine Below.alloc ?_ (by first | omega | (simp; done) | (simp <;> omega)) _) | (with_reducible refine Below.setCell ?_ (by first | omega | (simp; done) | (simp <;> omega)) _) | (with_reducible refine Below.drew ?_) | (with_reducible refine below_dN ?_ _) | (refine Below.alloc ?_ (by first | omega | (simp; done) | (simp <;> omega)) _))⟩
      · have h2 : (inR x.f3 0 4) = false := by simpa using h2
        have HE := Lib.hid (show mIsLimit x = false by simp [mIsLimit, h0, h1, h2])
        go_enter Tryz.func112, Tryz.ntmps112
        go_wp2_with (first | (go_at_call 47; refine (spec_in _ _ _ _).mono ?_; rintro e w1 ⟨rfl, rfl⟩) | (go_at_call 140; refine (spec_IsPattern ⟨x.f1, x.f2⟩ _).mono ?_; rintro e w1 ⟨rfl, hb1⟩; obtain ⟨hc1, hf1⟩ := bcell hb1; have HB1 := Lib.hid hb1; have hs1 := hb1.size; (try simp at hs1); (have hz0 : w.heap.size < w1.heap.size := by omega); clear hb1))
        go_ret
        exact ⟨by rw [HE.out]; rfl, by repeat (first | with_reducible exact Below.refl _ _ | (with_reducible refine below_step ?_ (by assumption) (by first | omega | (simp; done) | (simp <;> omega))) | (with_reducible refine Below.alloc ?_ (by first | omega | (simp; done) | (simp <;> omega)) _) | (with_reducible refine Below.setCell ?_ (by first | omega | (simp; done) | (simp <;> omega)) _) | (with_reducible refine Below.drew ?_) | (with_reducible refine below_dN ?_ _) | (refine Below.alloc ?_ (by first | omega | (simp; done) | (simp <;> omega)) _))⟩
    · have h1 : (mIsPattern ⟨x.f1, x.f2⟩) = false := by simpa using h1
      have HE := Lib.hid (show mIsLimit x = false by simp [mIsLimit, h0, h1])
      go_enter Tryz.func112, Tryz.ntmps112
      go_wp2_with (first | (go_at_call 47; refine (spec_in _ _ _ _).mono ?_; rintro e w1 ⟨rfl, rfl⟩) | (go_at_call 140; refine (spec_IsPattern ⟨x.f1, x.f2⟩ _).mono ?_; rintro e w1 ⟨rfl, hb1⟩; obtain ⟨hc1, hf1⟩ := bcell hb1; have HB1 := Lib.hid hb1; have hs1 := hb1.size; (try simp at hs1); (have hz0 : w.heap.size < w1.heap.size := by omega); clear hb1))
      go_ret
      exact ⟨by rw [HE.out]; rfl, by repeat (first | with_reducible exact Below.refl _ _ | (with_reducible refine below_step ?_ (by assumption) (by first | omega | (simp; done) | (simp <;> omega))) | (with_reducible refine Below.alloc ?_ (by first | omega | (simp; done) | (simp <;> omega)) _) | (with_reducible refine Below.setCell ?_ (by first | omega | (simp; done) | (simp <;> omega)) _) | (with_reducible refine Below.drew ?_) | (with_reducible refine below_dN ?_ _) | (refine Below.alloc ?_ (by first | omega | (simp; done) | (simp <;> omega)) _))⟩
  · have h0 : (inR x.f0 0 5) = false := by simpa using h0
    have HE := Lib.hid (show mIsLimit x = false by simp [mIsLimit, h0])
    go_enter Tryz.func112, Tryz.ntmps112
    go_wp2_with (first | (go_at_call 47; refine (spec_in _ _ _ _).mono ?_; rintro e w1 ⟨rfl, rfl⟩) | (go_at_call 140; refine (spec_IsPattern ⟨x.f1, x.f2⟩ _).mono ?_; rintro e w1 ⟨rfl, hb1⟩; obtain ⟨hc1, hf1⟩ := bcell hb1; have HB1 := Lib.hid hb1; have hs1 := hb1.size; (try simp at hs1); (have hz0 : w.heap.size < w1.heap.size := by omega); clear hb1))
    go_ret
    exact ⟨by rw [HE.out]; rfl, by repeat (first | with_reducible exact Below.refl _ _ | (with_reducible refine below_step ?_ (by assumption) (by first | omega | (simp; done) | (simp <;> omega))) | (with_reducible refine Below.alloc ?_ (by first | omega | (simp; done) | (simp <;> omega)) _) | (with_reducible refine Below.setCell ?_ (by first | omega | (simp; done) | (simp <;> omega)) _) | (with_reducible refine Below.drew ?_) | (with_reducible refine below_dN ?_ _) | (refine Below.alloc ?_ (by first | omega | (simp; done) | (simp <;> omega)) _))⟩

set_option maxHeartbeats 40000000 in
theorem impl_IsLimit (x : TLimit) (w : World) :
    Calls Tryz.prog 127 #[vLimit x] w (Says (.bool (mIsLimit x)) w) := by
  by_cases h0 : (inR x.f0 0 5) = true
  · skip
    by_cases h1 : (mIsPattern ⟨x.f1, x.f2⟩) = true
    · skip
      by_cases h2 : (inR x.f3 0 4) = true
      · skip
        have HE := Lib.hid (show mIsLimit x = true by simp [mIsLimit, h0, h1, h2])
        go_enter Tryz.func127, Tryz.ntmps127
        go_wp2_with (first | (go_at_call 93; refine (impl_in _ _ _ _).mono ?_; rintro e w1 ⟨rfl, rfl⟩) | (go_at_call 155; refine (impl_IsPattern ⟨x.f1, x.f2⟩ _).mono ?_; rintro e w1 ⟨rfl, hb1⟩; obtain ⟨hc1, hf1⟩ := bcell hb1; have HB1 := Lib.hid hb1; have hs1 := hb1.size; (try simp at hs1); (have hz0 : w.heap.size < w1.heap.size := by omega); clear hb1))
        go_ret
        exact ⟨by rw [HE.out]; rfl, by repeat (first | with_reducible exact Below.refl _ _ | (with_reducible refine below_step ?_ (by assumption) (by first | omega | (simp; done) | (simp <;> omega))) | (with_reducible refine Below.alloc ?_ (by first | omega | (simp; done) | (simp <;> omega)) _) | (with_reducible refine Below.setCell ?_ (by first | omega | (simp; done) | (simp <;> omega)) _) | (with_reducible refine Below.drew ?_) | (with_reducible refine below_dN ?_ _) | (refine Below.alloc ?_ (by first | omega | (simp; done) | (simp <;> omega)) _))⟩
      · have h2 : (inR x.f3 0 4) = false := by simpa using h2
        have HE := Lib.hid (show mIsLimit x = false by simp [mIsLimit, h0, h1, h2])
        go_enter Tryz.func127, Tryz.ntmps127
        go_wp2_with (first | (go_at_call 93; refine (impl_in _ _ _ _).mono ?_; rintro e w1 ⟨rfl, rfl⟩) | (go_at_call 155; refine (impl_IsPattern ⟨x.f1, x.f2⟩ _).mono ?_; rintro e w1 ⟨rfl, hb1⟩; obtain ⟨hc1, hf1⟩ := bcell hb1; have HB1 := Lib.hid hb1; have hs1 := hb1.size; (try simp at hs1); (have hz0 : w.heap.size < w1.heap.size := by omega); clear hb1))
        go_ret
        exact ⟨by rw [HE.out]; rfl, by repeat (first | with_reducible exact Below.refl _ _ | (with_reducible refine below_step ?_ (by assumption) (by first | omega | (simp; done) | (simp <;> omega))) | (with_reducible refine Below.alloc ?_ (by first | omega | (simp; done) | (simp <;> omega)) _) | (with_reducible refine Below.setCell ?_ (by first | omega | (simp; done) | (simp <;> omega)) _) | (with_reducible refine Below.drew ?_) | (with_reducible refine below_dN ?_ _) | (refine Below.alloc ?_ (by first | omega | (simp; done) | (simp <;> omega)) _))⟩
    · have h1 : (mIsPattern ⟨x.f1, x.f2⟩) = false := by simpa using h1
      have HE := Lib.hid (show mIsLimit x = false by simp [mIsLimit, h0, h1])
      go_enter Tryz.func127, Tryz.ntmps127
      go_wp2_with (first | (go_at_call 93; refine (impl_in _ _ _ _).mono ?_; rintro e w1 ⟨rfl, rfl⟩) | (go_at_call 155; refine (impl_IsPattern ⟨x.f1, x.f2⟩ _).mono ?_; rintro e w1 ⟨rfl, hb1⟩; obtain ⟨hc1, hf1⟩ := bcell hb1; have HB1 := Lib.hid hb1; have hs1 := hb1.size; (try simp at hs1); (have hz0 : w.heap.size < w1.heap.size := by omega); clear hb1))
      go_ret
      exact ⟨by rw [HE.out]; rfl, by repeat (first | with_reducible exact Below.refl _ _ | (with_reducible refine below_step ?_ (by assumption) (by first | omega | (simp; done) | (simp <;> omega))) | (with_reducible refine Below.alloc ?_ (by first | omega | (simp; done) | (simp <;> omega)) _) | (with_reducible refine Below.setCell ?_ (by first | omega | (simp; done) | (simp <;> omega)) _) | (with_reducible refine Below.drew ?_) | (with_reducible refine below_dN ?_ _) | (refine Below.alloc ?_ (by first | omega | (simp; done) | (simp <;> omega)) _))⟩
  · have h0 : (inR x.f0 0 5) = false := by simpa using h0
    have HE := Lib.hid (show mIsLimit x = false by simp [mIsLimit, h0])
    go_enter Tryz.func127, Tryz.ntmps127
    go_wp2_with (first | (go_at_call 93; refine (impl_in _ _ _ _).mono ?_; rintro e w1 ⟨rfl, rfl⟩) | (go_at_call 155; refine (impl_IsPattern ⟨x.f1, x.f2⟩ _).mono ?_; rintro e w1 ⟨rfl, hb1⟩; obtain ⟨hc1, hf1⟩ := bcell hb1; have HB1 := Lib.hid hb1; have hs1 := hb1.size; (try simp at hs1); (have hz0 : w.heap.size < w1.heap.size := by omega); clear hb1))
    go_ret
    exact ⟨by rw [HE.out]; rfl, by repeat (first | with_reducible exact Below.refl _ _ | (with_reducible refine below_step ?_ (by assumption) (by first | omega | (simp; done) | (simp <;> omega))) | (with_reducible refine Below.alloc ?_ (by first | omega | (simp; done) | (simp <;> omega)) _) | (with_reducible refine Below.setCell ?_ (by first | omega | (simp; done) | (simp <;> omega)) _) | (with_reducible refine Below.drew ?_) | (with_reducible refine below_dN ?_ _) | (refine Below.alloc ?_ (by first | omega | (simp; done) | (simp <;> omega)) _))⟩
end Go.Proofs.YtjgcgipglmhgeaaGreat
namespace Go.Proofs.YtjgcgipglmhgeaaGreat
open Go Go.ChangeShapes Go.WideShapes Go.ChangeAt Go.RowKit Go.Lib
set_option linter.unusedVariables false
set_option linter.unusedSimpArgs false
set_option maxRecDepth 100000
abbrev vGrant (x : TGrant) : Value := .agg #[.int .i64 x.f0, .int .i64 x.f1, .int .i64 x.f2, .int .i64 x.f3, .int .i64 x.f4, .int .i64 x.f5, .bool x.f6]
def mIsGrant (g : TGrant) : Bool := inR g.f0 1 5 && mIsPattern ⟨g.f1, g.f2⟩ && inR g.f3 1 4 && decide (0 ≤ g.f4) && decide (g.f4 ≤ g.f5) && decide (g.f5 ≤ 10000)
def mCovers (g : TGrant) (ext : Int) (s : TSite) (kind tick : Int) (clicked : Bool) : Bool :=
  mIsGrant g && g.f0 == ext && g.f3 == kind && mMatchSite ⟨g.f1, g.f2⟩ s && inR tick g.f4 g.f5 && (clicked || !g.f6)

set_option maxHeartbeats 40000000 in
theorem spec_IsGrant (g : TGrant) (w : World) :
    Calls Tryz.prog 139 #[vGrant g] w (Says (.bool (mIsGrant g)) w) := by
  by_cases h0 : (inR g.f0 1 5) = true
  · skip
    by_cases h1 : (mIsPattern ⟨g.f1, g.f2⟩) = true
    · skip
      by_cases h2 : (inR g.f3 1 4) = true
      · skip
        by_cases h3 : (decide (0 ≤ g.f4)) = true
        · skip
          by_cases h4 : (decide (g.f4 ≤ g.f5)) = true
          · skip
            by_cases h5 : (decide (g.f5 ≤ 10000)) = true
            · skip
              have HE := Lib.hid (show mIsGrant g = true by simp [mIsGrant, h0, h1, h2, h3, h4, h5])
              go_enter Tryz.func139, Tryz.ntmps139
              go_wp2_with (first | (go_at_call 47; refine (spec_in _ _ _ _).mono ?_; rintro e w1 ⟨rfl, rfl⟩) | (go_at_call 140; refine (spec_IsPattern ⟨g.f1, g.f2⟩ _).mono ?_; rintro e w1 ⟨rfl, hb1⟩; obtain ⟨hc1, hf1⟩ := bcell hb1; have HB1 := Lib.hid hb1; have hs1 := hb1.size; (try simp at hs1); (have hz0 : w.heap.size < w1.heap.size := by omega); clear hb1))
              go_ret
              exact ⟨by rw [HE.out]; rfl, by repeat (first | with_reducible exact Below.refl _ _ | (with_reducible refine below_step ?_ (by assumption) (by first | omega | (simp; done) | (simp <;> omega))) | (with_reducible refine Below.alloc ?_ (by first | omega | (simp; done) | (simp <;> omega)) _) | (with_reducible refine Below.setCell ?_ (by first | omega | (simp; done) | (simp <;> omega)) _) | (with_reducible refine Below.drew ?_) | (with_reducible refine below_dN ?_ _) | (refine Below.alloc ?_ (by first | omega | (simp; done) | (simp <;> omega)) _))⟩
            · have h5 : (decide (g.f5 ≤ 10000)) = false := by simpa using h5
              have HE := Lib.hid (show mIsGrant g = false by simp [mIsGrant, h0, h1, h2, h3, h4, h5])
              go_enter Tryz.func139, Tryz.ntmps139
              go_wp2_with (first | (go_at_call 47; refine (spec_in _ _ _ _).mono ?_; rintro e w1 ⟨rfl, rfl⟩) | (go_at_call 140; refine (spec_IsPattern ⟨g.f1, g.f2⟩ _).mono ?_; rintro e w1 ⟨rfl, hb1⟩; obtain ⟨hc1, hf1⟩ := bcell hb1; have HB1 := Lib.hid hb1; have hs1 := hb1.size; (try simp at hs1); (have hz0 : w.heap.size < w1.heap.size := by omega); clear hb1))
              go_ret
              exact ⟨by rw [HE.out]; rfl, by repeat (first | with_reducible exact Below.refl _ _ | (with_reducible refine below_step ?_ (by assumption) (by first | omega | (simp; done) | (simp <;> omega))) | (with_reducible refine Below.alloc ?_ (by first | omega | (simp; done) | (simp <;> omega)) _) | (with_reducible refine Below.setCell ?_ (by first | omega | (simp; done) | (simp <;> omega)) _) | (with_reducible refine Below.drew ?_) | (with_reducible refine below_dN ?_ _) | (refine Below.alloc ?_ (by first | omega | (simp; done) | (simp <;> omega)) _))⟩
          · have h4 : (decide (g.f4 ≤ g.f5)) = false := by simpa using h4
            have HE := Lib.hid (show mIsGrant g = false by simp [mIsGrant, h0, h1, h2, h3, h4])
            go_enter Tryz.func139, Tryz.ntmps139
            go_wp2_with (first | (go_at_call 47; refine (spec_in _ _ _ _).mono ?_; rintro e w1 ⟨rfl, rfl⟩) | (go_at_call 140; refine (spec_IsPattern ⟨g.f1, g.f2⟩ _).mono ?_; rintro e w1 ⟨rfl, hb1⟩; obtain ⟨hc1, hf1⟩ := bcell hb1; have HB1 := Lib.hid hb1; have hs1 := hb1.size; (try simp at hs1); (have hz0 : w.heap.size < w1.heap.size := by omega); clear hb1))
            go_ret
            exact ⟨by rw [HE.out]; rfl, by repeat (first | with_reducible exact Below.refl _ _ | (with_reducible refine below_step ?_ (by assumption) (by first | omega | (simp; done) | (simp <;> omega))) | (with_reducible refine Below.alloc ?_ (by first | omega | (simp; done) | (simp <;> omega)) _) | (with_reducible refine Below.setCell ?_ (by first | omega | (simp; done) | (simp <;> omega)) _) | (with_reducible refine Below.drew ?_) | (with_reducible refine below_dN ?_ _) | (refine Below.alloc ?_ (by first | omega | (simp; done) | (simp <;> omega)) _))⟩
        · have h3 : (decide (0 ≤ g.f4)) = false := by simpa using h3
          have HE := Lib.hid (show mIsGrant g = false by simp [mIsGrant, h0, h1, h2, h3])
          go_enter Tryz.func139, Tryz.ntmps139
          go_wp2_with (first | (go_at_call 47; refine (spec_in _ _ _ _).mono ?_; rintro e w1 ⟨rfl, rfl⟩) | (go_at_call 140; refine (spec_IsPattern ⟨g.f1, g.f2⟩ _).mono ?_; rintro e w1 ⟨rfl, hb1⟩; obtain ⟨hc1, hf1⟩ := bcell hb1; have HB1 := Lib.hid hb1; have hs1 := hb1.size; (try simp at hs1); (have hz0 : w.heap.size < w1.heap.size := by omega); clear hb1))
          go_ret
          exact ⟨by rw [HE.out]; rfl, by repeat (first | with_reducible exact Below.refl _ _ | (with_reducible refine below_step ?_ (by assumption) (by first | omega | (simp; done) | (simp <;> omega))) | (with_reducible refine Below.alloc ?_ (by first | omega | (simp; done) | (simp <;> omega)) _) | (with_reducible refine Below.setCell ?_ (by first | omega | (simp; done) | (simp <;> omega)) _) | (with_reducible refine Below.drew ?_) | (with_reducible refine below_dN ?_ _) | (refine Below.alloc ?_ (by first | omega | (simp; done) | (simp <;> omega)) _))⟩
      · have h2 : (inR g.f3 1 4) = false := by simpa using h2
        have HE := Lib.hid (show mIsGrant g = false by simp [mIsGrant, h0, h1, h2])
        go_enter Tryz.func139, Tryz.ntmps139
        go_wp2_with (first | (go_at_call 47; refine (spec_in _ _ _ _).mono ?_; rintro e w1 ⟨rfl, rfl⟩) | (go_at_call 140; refine (spec_IsPattern ⟨g.f1, g.f2⟩ _).mono ?_; rintro e w1 ⟨rfl, hb1⟩; obtain ⟨hc1, hf1⟩ := bcell hb1; have HB1 := Lib.hid hb1; have hs1 := hb1.size; (try simp at hs1); (have hz0 : w.heap.size < w1.heap.size := by omega); clear hb1))
        go_ret
        exact ⟨by rw [HE.out]; rfl, by repeat (first | with_reducible exact Below.refl _ _ | (with_reducible refine below_step ?_ (by assumption) (by first | omega | (simp; done) | (simp <;> omega))) | (with_reducible refine Below.alloc ?_ (by first | omega | (simp; done) | (simp <;> omega)) _) | (with_reducible refine Below.setCell ?_ (by first | omega | (simp; done) | (simp <;> omega)) _) | (with_reducible refine Below.drew ?_) | (with_reducible refine below_dN ?_ _) | (refine Below.alloc ?_ (by first | omega | (simp; done) | (simp <;> omega)) _))⟩
    · have h1 : (mIsPattern ⟨g.f1, g.f2⟩) = false := by simpa using h1
      have HE := Lib.hid (show mIsGrant g = false by simp [mIsGrant, h0, h1])
      go_enter Tryz.func139, Tryz.ntmps139
      go_wp2_with (first | (go_at_call 47; refine (spec_in _ _ _ _).mono ?_; rintro e w1 ⟨rfl, rfl⟩) | (go_at_call 140; refine (spec_IsPattern ⟨g.f1, g.f2⟩ _).mono ?_; rintro e w1 ⟨rfl, hb1⟩; obtain ⟨hc1, hf1⟩ := bcell hb1; have HB1 := Lib.hid hb1; have hs1 := hb1.size; (try simp at hs1); (have hz0 : w.heap.size < w1.heap.size := by omega); clear hb1))
      go_ret
      exact ⟨by rw [HE.out]; rfl, by repeat (first | with_reducible exact Below.refl _ _ | (with_reducible refine below_step ?_ (by assumption) (by first | omega | (simp; done) | (simp <;> omega))) | (with_reducible refine Below.alloc ?_ (by first | omega | (simp; done) | (simp <;> omega)) _) | (with_reducible refine Below.setCell ?_ (by first | omega | (simp; done) | (simp <;> omega)) _) | (with_reducible refine Below.drew ?_) | (with_reducible refine below_dN ?_ _) | (refine Below.alloc ?_ (by first | omega | (simp; done) | (simp <;> omega)) _))⟩
  · have h0 : (inR g.f0 1 5) = false := by simpa using h0
    have HE := Lib.hid (show mIsGrant g = false by simp [mIsGrant, h0])
    go_enter Tryz.func139, Tryz.ntmps139
    go_wp2_with (first | (go_at_call 47; refine (spec_in _ _ _ _).mono ?_; rintro e w1 ⟨rfl, rfl⟩) | (go_at_call 140; refine (spec_IsPattern ⟨g.f1, g.f2⟩ _).mono ?_; rintro e w1 ⟨rfl, hb1⟩; obtain ⟨hc1, hf1⟩ := bcell hb1; have HB1 := Lib.hid hb1; have hs1 := hb1.size; (try simp at hs1); (have hz0 : w.heap.size < w1.heap.size := by omega); clear hb1))
    go_ret
    exact ⟨by rw [HE.out]; rfl, by repeat (first | with_reducible exact Below.refl _ _ | (with_reducible refine below_step ?_ (by assumption) (by first | omega | (simp; done) | (simp <;> omega))) | (with_reducible refine Below.alloc ?_ (by first | omega | (simp; done) | (simp <;> omega)) _) | (with_reducible refine Below.setCell ?_ (by first | omega | (simp; done) | (simp <;> omega)) _) | (with_reducible refine Below.drew ?_) | (with_reducible refine below_dN ?_ _) | (refine Below.alloc ?_ (by first | omega | (simp; done) | (simp <;> omega)) _))⟩

set_option maxHeartbeats 40000000 in
theorem spec_Covers (g : TGrant) (ext : Int) (s : TSite) (kind tick : Int) (clicked : Bool) (w : World) :
    Calls Tryz.prog 111 #[vGrant g, .int .i64 ext, vSite s, .int .i64 kind, .int .i64 tick, .bool clicked] w (Says (.bool (mCovers g ext s kind tick clicked)) w) := by
  by_cases h0 : (mIsGrant g) = true
  · skip
    by_cases h1 : (g.f0 == ext) = true
    · skip
      by_cases h2 : (g.f3 == kind) = true
      · skip
        by_cases h3 : (mMatchSite ⟨g.f1, g.f2⟩ s) = true
        · skip
          by_cases h4 : (inR tick g.f4 g.f5) = true
          · skip
            cases clicked
            · skip
              have HE := Lib.hid (show mCovers g ext s kind tick false = (!g.f6) by simp [mCovers, h0, h1, h2, h3, h4])
              go_enter Tryz.func111, Tryz.ntmps111
              go_wp2_with (first | (go_at_call 47; refine (spec_in _ _ _ _).mono ?_; rintro e w1 ⟨rfl, rfl⟩) | (go_at_call 139; refine (spec_IsGrant g _).mono ?_; rintro e w1 ⟨rfl, hb1⟩; obtain ⟨hc1, hf1⟩ := bcell hb1; have HB1 := Lib.hid hb1; have hs1 := hb1.size; (try simp at hs1); (have hz0 : w.heap.size < w1.heap.size := by omega); (have hz1 : w.heap.size + 1 < w1.heap.size := by omega); clear hb1) | (go_at_call 113; refine (spec_MatchSite ⟨g.f1, g.f2⟩ s _).mono ?_; rintro e w1 ⟨rfl, hb1⟩; obtain ⟨hc1, hf1⟩ := bcell hb1; have HB1 := Lib.hid hb1; have hs1 := hb1.size; (try simp at hs1); (have hz0 : w.heap.size < w1.heap.size := by omega); (have hz1 : w.heap.size + 1 < w1.heap.size := by omega); clear hb1))
              go_ret
              exact ⟨by rw [HE.out]; rfl, by repeat (first | with_reducible exact Below.refl _ _ | (with_reducible refine below_step ?_ (by assumption) (by first | omega | (simp; done) | (simp <;> omega))) | (with_reducible refine Below.alloc ?_ (by first | omega | (simp; done) | (simp <;> omega)) _) | (with_reducible refine Below.setCell ?_ (by first | omega | (simp; done) | (simp <;> omega)) _) | (with_reducible refine Below.drew ?_) | (with_reducible refine below_dN ?_ _) | (refine Below.alloc ?_ (by first | omega | (simp; done) | (simp <;> omega)) _))⟩
            · skip
              have HE := Lib.hid (show mCovers g ext s kind tick true = true by simp [mCovers, h0, h1, h2, h3, h4])
              go_enter Tryz.func111, Tryz.ntmps111
              go_wp2_with (first | (go_at_call 47; refine (spec_in _ _ _ _).mono ?_; rintro e w1 ⟨rfl, rfl⟩) | (go_at_call 139; refine (spec_IsGrant g _).mono ?_; rintro e w1 ⟨rfl, hb1⟩; obtain ⟨hc1, hf1⟩ := bcell hb1; have HB1 := Lib.hid hb1; have hs1 := hb1.size; (try simp at hs1); (have hz0 : w.heap.size < w1.heap.size := by omega); (have hz1 : w.heap.size + 1 < w1.heap.size := by omega); clear hb1) | (go_at_call 113; refine (spec_MatchSite ⟨g.f1, g.f2⟩ s _).mono ?_; rintro e w1 ⟨rfl, hb1⟩; obtain ⟨hc1, hf1⟩ := bcell hb1; have HB1 := Lib.hid hb1; have hs1 := hb1.size; (try simp at hs1); (have hz0 : w.heap.size < w1.heap.size := by omega); (have hz1 : w.heap.size + 1 < w1.heap.size := by omega); clear hb1))
              go_ret
              exact ⟨by rw [HE.out]; rfl, by repeat (first | with_reducible exact Below.refl _ _ | (with_reducible refine below_step ?_ (by assumption) (by first | omega | (simp; done) | (simp <;> omega))) | (with_reducible refine Below.alloc ?_ (by first | omega | (simp; done) | (simp <;> omega)) _) | (with_reducible refine Below.setCell ?_ (by first | omega | (simp; done) | (simp <;> omega)) _) | (with_reducible refine Below.drew ?_) | (with_reducible refine below_dN ?_ _) | (refine Below.alloc ?_ (by first | omega | (simp; done) | (simp <;> omega)) _))⟩
          · have h4 : (inR tick g.f4 g.f5) = false := by simpa using h4
            have HE := Lib.hid (show mCovers g ext s kind tick clicked = false by simp [mCovers, h0, h1, h2, h3, h4])
            go_enter Tryz.func111, Tryz.ntmps111
            go_wp2_with (first | (go_at_call 47; refine (spec_in _ _ _ _).mono ?_; rintro e w1 ⟨rfl, rfl⟩) | (go_at_call 139; refine (spec_IsGrant g _).mono ?_; rintro e w1 ⟨rfl, hb1⟩; obtain ⟨hc1, hf1⟩ := bcell hb1; have HB1 := Lib.hid hb1; have hs1 := hb1.size; (try simp at hs1); (have hz0 : w.heap.size < w1.heap.size := by omega); (have hz1 : w.heap.size + 1 < w1.heap.size := by omega); clear hb1) | (go_at_call 113; refine (spec_MatchSite ⟨g.f1, g.f2⟩ s _).mono ?_; rintro e w1 ⟨rfl, hb1⟩; obtain ⟨hc1, hf1⟩ := bcell hb1; have HB1 := Lib.hid hb1; have hs1 := hb1.size; (try simp at hs1); (have hz0 : w.heap.size < w1.heap.size := by omega); (have hz1 : w.heap.size + 1 < w1.heap.size := by omega); clear hb1))
            go_ret
            exact ⟨by rw [HE.out]; rfl, by repeat (first | with_reducible exact Below.refl _ _ | (with_reducible refine below_step ?_ (by assumption) (by first | omega | (simp; done) | (simp <;> omega))) | (with_reducible refine Below.alloc ?_ (by first | omega | (simp; done) | (simp <;> omega)) _) | (with_reducible refine Below.setCell ?_ (by first | omega | (simp; done) | (simp <;> omega)) _) | (with_reducible refine Below.drew ?_) | (with_reducible refine below_dN ?_ _) | (refine Below.alloc ?_ (by first | omega | (simp; done) | (simp <;> omega)) _))⟩
        · have h3 : (mMatchSite ⟨g.f1, g.f2⟩ s) = false := by simpa using h3
          have HE := Lib.hid (show mCovers g ext s kind tick clicked = false by simp [mCovers, h0, h1, h2, h3])
          go_enter Tryz.func111, Tryz.ntmps111
          go_wp2_with (first | (go_at_call 47; refine (spec_in _ _ _ _).mono ?_; rintro e w1 ⟨rfl, rfl⟩) | (go_at_call 139; refine (spec_IsGrant g _).mono ?_; rintro e w1 ⟨rfl, hb1⟩; obtain ⟨hc1, hf1⟩ := bcell hb1; have HB1 := Lib.hid hb1; have hs1 := hb1.size; (try simp at hs1); (have hz0 : w.heap.size < w1.heap.size := by omega); (have hz1 : w.heap.size + 1 < w1.heap.size := by omega); clear hb1) | (go_at_call 113; refine (spec_MatchSite ⟨g.f1, g.f2⟩ s _).mono ?_; rintro e w1 ⟨rfl, hb1⟩; obtain ⟨hc1, hf1⟩ := bcell hb1; have HB1 := Lib.hid hb1; have hs1 := hb1.size; (try simp at hs1); (have hz0 : w.heap.size < w1.heap.size := by omega); (have hz1 : w.heap.size + 1 < w1.heap.size := by omega); clear hb1))
          go_ret
          exact ⟨by rw [HE.out]; rfl, by repeat (first | with_reducible exact Below.refl _ _ | (with_reducible refine below_step ?_ (by assumption) (by first | omega | (simp; done) | (simp <;> omega))) | (with_reducible refine Below.alloc ?_ (by first | omega | (simp; done) | (simp <;> omega)) _) | (with_reducible refine Below.setCell ?_ (by first | omega | (simp; done) | (simp <;> omega)) _) | (with_reducible refine Below.drew ?_) | (with_reducible refine below_dN ?_ _) | (refine Below.alloc ?_ (by first | omega | (simp; done) | (simp <;> omega)) _))⟩
      · have h2 : (g.f3 == kind) = false := by simpa using h2
        have HE := Lib.hid (show mCovers g ext s kind tick clicked = false by simp [mCovers, h0, h1, h2])
        go_enter Tryz.func111, Tryz.ntmps111
        go_wp2_with (first | (go_at_call 47; refine (spec_in _ _ _ _).mono ?_; rintro e w1 ⟨rfl, rfl⟩) | (go_at_call 139; refine (spec_IsGrant g _).mono ?_; rintro e w1 ⟨rfl, hb1⟩; obtain ⟨hc1, hf1⟩ := bcell hb1; have HB1 := Lib.hid hb1; have hs1 := hb1.size; (try simp at hs1); (have hz0 : w.heap.size < w1.heap.size := by omega); (have hz1 : w.heap.size + 1 < w1.heap.size := by omega); clear hb1) | (go_at_call 113; refine (spec_MatchSite ⟨g.f1, g.f2⟩ s _).mono ?_; rintro e w1 ⟨rfl, hb1⟩; obtain ⟨hc1, hf1⟩ := bcell hb1; have HB1 := Lib.hid hb1; have hs1 := hb1.size; (try simp at hs1); (have hz0 : w.heap.size < w1.heap.size := by omega); (have hz1 : w.heap.size + 1 < w1.heap.size := by omega); clear hb1))
        go_ret
        exact ⟨by rw [HE.out]; rfl, by repeat (first | with_reducible exact Below.refl _ _ | (with_reducible refine below_step ?_ (by assumption) (by first | omega | (simp; done) | (simp <;> omega))) | (with_reducible refine Below.alloc ?_ (by first | omega | (simp; done) | (simp <;> omega)) _) | (with_reducible refine Below.setCell ?_ (by first | omega | (simp; done) | (simp <;> omega)) _) | (with_reducible refine Below.drew ?_) | (with_reducible refine below_dN ?_ _) | (refine Below.alloc ?_ (by first | omega | (simp; done) | (simp <;> omega)) _))⟩
    · have h1 : (g.f0 == ext) = false := by simpa using h1
      have HE := Lib.hid (show mCovers g ext s kind tick clicked = false by simp [mCovers, h0, h1])
      go_enter Tryz.func111, Tryz.ntmps111
      go_wp2_with (first | (go_at_call 47; refine (spec_in _ _ _ _).mono ?_; rintro e w1 ⟨rfl, rfl⟩) | (go_at_call 139; refine (spec_IsGrant g _).mono ?_; rintro e w1 ⟨rfl, hb1⟩; obtain ⟨hc1, hf1⟩ := bcell hb1; have HB1 := Lib.hid hb1; have hs1 := hb1.size; (try simp at hs1); (have hz0 : w.heap.size < w1.heap.size := by omega); (have hz1 : w.heap.size + 1 < w1.heap.size := by omega); clear hb1) | (go_at_call 113; refine (spec_MatchSite ⟨g.f1, g.f2⟩ s _).mono ?_; rintro e w1 ⟨rfl, hb1⟩; obtain ⟨hc1, hf1⟩ := bcell hb1; have HB1 := Lib.hid hb1; have hs1 := hb1.size; (try simp at hs1); (have hz0 : w.heap.size < w1.heap.size := by omega); (have hz1 : w.heap.size + 1 < w1.heap.size := by omega); clear hb1))
      go_ret
      exact ⟨by rw [HE.out]; rfl, by repeat (first | with_reducible exact Below.refl _ _ | (with_reducible refine below_step ?_ (by assumption) (by first | omega | (simp; done) | (simp <;> omega))) | (with_reducible refine Below.alloc ?_ (by first | omega | (simp; done) | (simp <;> omega)) _) | (with_reducible refine Below.setCell ?_ (by first | omega | (simp; done) | (simp <;> omega)) _) | (with_reducible refine Below.drew ?_) | (with_reducible refine below_dN ?_ _) | (refine Below.alloc ?_ (by first | omega | (simp; done) | (simp <;> omega)) _))⟩
  · have h0 : (mIsGrant g) = false := by simpa using h0
    have HE := Lib.hid (show mCovers g ext s kind tick clicked = false by simp [mCovers, h0])
    go_enter Tryz.func111, Tryz.ntmps111
    go_wp2_with (first | (go_at_call 47; refine (spec_in _ _ _ _).mono ?_; rintro e w1 ⟨rfl, rfl⟩) | (go_at_call 139; refine (spec_IsGrant g _).mono ?_; rintro e w1 ⟨rfl, hb1⟩; obtain ⟨hc1, hf1⟩ := bcell hb1; have HB1 := Lib.hid hb1; have hs1 := hb1.size; (try simp at hs1); (have hz0 : w.heap.size < w1.heap.size := by omega); (have hz1 : w.heap.size + 1 < w1.heap.size := by omega); clear hb1) | (go_at_call 113; refine (spec_MatchSite ⟨g.f1, g.f2⟩ s _).mono ?_; rintro e w1 ⟨rfl, hb1⟩; obtain ⟨hc1, hf1⟩ := bcell hb1; have HB1 := Lib.hid hb1; have hs1 := hb1.size; (try simp at hs1); (have hz0 : w.heap.size < w1.heap.size := by omega); (have hz1 : w.heap.size + 1 < w1.heap.size := by omega); clear hb1))
    go_ret
    exact ⟨by rw [HE.out]; rfl, by repeat (first | with_reducible exact Below.refl _ _ | (with_reducible refine below_step ?_ (by assumption) (by first | omega | (simp; done) | (simp <;> omega))) | (with_reducible refine Below.alloc ?_ (by first | omega | (simp; done) | (simp <;> omega)) _) | (with_reducible refine Below.setCell ?_ (by first | omega | (simp; done) | (simp <;> omega)) _) | (with_reducible refine Below.drew ?_) | (with_reducible refine below_dN ?_ _) | (refine Below.alloc ?_ (by first | omega | (simp; done) | (simp <;> omega)) _))⟩

set_option maxHeartbeats 40000000 in
theorem impl_IsGrant (g : TGrant) (w : World) :
    Calls Tryz.prog 153 #[vGrant g] w (Says (.bool (mIsGrant g)) w) := by
  by_cases h0 : (inR g.f0 1 5) = true
  · skip
    by_cases h1 : (mIsPattern ⟨g.f1, g.f2⟩) = true
    · skip
      by_cases h2 : (inR g.f3 1 4) = true
      · skip
        by_cases h3 : (decide (0 ≤ g.f4)) = true
        · skip
          by_cases h4 : (decide (g.f4 ≤ g.f5)) = true
          · skip
            by_cases h5 : (decide (g.f5 ≤ 10000)) = true
            · skip
              have HE := Lib.hid (show mIsGrant g = true by simp [mIsGrant, h0, h1, h2, h3, h4, h5])
              go_enter Tryz.func153, Tryz.ntmps153
              go_wp2_with (first | (go_at_call 93; refine (impl_in _ _ _ _).mono ?_; rintro e w1 ⟨rfl, rfl⟩) | (go_at_call 155; refine (impl_IsPattern ⟨g.f1, g.f2⟩ _).mono ?_; rintro e w1 ⟨rfl, hb1⟩; obtain ⟨hc1, hf1⟩ := bcell hb1; have HB1 := Lib.hid hb1; have hs1 := hb1.size; (try simp at hs1); (have hz0 : w.heap.size < w1.heap.size := by omega); clear hb1))
              go_ret
              exact ⟨by rw [HE.out]; rfl, by repeat (first | with_reducible exact Below.refl _ _ | (with_reducible refine below_step ?_ (by assumption) (by first | omega | (simp; done) | (simp <;> omega))) | (with_reducible refine Below.alloc ?_ (by first | omega | (simp; done) | (simp <;> omega)) _) | (with_reducible refine Below.setCell ?_ (by first | omega | (simp; done) | (simp <;> omega)) _) | (with_reducible refine Below.drew ?_) | (with_reducible refine below_dN ?_ _) | (refine Below.alloc ?_ (by first | omega | (simp; done) | (simp <;> omega)) _))⟩
            · have h5 : (decide (g.f5 ≤ 10000)) = false := by simpa using h5
              have HE := Lib.hid (show mIsGrant g = false by simp [mIsGrant, h0, h1, h2, h3, h4, h5])
              go_enter Tryz.func153, Tryz.ntmps153
              go_wp2_with (first | (go_at_call 93; refine (impl_in _ _ _ _).mono ?_; rintro e w1 ⟨rfl, rfl⟩) | (go_at_call 155; refine (impl_IsPattern ⟨g.f1, g.f2⟩ _).mono ?_; rintro e w1 ⟨rfl, hb1⟩; obtain ⟨hc1, hf1⟩ := bcell hb1; have HB1 := Lib.hid hb1; have hs1 := hb1.size; (try simp at hs1); (have hz0 : w.heap.size < w1.heap.size := by omega); clear hb1))
              go_ret
              exact ⟨by rw [HE.out]; rfl, by repeat (first | with_reducible exact Below.refl _ _ | (with_reducible refine below_step ?_ (by assumption) (by first | omega | (simp; done) | (simp <;> omega))) | (with_reducible refine Below.alloc ?_ (by first | omega | (simp; done) | (simp <;> omega)) _) | (with_reducible refine Below.setCell ?_ (by first | omega | (simp; done) | (simp <;> omega)) _) | (with_reducible refine Below.drew ?_) | (with_reducible refine below_dN ?_ _) | (refine Below.alloc ?_ (by first | omega | (simp; done) | (simp <;> omega)) _))⟩
          · have h4 : (decide (g.f4 ≤ g.f5)) = false := by simpa using h4
            have HE := Lib.hid (show mIsGrant g = false by simp [mIsGrant, h0, h1, h2, h3, h4])
            go_enter Tryz.func153, Tryz.ntmps153
            go_wp2_with (first | (go_at_call 93; refine (impl_in _ _ _ _).mono ?_; rintro e w1 ⟨rfl, rfl⟩) | (go_at_call 155; refine (impl_IsPattern ⟨g.f1, g.f2⟩ _).mono ?_; rintro e w1 ⟨rfl, hb1⟩; obtain ⟨hc1, hf1⟩ := bcell hb1; have HB1 := Lib.hid hb1; have hs1 := hb1.size; (try simp at hs1); (have hz0 : w.heap.size < w1.heap.size := by omega); clear hb1))
            go_ret
            exact ⟨by rw [HE.out]; rfl, by repeat (first | with_reducible exact Below.refl _ _ | (with_reducible refine below_step ?_ (by assumption) (by first | omega | (simp; done) | (simp <;> omega))) | (with_reducible refine Below.alloc ?_ (by first | omega | (simp; done) | (simp <;> omega)) _) | (with_reducible refine Below.setCell ?_ (by first | omega | (simp; done) | (simp <;> omega)) _) | (with_reducible refine Below.drew ?_) | (with_reducible refine below_dN ?_ _) | (refine Below.alloc ?_ (by first | omega | (simp; done) | (simp <;> omega)) _))⟩
        · have h3 : (decide (0 ≤ g.f4)) = false := by simpa using h3
          have HE := Lib.hid (show mIsGrant g = false by simp [mIsGrant, h0, h1, h2, h3])
          go_enter Tryz.func153, Tryz.ntmps153
          go_wp2_with (first | (go_at_call 93; refine (impl_in _ _ _ _).mono ?_; rintro e w1 ⟨rfl, rfl⟩) | (go_at_call 155; refine (impl_IsPattern ⟨g.f1, g.f2⟩ _).mono ?_; rintro e w1 ⟨rfl, hb1⟩; obtain ⟨hc1, hf1⟩ := bcell hb1; have HB1 := Lib.hid hb1; have hs1 := hb1.size; (try simp at hs1); (have hz0 : w.heap.size < w1.heap.size := by omega); clear hb1))
          go_ret
          exact ⟨by rw [HE.out]; rfl, by repeat (first | with_reducible exact Below.refl _ _ | (with_reducible refine below_step ?_ (by assumption) (by first | omega | (simp; done) | (simp <;> omega))) | (with_reducible refine Below.alloc ?_ (by first | omega | (simp; done) | (simp <;> omega)) _) | (with_reducible refine Below.setCell ?_ (by first | omega | (simp; done) | (simp <;> omega)) _) | (with_reducible refine Below.drew ?_) | (with_reducible refine below_dN ?_ _) | (refine Below.alloc ?_ (by first | omega | (simp; done) | (simp <;> omega)) _))⟩
      · have h2 : (inR g.f3 1 4) = false := by simpa using h2
        have HE := Lib.hid (show mIsGrant g = false by simp [mIsGrant, h0, h1, h2])
        go_enter Tryz.func153, Tryz.ntmps153
        go_wp2_with (first | (go_at_call 93; refine (impl_in _ _ _ _).mono ?_; rintro e w1 ⟨rfl, rfl⟩) | (go_at_call 155; refine (impl_IsPattern ⟨g.f1, g.f2⟩ _).mono ?_; rintro e w1 ⟨rfl, hb1⟩; obtain ⟨hc1, hf1⟩ := bcell hb1; have HB1 := Lib.hid hb1; have hs1 := hb1.size; (try simp at hs1); (have hz0 : w.heap.size < w1.heap.size := by omega); clear hb1))
        go_ret
        exact ⟨by rw [HE.out]; rfl, by repeat (first | with_reducible exact Below.refl _ _ | (with_reducible refine below_step ?_ (by assumption) (by first | omega | (simp; done) | (simp <;> omega))) | (with_reducible refine Below.alloc ?_ (by first | omega | (simp; done) | (simp <;> omega)) _) | (with_reducible refine Below.setCell ?_ (by first | omega | (simp; done) | (simp <;> omega)) _) | (with_reducible refine Below.drew ?_) | (with_reducible refine below_dN ?_ _) | (refine Below.alloc ?_ (by first | omega | (simp; done) | (simp <;> omega)) _))⟩
    · have h1 : (mIsPattern ⟨g.f1, g.f2⟩) = false := by simpa using h1
      have HE := Lib.hid (show mIsGrant g = false by simp [mIsGrant, h0, h1])
      go_enter Tryz.func153, Tryz.ntmps153
      go_wp2_with (first | (go_at_call 93; refine (impl_in _ _ _ _).mono ?_; rintro e w1 ⟨rfl, rfl⟩) | (go_at_call 155; refine (impl_IsPattern ⟨g.f1, g.f2⟩ _).mono ?_; rintro e w1 ⟨rfl, hb1⟩; obtain ⟨hc1, hf1⟩ := bcell hb1; have HB1 := Lib.hid hb1; have hs1 := hb1.size; (try simp at hs1); (have hz0 : w.heap.size < w1.heap.size := by omega); clear hb1))
      go_ret
      exact ⟨by rw [HE.out]; rfl, by repeat (first | with_reducible exact Below.refl _ _ | (with_reducible refine below_step ?_ (by assumption) (by first | omega | (simp; done) | (simp <;> omega))) | (with_reducible refine Below.alloc ?_ (by first | omega | (simp; done) | (simp <;> omega)) _) | (with_reducible refine Below.setCell ?_ (by first | omega | (simp; done) | (simp <;> omega)) _) | (with_reducible refine Below.drew ?_) | (with_reducible refine below_dN ?_ _) | (refine Below.alloc ?_ (by first | omega | (simp; done) | (simp <;> omega)) _))⟩
  · have h0 : (inR g.f0 1 5) = false := by simpa using h0
    have HE := Lib.hid (show mIsGrant g = false by simp [mIsGrant, h0])
    go_enter Tryz.func153, Tryz.ntmps153
    go_wp2_with (first | (go_at_call 93; refine (impl_in _ _ _ _).mono ?_; rintro e w1 ⟨rfl, rfl⟩) | (go_at_call 155; refine (impl_IsPattern ⟨g.f1, g.f2⟩ _).mono ?_; rintro e w1 ⟨rfl, hb1⟩; obtain ⟨hc1, hf1⟩ := bcell hb1; have HB1 := Lib.hid hb1; have hs1 := hb1.size; (try simp at hs1); (have hz0 : w.heap.size < w1.heap.size := by omega); clear hb1))
    go_ret
    exact ⟨by rw [HE.out]; rfl, by repeat (first | with_reducible exact Below.refl _ _ | (with_reducible refine below_step ?_ (by assumption) (by first | omega | (simp; done) | (simp <;> omega))) | (with_reducible refine Below.alloc ?_ (by first | omega | (simp; done) | (simp <;> omega)) _) | (with_reducible refine Below.setCell ?_ (by first | omega | (simp; done) | (simp <;> omega)) _) | (with_reducible refine Below.drew ?_) | (with_reducible refine below_dN ?_ _) | (refine Below.alloc ?_ (by first | omega | (simp; done) | (simp <;> omega)) _))⟩

set_option maxHeartbeats 40000000 in
theorem impl_Covers (g : TGrant) (ext : Int) (s : TSite) (kind tick : Int) (clicked : Bool) (w : World) :
    Calls Tryz.prog 123 #[vGrant g, .int .i64 ext, vSite s, .int .i64 kind, .int .i64 tick, .bool clicked] w (Says (.bool (mCovers g ext s kind tick clicked)) w) := by
  by_cases h0 : (mIsGrant g) = true
  · skip
    by_cases h1 : (g.f0 == ext) = true
    · skip
      by_cases h2 : (g.f3 == kind) = true
      · skip
        by_cases h3 : (mMatchSite ⟨g.f1, g.f2⟩ s) = true
        · skip
          by_cases h4 : (inR tick g.f4 g.f5) = true
          · skip
            cases clicked
            · skip
              have HE := Lib.hid (show mCovers g ext s kind tick false = (!g.f6) by simp [mCovers, h0, h1, h2, h3, h4])
              go_enter Tryz.func123, Tryz.ntmps123
              go_wp2_with (first | (go_at_call 93; refine (impl_in _ _ _ _).mono ?_; rintro e w1 ⟨rfl, rfl⟩) | (go_at_call 153; refine (impl_IsGrant g _).mono ?_; rintro e w1 ⟨rfl, hb1⟩; obtain ⟨hc1, hf1⟩ := bcell hb1; have HB1 := Lib.hid hb1; have hs1 := hb1.size; (try simp at hs1); (have hz0 : w.heap.size < w1.heap.size := by omega); (have hz1 : w.heap.size + 1 < w1.heap.size := by omega); clear hb1) | (go_at_call 130; refine (impl_MatchSite ⟨g.f1, g.f2⟩ s _).mono ?_; rintro e w1 ⟨rfl, hb1⟩; obtain ⟨hc1, hf1⟩ := bcell hb1; have HB1 := Lib.hid hb1; have hs1 := hb1.size; (try simp at hs1); (have hz0 : w.heap.size < w1.heap.size := by omega); (have hz1 : w.heap.size + 1 < w1.heap.size := by omega); clear hb1))
              go_ret
              exact ⟨by rw [HE.out]; rfl, by repeat (first | with_reducible exact Below.refl _ _ | (with_reducible refine below_step ?_ (by assumption) (by first | omega | (simp; done) | (simp <;> omega))) | (with_reducible refine Below.alloc ?_ (by first | omega | (simp; done) | (simp <;> omega)) _) | (with_reducible refine Below.setCell ?_ (by first | omega | (simp; done) | (simp <;> omega)) _) | (with_reducible refine Below.drew ?_) | (with_reducible refine below_dN ?_ _) | (refine Below.alloc ?_ (by first | omega | (simp; done) | (simp <;> omega)) _))⟩
            · skip
              have HE := Lib.hid (show mCovers g ext s kind tick true = true by simp [mCovers, h0, h1, h2, h3, h4])
              go_enter Tryz.func123, Tryz.ntmps123
              go_wp2_with (first | (go_at_call 93; refine (impl_in _ _ _ _).mono ?_; rintro e w1 ⟨rfl, rfl⟩) | (go_at_call 153; refine (impl_IsGrant g _).mono ?_; rintro e w1 ⟨rfl, hb1⟩; obtain ⟨hc1, hf1⟩ := bcell hb1; have HB1 := Lib.hid hb1; have hs1 := hb1.size; (try simp at hs1); (have hz0 : w.heap.size < w1.heap.size := by omega); (have hz1 : w.heap.size + 1 < w1.heap.size := by omega); clear hb1) | (go_at_call 130; refine (impl_MatchSite ⟨g.f1, g.f2⟩ s _).mono ?_; rintro e w1 ⟨rfl, hb1⟩; obtain ⟨hc1, hf1⟩ := bcell hb1; have HB1 := Lib.hid hb1; have hs1 := hb1.size; (try simp at hs1); (have hz0 : w.heap.size < w1.heap.size := by omega); (have hz1 : w.heap.size + 1 < w1.heap.size := by omega); clear hb1))
              go_ret
              exact ⟨by rw [HE.out]; rfl, by repeat (first | with_reducible exact Below.refl _ _ | (with_reducible refine below_step ?_ (by assumption) (by first | omega | (simp; done) | (simp <;> omega))) | (with_reducible refine Below.alloc ?_ (by first | omega | (simp; done) | (simp <;> omega)) _) | (with_reducible refine Below.setCell ?_ (by first | omega | (simp; done) | (simp <;> omega)) _) | (with_reducible refine Below.drew ?_) | (with_reducible refine below_dN ?_ _) | (refine Below.alloc ?_ (by first | omega | (simp; done) | (simp <;> omega)) _))⟩
          · have h4 : (inR tick g.f4 g.f5) = false := by simpa using h4
            have HE := Lib.hid (show mCovers g ext s kind tick clicked = false by simp [mCovers, h0, h1, h2, h3, h4])
            go_enter Tryz.func123, Tryz.ntmps123
            go_wp2_with (first | (go_at_call 93; refine (impl_in _ _ _ _).mono ?_; rintro e w1 ⟨rfl, rfl⟩) | (go_at_call 153; refine (impl_IsGrant g _).mono ?_; rintro e w1 ⟨rfl, hb1⟩; obtain ⟨hc1, hf1⟩ := bcell hb1; have HB1 := Lib.hid hb1; have hs1 := hb1.size; (try simp at hs1); (have hz0 : w.heap.size < w1.heap.size := by omega); (have hz1 : w.heap.size + 1 < w1.heap.size := by omega); clear hb1) | (go_at_call 130; refine (impl_MatchSite ⟨g.f1, g.f2⟩ s _).mono ?_; rintro e w1 ⟨rfl, hb1⟩; obtain ⟨hc1, hf1⟩ := bcell hb1; have HB1 := Lib.hid hb1; have hs1 := hb1.size; (try simp at hs1); (have hz0 : w.heap.size < w1.heap.size := by omega); (have hz1 : w.heap.size + 1 < w1.heap.size := by omega); clear hb1))
            go_ret
            exact ⟨by rw [HE.out]; rfl, by repeat (first | with_reducible exact Below.refl _ _ | (with_reducible refine below_step ?_ (by assumption) (by first | omega | (simp; done) | (simp <;> omega))) | (with_reducible refine Below.alloc ?_ (by first | omega | (simp; done) | (simp <;> omega)) _) | (with_reducible refine Below.setCell ?_ (by first | omega | (simp; done) | (simp <;> omega)) _) | (with_reducible refine Below.drew ?_) | (with_reducible refine below_dN ?_ _) | (refine Below.alloc ?_ (by first | omega | (simp; done) | (simp <;> omega)) _))⟩
        · have h3 : (mMatchSite ⟨g.f1, g.f2⟩ s) = false := by simpa using h3
          have HE := Lib.hid (show mCovers g ext s kind tick clicked = false by simp [mCovers, h0, h1, h2, h3])
          go_enter Tryz.func123, Tryz.ntmps123
          go_wp2_with (first | (go_at_call 93; refine (impl_in _ _ _ _).mono ?_; rintro e w1 ⟨rfl, rfl⟩) | (go_at_call 153; refine (impl_IsGrant g _).mono ?_; rintro e w1 ⟨rfl, hb1⟩; obtain ⟨hc1, hf1⟩ := bcell hb1; have HB1 := Lib.hid hb1; have hs1 := hb1.size; (try simp at hs1); (have hz0 : w.heap.size < w1.heap.size := by omega); (have hz1 : w.heap.size + 1 < w1.heap.size := by omega); clear hb1) | (go_at_call 130; refine (impl_MatchSite ⟨g.f1, g.f2⟩ s _).mono ?_; rintro e w1 ⟨rfl, hb1⟩; obtain ⟨hc1, hf1⟩ := bcell hb1; have HB1 := Lib.hid hb1; have hs1 := hb1.size; (try simp at hs1); (have hz0 : w.heap.size < w1.heap.size := by omega); (have hz1 : w.heap.size + 1 < w1.heap.size := by omega); clear hb1))
          go_ret
          exact ⟨by rw [HE.out]; rfl, by repeat (first | with_reducible exact Below.refl _ _ | (with_reducible refine below_step ?_ (by assumption) (by first | omega | (simp; done) | (simp <;> omega))) | (with_reducible refine Below.alloc ?_ (by first | omega | (simp; done) | (simp <;> omega)) _) | (with_reducible refine Below.setCell ?_ (by first | omega | (simp; done) | (simp <;> omega)) _) | (with_reducible refine Below.drew ?_) | (with_reducible refine below_dN ?_ _) | (refine Below.alloc ?_ (by first | omega | (simp; done) | (simp <;> omega)) _))⟩
      · have h2 : (g.f3 == kind) = false := by simpa using h2
        have HE := Lib.hid (show mCovers g ext s kind tick clicked = false by simp [mCovers, h0, h1, h2])
        go_enter Tryz.func123, Tryz.ntmps123
        go_wp2_with (first | (go_at_call 93; refine (impl_in _ _ _ _).mono ?_; rintro e w1 ⟨rfl, rfl⟩) | (go_at_call 153; refine (impl_IsGrant g _).mono ?_; rintro e w1 ⟨rfl, hb1⟩; obtain ⟨hc1, hf1⟩ := bcell hb1; have HB1 := Lib.hid hb1; have hs1 := hb1.size; (try simp at hs1); (have hz0 : w.heap.size < w1.heap.size := by omega); (have hz1 : w.heap.size + 1 < w1.heap.size := by omega); clear hb1) | (go_at_call 130; refine (impl_MatchSite ⟨g.f1, g.f2⟩ s _).mono ?_; rintro e w1 ⟨rfl, hb1⟩; obtain ⟨hc1, hf1⟩ := bcell hb1; have HB1 := Lib.hid hb1; have hs1 := hb1.size; (try simp at hs1); (have hz0 : w.heap.size < w1.heap.size := by omega); (have hz1 : w.heap.size + 1 < w1.heap.size := by omega); clear hb1))
        go_ret
        exact ⟨by rw [HE.out]; rfl, by repeat (first | with_reducible exact Below.refl _ _ | (with_reducible refine below_step ?_ (by assumption) (by first | omega | (simp; done) | (simp <;> omega))) | (with_reducible refine Below.alloc ?_ (by first | omega | (simp; done) | (simp <;> omega)) _) | (with_reducible refine Below.setCell ?_ (by first | omega | (simp; done) | (simp <;> omega)) _) | (with_reducible refine Below.drew ?_) | (with_reducible refine below_dN ?_ _) | (refine Below.alloc ?_ (by first | omega | (simp; done) | (simp <;> omega)) _))⟩
    · have h1 : (g.f0 == ext) = false := by simpa using h1
      have HE := Lib.hid (show mCovers g ext s kind tick clicked = false by simp [mCovers, h0, h1])
      go_enter Tryz.func123, Tryz.ntmps123
      go_wp2_with (first | (go_at_call 93; refine (impl_in _ _ _ _).mono ?_; rintro e w1 ⟨rfl, rfl⟩) | (go_at_call 153; refine (impl_IsGrant g _).mono ?_; rintro e w1 ⟨rfl, hb1⟩; obtain ⟨hc1, hf1⟩ := bcell hb1; have HB1 := Lib.hid hb1; have hs1 := hb1.size; (try simp at hs1); (have hz0 : w.heap.size < w1.heap.size := by omega); (have hz1 : w.heap.size + 1 < w1.heap.size := by omega); clear hb1) | (go_at_call 130; refine (impl_MatchSite ⟨g.f1, g.f2⟩ s _).mono ?_; rintro e w1 ⟨rfl, hb1⟩; obtain ⟨hc1, hf1⟩ := bcell hb1; have HB1 := Lib.hid hb1; have hs1 := hb1.size; (try simp at hs1); (have hz0 : w.heap.size < w1.heap.size := by omega); (have hz1 : w.heap.size + 1 < w1.heap.size := by omega); clear hb1))
      go_ret
      exact ⟨by rw [HE.out]; rfl, by repeat (first | with_reducible exact Below.refl _ _ | (with_reducible refine below_step ?_ (by assumption) (by first | omega | (simp; done) | (simp <;> omega))) | (with_reducible refine Below.alloc ?_ (by first | omega | (simp; done) | (simp <;> omega)) _) | (with_reducible refine Below.setCell ?_ (by first | omega | (simp; done) | (simp <;> omega)) _) | (with_reducible refine Below.drew ?_) | (with_reducible refine below_dN ?_ _) | (refine Below.alloc ?_ (by first | omega | (simp; done) | (simp <;> omega)) _))⟩
  · have h0 : (mIsGrant g) = false := by simpa using h0
    have HE := Lib.hid (show mCovers g ext s kind tick clicked = false by simp [mCovers, h0])
    go_enter Tryz.func123, Tryz.ntmps123
    go_wp2_with (first | (go_at_call 93; refine (impl_in _ _ _ _).mono ?_; rintro e w1 ⟨rfl, rfl⟩) | (go_at_call 153; refine (impl_IsGrant g _).mono ?_; rintro e w1 ⟨rfl, hb1⟩; obtain ⟨hc1, hf1⟩ := bcell hb1; have HB1 := Lib.hid hb1; have hs1 := hb1.size; (try simp at hs1); (have hz0 : w.heap.size < w1.heap.size := by omega); (have hz1 : w.heap.size + 1 < w1.heap.size := by omega); clear hb1) | (go_at_call 130; refine (impl_MatchSite ⟨g.f1, g.f2⟩ s _).mono ?_; rintro e w1 ⟨rfl, hb1⟩; obtain ⟨hc1, hf1⟩ := bcell hb1; have HB1 := Lib.hid hb1; have hs1 := hb1.size; (try simp at hs1); (have hz0 : w.heap.size < w1.heap.size := by omega); (have hz1 : w.heap.size + 1 < w1.heap.size := by omega); clear hb1))
    go_ret
    exact ⟨by rw [HE.out]; rfl, by repeat (first | with_reducible exact Below.refl _ _ | (with_reducible refine below_step ?_ (by assumption) (by first | omega | (simp; done) | (simp <;> omega))) | (with_reducible refine Below.alloc ?_ (by first | omega | (simp; done) | (simp <;> omega)) _) | (with_reducible refine Below.setCell ?_ (by first | omega | (simp; done) | (simp <;> omega)) _) | (with_reducible refine Below.drew ?_) | (with_reducible refine below_dN ?_ _) | (refine Below.alloc ?_ (by first | omega | (simp; done) | (simp <;> omega)) _))⟩

end Go.Proofs.YtjgcgipglmhgeaaGreat
namespace Go.Proofs.YtjgcgipglmhgeaaGreat
open Go Go.ChangeShapes Go.WideShapes Go.ChangeAt Go.RowKit Go.Lib
set_option linter.unusedVariables false
set_option linter.unusedSimpArgs false
set_option maxRecDepth 100000
set_option maxHeartbeats 4000000 in
theorem index_Allowed (p : TGrant → Bool) (lb : Array Value) (l : List TGrant) (A : Option Addr) (n c lo hi : Nat) (w : World) (hn : n ≤ 17592186044416)
    (hr : Rd w lo hi 7 A n (cGrant l)) (hp : PredB Tryz.prog 122 lb (fun x : TGrant => .agg #[.int .i64 x.f0, .int .i64 x.f1, .int .i64 x.f2, .int .i64 x.f3, .int .i64 x.f4, .int .i64 x.f5, .bool x.f6]) p l w) :
    Calls Tryz.prog 154 #[.slice A n c, .func (.func 122) #[] lb] w (Says (.int .i64 (idxP p l)) w) := by
  have HL := Lib.hid (rd_len TGrant.len hr (by decide))
  have HR := Lib.hid hr
  have HP := Lib.hid hp
  clear hr hp
  go_enter Tryz.func154, Tryz.ntmps154
  go_wp2_with fail
  go_loopg [5, 8] n (fun gg _ i wr => ∃ k : Nat, k ≤ n ∧ n - k ≤ gg ∧ i = .int .i64 k ∧ Hid (Below w.heap.size w wr) ∧ Hid ((l.take k).any p = false))
  case atStart => exact ⟨0, Nat.zero_le _, by omega, rfl, Lib.hid (Below.refl _ _), Lib.hid (by simp)⟩
  case round =>
    obtain ⟨k, hk, hg, rfl, HB, HF⟩ := hrel
    by_cases hlt : k < n
    · obtain ⟨b, off, x, rfl, _, _, hz, hc⟩ := rd_elem TGrant.len (HR.out.new HB.out) HL.out hlt
      have c0 : wr.cell? ⟨b, off + k * 7, none⟩ = _ := hc 0 _ rfl
      have c1 := hc 1 _ rfl
      have c2 := hc 2 _ rfl
      have c3 := hc 3 _ rfl
      have c4 := hc 4 _ rfl
      have c5 := hc 5 _ rfl
      have c6 := hc 6 _ rfl
      have HZ := Lib.hid hz
      have hcall := HP.out wr x (mem_of_get hz) HB.out
      clear hc hz
      cases hq : p x with
      | true =>
        rw [hq] at hcall
        have HE := Lib.hid (idxP_hit HF.out HZ.out hq)
        clear hq
        go_wp2_with (go_at_call 122; refine hcall.mono ?_; rintro e w1 ⟨rfl, hb1⟩; have HB1 := Lib.hid hb1; clear hb1)
        go_ret
        exact ⟨by rw [HE.out]; rfl, below_trans HB.out HB1.out (Nat.le_refl _)⟩
      | false =>
        rw [hq] at hcall
        have HE := Lib.hid (any_step HF.out HZ.out hq)
        clear hq
        go_wp2_with (go_at_call 122; refine hcall.mono ?_; rintro e w1 ⟨rfl, hb1⟩; have HB1 := Lib.hid hb1; clear hb1)
        go_roundg (n - (k + 1))
        case measure => omega
        case rel => exact ⟨k + 1, by omega, by omega, by go_num, Lib.hid (below_trans HB.out HB1.out (Nat.le_refl _)), HE⟩
    · obtain rfl : k = n := by omega
      have HE := Lib.hid (idxP_miss (by have := HF.out; rw [List.take_of_length_le (by have := HL.out; omega)] at this; exact this))
      go_wp2_with fail
      go_ret
      exact ⟨by rw [HE.out]; rfl, HB.out⟩
theorem contains_Allowed (p : TGrant → Bool) (lb : Array Value) (l : List TGrant) (A : Option Addr) (n c lo hi : Nat) (w : World) (hn : n ≤ 17592186044416)
    (hr : Rd w lo hi 7 A n (cGrant l)) (hp : PredB Tryz.prog 122 lb (fun x : TGrant => .agg #[.int .i64 x.f0, .int .i64 x.f1, .int .i64 x.f2, .int .i64 x.f3, .int .i64 x.f4, .int .i64 x.f5, .bool x.f6]) p l w) :
    Calls Tryz.prog 124 #[.slice A n c, .func (.func 122) #[] lb] w (Says (.bool (l.any p)) w) := by
  have HC := index_Allowed p lb l A n c lo hi w hn hr hp
  cases hq : l.any p with
  | true =>
    have hx := idxP_nonneg hq
    generalize idxP p l = r at HC hx
    clear hq hr hp
    have hd : decide (r ≥ 0) = true := by simp; omega
    go_enter Tryz.func124, Tryz.ntmps124
    go_wp2_with fail
    refine HC.mono ?_
    rintro e w1 ⟨rfl, hb1⟩
    have HB1 := Lib.hid hb1
    clear hb1
    go_wp2_with fail
    go_ret
    exact ⟨rfl, HB1.out⟩
  | false =>
    have hx := idxP_miss hq
    rw [hx] at HC
    clear hx hq hr hp
    go_enter Tryz.func124, Tryz.ntmps124
    go_wp2_with fail
    refine HC.mono ?_
    rintro e w1 ⟨rfl, hb1⟩
    have HB1 := Lib.hid hb1
    clear hb1
    go_wp2_with fail
    go_ret
    exact ⟨rfl, HB1.out⟩
end Go.Proofs.YtjgcgipglmhgeaaGreat
namespace Go.Proofs.YtjgcgipglmhgeaaGreat
open Go Go.ChangeShapes Go.WideShapes Go.ChangeAt Go.RowKit Go.Lib
set_option linter.unusedVariables false
set_option linter.unusedSimpArgs false
set_option maxRecDepth 100000
def mAllowed (l : List TGrant) (ext : Int) (s : TSite) (kind tick : Int) (clicked : Bool) : Bool := l.any fun g => mCovers g ext s kind tick clicked
set_option maxHeartbeats 4000000 in
theorem clo_Allowed (ext : Int) (s : TSite) (kind tick : Int) (clicked : Bool) (B : Nat) (l : List TGrant) (w : World) (h0 : w.cell? ⟨B, 0, none⟩ = some (.int .i64 ext)) (h1 : w.cell? ⟨B + 1, 0, none⟩ = some (.int .i64 s.f0)) (h2 : w.cell? ⟨B + 1, 1, none⟩ = some (.int .i64 s.f1))
    (h3 : w.cell? ⟨B + 2, 0, none⟩ = some (.int .i64 kind)) (h4 : w.cell? ⟨B + 3, 0, none⟩ = some (.int .i64 tick)) (h5 : w.cell? ⟨B + 4, 0, none⟩ = some (.bool clicked)) :
    PredB Tryz.prog 122 #[.pointer (some ⟨B, 0, none⟩), .pointer (some ⟨B + 1, 0, none⟩), .pointer (some ⟨B + 2, 0, none⟩), .pointer (some ⟨B + 3, 0, none⟩), .pointer (some ⟨B + 4, 0, none⟩)] vGrant
      (fun g => mCovers g ext s kind tick clicked) l w := fun W x _ hb => by
  have c0 := cell_nw hb h0
  have c1 := cell_nw hb h1
  have c2 := cell_nw hb h2
  have c3 := cell_nw hb h3
  have c4 := cell_nw hb h4
  have c5 := cell_nw hb h5
  have HC := fun W' => impl_Covers x ext s kind tick clicked W'
  have m0 : B < W.heap.size := World.block_lt_of_cell? _ _ c0
  have n0 : B ≠ W.heap.size := Nat.ne_of_lt m0
  have m1 : B + 1 < W.heap.size := World.block_lt_of_cell? _ _ c1
  have n1 : B + 1 ≠ W.heap.size := Nat.ne_of_lt m1
  have m2 : B + 2 < W.heap.size := World.block_lt_of_cell? _ _ c3
  have n2 : B + 2 ≠ W.heap.size := Nat.ne_of_lt m2
  have m3 : B + 3 < W.heap.size := World.block_lt_of_cell? _ _ c4
  have n3 : B + 3 ≠ W.heap.size := Nat.ne_of_lt m3
  have m4 : B + 4 < W.heap.size := World.block_lt_of_cell? _ _ c5
  have n4 : B + 4 ≠ W.heap.size := Nat.ne_of_lt m4
  clear h0 h1 h2 h3 h4 h5 hb
  change Calls Tryz.prog _ #[vGrant x, .pointer (some ⟨B, 0, none⟩), .pointer (some ⟨B + 1, 0, none⟩), .pointer (some ⟨B + 2, 0, none⟩), .pointer (some ⟨B + 3, 0, none⟩), .pointer (some ⟨B + 4, 0, none⟩)] _ _
  go_enter Tryz.func122, Tryz.ntmps122
  go_wp2_with fail
  refine (HC _).mono ?_
  rintro e w1 ⟨rfl, hb1⟩
  have HB1 := Lib.hid hb1
  clear hb1 HC
  go_wp2_with fail
  go_ret
  exact ⟨rfl, below_step ((Below.refl _ _).alloc (Nat.le_refl _) _) HB1 (by simp)⟩
set_option maxHeartbeats 4000000 in
theorem impl_IsAllowed (l : List TGrant) (A : Option Addr) (n c lo hi : Nat) (ext : Int) (s : TSite) (kind tick : Int) (clicked : Bool) (w : World) (hn : n ≤ 1048576) (hr : Rd w lo hi 7 A n (cGrant l)) (H : Hid (cGrantOk l)) :
    Calls Tryz.prog 96 #[.slice A n c, .int .i64 ext, vSite s, .int .i64 kind, .int .i64 tick, .bool clicked] w (Says (.bool (mAllowed l ext s kind tick clicked)) w) := by
  have hmf : ∀ (fn : Fn) (first cap : Array Value) (w : World), (Instr.makeFunc fn first cap).run Tryz.prog w = .ok (.func fn first cap) w := fun _ _ _ _ => rfl
  have HC := Lib.hid (fun W h0 h1 h2 h3 h4 h5 hr => contains_Allowed (fun g => mCovers g ext s kind tick clicked) _ l A n c lo hi W (by omega) hr (clo_Allowed ext s kind tick clicked w.heap.size l W h0 h1 h2 h3 h4 h5))
  have HR := Lib.hid hr
  unfold mAllowed
  generalize (l.any fun g => mCovers g ext s kind tick clicked) = r at HC ⊢
  clear hr
  go_enter Tryz.func96, Tryz.ntmps96
  go_wp2_with fail
  refine Calls.mono (HC.out _ ?a0 ?a1 ?a2 ?a3 ?a4 ?a5 (((((HR.out.alloc _).alloc _).alloc _).alloc _).alloc _)) ?_
  case a0 => repeat (first | (with_reducible refine cell_newest (by simp) rfl) | (with_reducible refine cell_al ?_))
  case a1 => repeat (first | (with_reducible refine cell_newest (by simp) rfl) | (with_reducible refine cell_al ?_))
  case a2 => repeat (first | (with_reducible refine cell_newest (by simp) rfl) | (with_reducible refine cell_al ?_))
  case a3 => repeat (first | (with_reducible refine cell_newest (by simp) rfl) | (with_reducible refine cell_al ?_))
  case a4 => repeat (first | (with_reducible refine cell_newest (by simp) rfl) | (with_reducible refine cell_al ?_))
  case a5 => repeat (first | (with_reducible refine cell_newest (by simp) rfl) | (with_reducible refine cell_al ?_))
  rintro e w1 ⟨rfl, hb1⟩
  have HB1 := Lib.hid hb1
  clear hb1
  go_wp2_with fail
  go_ret
  exact ⟨rfl, below_step ((((((Below.refl _ _).alloc (Nat.le_refl _) _).alloc (by simp) _).alloc (by simp <;> omega) _).alloc (by simp <;> omega) _).alloc (by simp <;> omega) _) HB1 (by simp <;> omega)⟩
set_option maxHeartbeats 4000000 in
theorem spec_IsAllowed (l : List TGrant) (A : Option Addr) (n c lo hi : Nat) (ext : Int) (s : TSite) (kind tick : Int) (clicked : Bool) (w : World) (hn : n ≤ 1048576) (hr : Rd w lo hi 7 A n (cGrant l)) (H : Hid (cGrantOk l)) :
    Calls Tryz.prog 80 #[.slice A n c, .int .i64 ext, vSite s, .int .i64 kind, .int .i64 tick, .bool clicked] w (Says (.bool (mAllowed l ext s kind tick clicked)) w) := by
  have HL := Lib.hid (rd_len TGrant.len hr (by decide))
  have HR := Lib.hid hr
  clear hr
  unfold mAllowed
  generalize hp : (fun g => mCovers g ext s kind tick clicked) = p
  have HP : Hid ((fun g => mCovers g ext s kind tick clicked) = p) := Lib.hid hp
  clear hp
  have HBx := Lib.hid (box_new w 57 #[.int .i64 s.f0, .int .i64 s.f1])
  go_enter Tryz.func80, Tryz.ntmps80
  go_wp2_with fail
  go_loopg [13] n (fun gg i wr => ∃ k : Nat, k ≤ n ∧ n - k ≤ gg ∧ i = .int .i64 k ∧ Hid (Below w.heap.size w wr) ∧ Hid (BoxAt wr w.heap.size 57 #[.int .i64 s.f0, .int .i64 s.f1]) ∧ Hid ((l.take k).any p = false))
  case atStart => exact ⟨0, Nat.zero_le _, by omega, rfl, Lib.hid ((Below.refl _ _).alloc (Nat.le_refl _) _), HBx, Lib.hid (by simp)⟩
  case round =>
    obtain ⟨k, hk, hg, rfl, HB, HX, HF⟩ := hrel
    by_cases hlt : k < n
    · obtain ⟨b, off, x, rfl, _, _, hz, hc⟩ := rd_elem TGrant.len (HR.out.new HB.out) HL.out hlt
      have c0 : wr.cell? ⟨b, off + k * 7, none⟩ = _ := hc 0 _ rfl
      have c1 := hc 1 _ rfl
      have c2 := hc 2 _ rfl
      have c3 := hc 3 _ rfl
      have c4 := hc 4 _ rfl
      have c5 := hc 5 _ rfl
      have c6 := hc 6 _ rfl
      have d0 : wr.cell? ⟨w.heap.size, 0, none⟩ = some (.int .i64 s.f0) := HX.out.at_ rfl
      have d1 : wr.cell? ⟨w.heap.size, 1, none⟩ = some (.int .i64 s.f1) := HX.out.at_ rfl
      have HZ := Lib.hid hz
      have HB2 := Lib.hid HB.out.drew
      have HC := Lib.hid (fun W' => spec_Covers x ext s kind tick clicked W')
      have HPx := Lib.hid (show mCovers x ext s kind tick clicked = p x by rw [← HP.out])
      clear hc hz
      generalize mCovers x ext s kind tick clicked = r at HC HPx
      cases r with
      | true =>
        have HE := Lib.hid (show l.any p = true from List.any_eq_true.2 ⟨x, mem_of_get HZ.out, HPx.out.symm⟩)
        go_wp2_with fail
        go_still_tail 9, (by kernel_rfl)
        change wpList _ _ _ _ _ wr.drew
        generalize wr.drew = w2 at HB2 ⊢
        go_wp2_with fail
        refine (HC.out _).mono ?_
        rintro e w1 ⟨rfl, hb1⟩
        have HB1 := Lib.hid (below_trans HB2.out hb1 (Nat.le_refl _))
        clear hb1
        go_wp2_with fail
        go_ret
        exact ⟨by rw [HE.out]; rfl, HB1.out⟩
      | false =>
        have HE := Lib.hid (any_step HF.out HZ.out HPx.out.symm)
        have HX2 := Lib.hid (show BoxAt wr.drew w.heap.size 57 #[.int .i64 s.f0, .int .i64 s.f1] from HX.out)
        go_wp2_with fail
        go_still_tail 9, (by kernel_rfl)
        change wpList _ _ _ _ _ wr.drew
        generalize wr.drew = w2 at HB2 HX2 ⊢
        go_wp2_with fail
        refine (HC.out _).mono ?_
        rintro e w1 ⟨rfl, hb1⟩
        have HB1 := Lib.hid (below_trans HB2.out hb1 (Nat.le_refl _))
        have HX1 := Lib.hid (HX2.out.new hb1)
        clear hb1
        go_wp2_with fail
        go_roundg (n - (k + 1))
        case measure => omega
        case rel => exact ⟨k + 1, by omega, by omega, by go_num, HB1, HX1, HE⟩
    · obtain rfl : k = n := by omega
      have HE := Lib.hid (show l.any p = false by have := HF.out; rw [List.take_of_length_le (by have := HL.out; omega)] at this; exact this)
      go_wp2_with fail
      go_ret
      exact ⟨by rw [HE.out]; rfl, HB.out⟩
end Go.Proofs.YtjgcgipglmhgeaaGreat
namespace Go.Proofs.YtjgcgipglmhgeaaGreat
open Go Go.ChangeShapes Go.WideShapes Go.ChangeAt Go.RowKit Go.Lib
set_option linter.unusedVariables false
set_option linter.unusedSimpArgs false
set_option maxRecDepth 100000
def mDeny (ext : Int) (s : TSite) (kind : Int) (x : TLimit) : Bool := mIsLimit x && mTakes 0 x.f0 ext && mTakes 0 x.f3 kind && mMatchSite ⟨x.f1, x.f2⟩ s
def mDenied (l : List TLimit) (ext : Int) (s : TSite) (kind : Int) : Bool := l.any (mDeny ext s kind)

set_option maxHeartbeats 4000000 in
theorem clo_Denied (ext : Int) (s : TSite) (kind : Int) (B : Nat) (l : List TLimit) (w0 : World) (h0 : BoxAt w0 B 3 #[.int .i64 ext]) (h1 : BoxAt w0 (B + 1) 57 #[.int .i64 s.f0, .int .i64 s.f1]) (h2 : BoxAt w0 (B + 2) 3 #[.int .i64 kind]) :
    PredB Tryz.prog 126 #[.pointer (some ⟨B, 0, none⟩), .pointer (some ⟨B + 2, 0, none⟩), .pointer (some ⟨B + 1, 0, none⟩)] vLimit (mDeny ext s kind) l w0 := fun w x _ hb => by
  have C0 := fun W => impl_IsLimit x W
  have C1 := fun W => impl_takes 0 x.f0 ext W
  have C2 := fun W => impl_takes 0 x.f3 kind W
  have C3 := fun W => impl_MatchSite ⟨x.f1, x.f2⟩ s W
  unfold mDeny
  generalize mIsLimit x = b0 at C0 ⊢
  generalize mTakes 0 x.f0 ext = b1 at C1 ⊢
  generalize mTakes 0 x.f3 kind = b2 at C2 ⊢
  generalize mMatchSite ⟨x.f1, x.f2⟩ s = b3 at C3 ⊢
  have KB0 : BoxAt (w.alloc (.cells #[.int .i64 x.f0, .int .i64 x.f1, .int .i64 x.f2, .int .i64 x.f3] 114)).drew w.heap.size 114 #[.int .i64 x.f0, .int .i64 x.f1, .int .i64 x.f2, .int .i64 x.f3] := ((by simpa using box_new w 114 #[.int .i64 x.f0, .int .i64 x.f1, .int .i64 x.f2, .int .i64 x.f3] : BoxAt (w.alloc (.cells #[.int .i64 x.f0, .int .i64 x.f1, .int .i64 x.f2, .int .i64 x.f3] 114)) w.heap.size 114 #[.int .i64 x.f0, .int .i64 x.f1, .int .i64 x.f2, .int .i64 x.f3])).drw
  have HBw : Below w.heap.size w (w.alloc (.cells #[.int .i64 x.f0, .int .i64 x.f1, .int .i64 x.f2, .int .i64 x.f3] 114)).drew := ((Below.refl _ _).alloc (by first | exact Nat.le_refl _ | (simp; done) | (simp; omega)) _).drew
  have J0 := ((h0.new hb).alloc_ (.cells #[.int .i64 x.f0, .int .i64 x.f1, .int .i64 x.f2, .int .i64 x.f3] 114)).drw
  have J1 := ((h1.new hb).alloc_ (.cells #[.int .i64 x.f0, .int .i64 x.f1, .int .i64 x.f2, .int .i64 x.f3] 114)).drw
  have J2 := ((h2.new hb).alloc_ (.cells #[.int .i64 x.f0, .int .i64 x.f1, .int .i64 x.f2, .int .i64 x.f3] 114)).drw
  clear h0 h1 h2 hb
  change Calls Tryz.prog _ #[vLimit x, .pointer (some ⟨B, 0, none⟩), .pointer (some ⟨B + 2, 0, none⟩), .pointer (some ⟨B + 1, 0, none⟩)] _ _
  go_enter Tryz.func126, Tryz.ntmps126
  go_wp2_with fail
  refine wp_region_held_drew (S := fun w' => BoxAt w' w.heap.size 114 #[.int .i64 x.f0, .int .i64 x.f1, .int .i64 x.f2, .int .i64 x.f3] ∧ BoxAt w' B 3 #[.int .i64 ext] ∧ BoxAt w' (B + 1) 57 #[.int .i64 s.f0, .int .i64 s.f1] ∧ BoxAt w' (B + 2) 3 #[.int .i64 kind] ∧ Below w.heap.size w w') (by kernel_rfl) ?_ (fun hHeld => ?_)
  · exact ⟨KB0, J0, J1, J2, HBw⟩
  refine wpAnyH_take (i := 0) (oi := ⟨some 6, _, _, _, _, _⟩) (v := ?_) rfl (by kernel_rfl) (by kernel_rfl) (by kernel_rfl) (fun _ _ _ h => h) (Or.inl ⟨by kernel_rfl, ?_⟩) hHeld ?_
  rotate_left
  focus (intro W hS; have c0_0 := (hS.1).at_ (j := 0) rfl; have c0_1 := (hS.1).at_ (j := 1) rfl; have c0_2 := (hS.1).at_ (j := 2) rfl; have c0_3 := (hS.1).at_ (j := 3) rfl; have c1_0 := (hS.2.1).at_ (j := 0) rfl; have c2_0 := (hS.2.2.1).at_ (j := 0) rfl; have c2_1 := (hS.2.2.1).at_ (j := 1) rfl; have c3_0 := (hS.2.2.2.1).at_ (j := 0) rfl; clear hS; first | (go_simp; done) | (go_simp; with_reducible rfl))
  try simp only [Act.put, List.setIfInBounds_toArray, List.set_cons_zero, List.set_cons_succ]
  refine wpAnyH_ready (rs := [1]) (by kernel_rfl) (by simp) ?_
  refine AllReadyH.cons (o := ⟨some 7, _, _, _, _, _⟩) rfl (fun K hK => ?_) AllReadyH.nil
  go_simp
  refine Calls.mono (C0 _) ?_
  rintro e w1 ⟨rfl, hb1⟩
  refine hK.out _ _ ⟨hHeld.1.new hb1, hHeld.2.1.new hb1, hHeld.2.2.1.new hb1, hHeld.2.2.2.1.new hb1, below_trans hHeld.2.2.2.2 hb1 (Nat.le_refl _)⟩ (fun hHeld' => ?_)
  clear hK K hHeld hb1
  have hHeld := hHeld'
  clear hHeld'
  try simp only [Act.put, List.setIfInBounds_toArray, List.set_cons_zero, List.set_cons_succ]
  cases b0
  · skip
    refine wpAnyH_take (i := 2) (oi := ⟨some 8, _, _, _, _, _⟩) (v := ?_) rfl (by kernel_rfl) (by kernel_rfl) (by kernel_rfl) (fun _ _ _ h => h) (Or.inl ⟨by kernel_rfl, ?_⟩) hHeld ?_
    rotate_left
    focus (intro W hS; have c0_0 := (hS.1).at_ (j := 0) rfl; have c0_1 := (hS.1).at_ (j := 1) rfl; have c0_2 := (hS.1).at_ (j := 2) rfl; have c0_3 := (hS.1).at_ (j := 3) rfl; have c1_0 := (hS.2.1).at_ (j := 0) rfl; have c2_0 := (hS.2.2.1).at_ (j := 0) rfl; have c2_1 := (hS.2.2.1).at_ (j := 1) rfl; have c3_0 := (hS.2.2.2.1).at_ (j := 0) rfl; clear hS; first | (go_simp; done) | (go_simp; with_reducible rfl))
    try simp only [Act.put, List.setIfInBounds_toArray, List.set_cons_zero, List.set_cons_succ]
    refine wpAnyH_take (i := 3) (oi := ⟨some 9, _, _, _, _, _⟩) (v := undef) rfl (by kernel_rfl) (by kernel_rfl) (by kernel_rfl) (fun _ _ _ h => h) (Or.inr ⟨by kernel_rfl, rfl⟩) hHeld ?_
    try simp only [Act.put, List.setIfInBounds_toArray, List.set_cons_zero, List.set_cons_succ]
    refine wpAnyH_take (i := 4) (oi := ⟨some 10, _, _, _, _, _⟩) (v := undef) rfl (by kernel_rfl) (by kernel_rfl) (by kernel_rfl) (fun _ _ _ h => h) (Or.inr ⟨by kernel_rfl, rfl⟩) hHeld ?_
    try simp only [Act.put, List.setIfInBounds_toArray, List.set_cons_zero, List.set_cons_succ]
    refine wpAnyH_take (i := 6) (oi := ⟨some 12, _, _, _, _, _⟩) (v := undef) rfl (by kernel_rfl) (by kernel_rfl) (by kernel_rfl) (fun _ _ _ h => h) (Or.inr ⟨by kernel_rfl, rfl⟩) hHeld ?_
    try simp only [Act.put, List.setIfInBounds_toArray, List.set_cons_zero, List.set_cons_succ]
    refine wpAnyH_take (i := 5) (oi := ⟨some 11, _, _, _, _, _⟩) (v := undef) rfl (by kernel_rfl) (by kernel_rfl) (by kernel_rfl) (fun _ _ _ h => h) (Or.inr ⟨by kernel_rfl, rfl⟩) hHeld ?_
    try simp only [Act.put, List.setIfInBounds_toArray, List.set_cons_zero, List.set_cons_succ]
    refine wpAnyH_take (i := 7) (oi := ⟨some 13, _, _, _, _, _⟩) (v := undef) rfl (by kernel_rfl) (by kernel_rfl) (by kernel_rfl) (fun _ _ _ h => h) (Or.inr ⟨by kernel_rfl, rfl⟩) hHeld ?_
    try simp only [Act.put, List.setIfInBounds_toArray, List.set_cons_zero, List.set_cons_succ]
    refine wpAnyH_take (i := 8) (oi := ⟨some 14, _, _, _, _, _⟩) (v := ?_) rfl (by kernel_rfl) (by kernel_rfl) (by kernel_rfl) (fun _ _ _ h => h) (Or.inl ⟨by kernel_rfl, ?_⟩) hHeld ?_
    rotate_left
    focus (intro W hS; have c0_0 := (hS.1).at_ (j := 0) rfl; have c0_1 := (hS.1).at_ (j := 1) rfl; have c0_2 := (hS.1).at_ (j := 2) rfl; have c0_3 := (hS.1).at_ (j := 3) rfl; have c1_0 := (hS.2.1).at_ (j := 0) rfl; have c2_0 := (hS.2.2.1).at_ (j := 0) rfl; have c2_1 := (hS.2.2.1).at_ (j := 1) rfl; have c3_0 := (hS.2.2.2.1).at_ (j := 0) rfl; clear hS; first | (go_simp; done) | (go_simp; with_reducible rfl))
    try simp only [Act.put, List.setIfInBounds_toArray, List.set_cons_zero, List.set_cons_succ]
    refine wpAnyH_take (i := 9) (oi := ⟨some 15, _, _, _, _, _⟩) (v := ?_) rfl (by kernel_rfl) (by kernel_rfl) (by kernel_rfl) (fun _ _ _ h => h) (Or.inl ⟨by kernel_rfl, ?_⟩) hHeld ?_
    rotate_left
    focus (intro W hS; have c0_0 := (hS.1).at_ (j := 0) rfl; have c0_1 := (hS.1).at_ (j := 1) rfl; have c0_2 := (hS.1).at_ (j := 2) rfl; have c0_3 := (hS.1).at_ (j := 3) rfl; have c1_0 := (hS.2.1).at_ (j := 0) rfl; have c2_0 := (hS.2.2.1).at_ (j := 0) rfl; have c2_1 := (hS.2.2.1).at_ (j := 1) rfl; have c3_0 := (hS.2.2.2.1).at_ (j := 0) rfl; clear hS; first | (go_simp; done) | (go_simp; with_reducible rfl))
    try simp only [Act.put, List.setIfInBounds_toArray, List.set_cons_zero, List.set_cons_succ]
    refine wpAnyH_take (i := 10) (oi := ⟨some 16, _, _, _, _, _⟩) (v := undef) rfl (by kernel_rfl) (by kernel_rfl) (by kernel_rfl) (fun _ _ _ h => h) (Or.inr ⟨by kernel_rfl, rfl⟩) hHeld ?_
    try simp only [Act.put, List.setIfInBounds_toArray, List.set_cons_zero, List.set_cons_succ]
    refine wpAnyH_take (i := 11) (oi := ⟨some 17, _, _, _, _, _⟩) (v := undef) rfl (by kernel_rfl) (by kernel_rfl) (by kernel_rfl) (fun _ _ _ h => h) (Or.inr ⟨by kernel_rfl, rfl⟩) hHeld ?_
    try simp only [Act.put, List.setIfInBounds_toArray, List.set_cons_zero, List.set_cons_succ]
    refine wpAnyH_take (i := 13) (oi := ⟨some 19, _, _, _, _, _⟩) (v := undef) rfl (by kernel_rfl) (by kernel_rfl) (by kernel_rfl) (fun _ _ _ h => h) (Or.inr ⟨by kernel_rfl, rfl⟩) hHeld ?_
    try simp only [Act.put, List.setIfInBounds_toArray, List.set_cons_zero, List.set_cons_succ]
    refine wpAnyH_take (i := 12) (oi := ⟨some 18, _, _, _, _, _⟩) (v := undef) rfl (by kernel_rfl) (by kernel_rfl) (by kernel_rfl) (fun _ _ _ h => h) (Or.inr ⟨by kernel_rfl, rfl⟩) hHeld ?_
    try simp only [Act.put, List.setIfInBounds_toArray, List.set_cons_zero, List.set_cons_succ]
    refine wpAnyH_take (i := 14) (oi := ⟨some 20, _, _, _, _, _⟩) (v := undef) rfl (by kernel_rfl) (by kernel_rfl) (by kernel_rfl) (fun _ _ _ h => h) (Or.inr ⟨by kernel_rfl, rfl⟩) hHeld ?_
    try simp only [Act.put, List.setIfInBounds_toArray, List.set_cons_zero, List.set_cons_succ]
    refine wpAnyH_take (i := 15) (oi := ⟨some 21, _, _, _, _, _⟩) (v := ?_) rfl (by kernel_rfl) (by kernel_rfl) (by kernel_rfl) (fun _ _ _ h => h) (Or.inl ⟨by kernel_rfl, ?_⟩) hHeld ?_
    rotate_left
    focus (intro W hS; have c0_0 := (hS.1).at_ (j := 0) rfl; have c0_1 := (hS.1).at_ (j := 1) rfl; have c0_2 := (hS.1).at_ (j := 2) rfl; have c0_3 := (hS.1).at_ (j := 3) rfl; have c1_0 := (hS.2.1).at_ (j := 0) rfl; have c2_0 := (hS.2.2.1).at_ (j := 0) rfl; have c2_1 := (hS.2.2.1).at_ (j := 1) rfl; have c3_0 := (hS.2.2.2.1).at_ (j := 0) rfl; clear hS; first | (go_simp; done) | (go_simp; with_reducible rfl))
    try simp only [Act.put, List.setIfInBounds_toArray, List.set_cons_zero, List.set_cons_succ]
    refine wpAnyH_take (i := 16) (oi := ⟨some 22, _, _, _, _, _⟩) (v := ?_) rfl (by kernel_rfl) (by kernel_rfl) (by kernel_rfl) (fun _ _ _ h => h) (Or.inl ⟨by kernel_rfl, ?_⟩) hHeld ?_
    rotate_left
    focus (intro W hS; have c0_0 := (hS.1).at_ (j := 0) rfl; have c0_1 := (hS.1).at_ (j := 1) rfl; have c0_2 := (hS.1).at_ (j := 2) rfl; have c0_3 := (hS.1).at_ (j := 3) rfl; have c1_0 := (hS.2.1).at_ (j := 0) rfl; have c2_0 := (hS.2.2.1).at_ (j := 0) rfl; have c2_1 := (hS.2.2.1).at_ (j := 1) rfl; have c3_0 := (hS.2.2.2.1).at_ (j := 0) rfl; clear hS; first | (go_simp; done) | (go_simp; with_reducible rfl))
    try simp only [Act.put, List.setIfInBounds_toArray, List.set_cons_zero, List.set_cons_succ]
    refine wpAnyH_take (i := 17) (oi := ⟨some 23, _, _, _, _, _⟩) (v := undef) rfl (by kernel_rfl) (by kernel_rfl) (by kernel_rfl) (fun _ _ _ h => h) (Or.inr ⟨by kernel_rfl, rfl⟩) hHeld ?_
    try simp only [Act.put, List.setIfInBounds_toArray, List.set_cons_zero, List.set_cons_succ]
    refine wpAnyH_take (i := 18) (oi := ⟨some 24, _, _, _, _, _⟩) (v := undef) rfl (by kernel_rfl) (by kernel_rfl) (by kernel_rfl) (fun _ _ _ h => h) (Or.inr ⟨by kernel_rfl, rfl⟩) hHeld ?_
    try simp only [Act.put, List.setIfInBounds_toArray, List.set_cons_zero, List.set_cons_succ]
    refine wpAnyH_take (i := 19) (oi := ⟨some 25, _, _, _, _, _⟩) (v := undef) rfl (by kernel_rfl) (by kernel_rfl) (by kernel_rfl) (fun _ _ _ h => h) (Or.inr ⟨by kernel_rfl, rfl⟩) hHeld ?_
    try simp only [Act.put, List.setIfInBounds_toArray, List.set_cons_zero, List.set_cons_succ]
    refine wpAnyH_take (i := 20) (oi := ⟨some 26, _, _, _, _, _⟩) (v := undef) rfl (by kernel_rfl) (by kernel_rfl) (by kernel_rfl) (fun _ _ _ h => h) (Or.inr ⟨by kernel_rfl, rfl⟩) hHeld ?_
    try simp only [Act.put, List.setIfInBounds_toArray, List.set_cons_zero, List.set_cons_succ]
    refine wpAnyH_take (i := 21) (oi := ⟨some 27, _, _, _, _, _⟩) (v := ?_) rfl (by kernel_rfl) (by kernel_rfl) (by kernel_rfl) (fun _ _ _ h => h) (Or.inl ⟨by kernel_rfl, ?_⟩) hHeld ?_
    rotate_left
    focus (intro W hS; have c0_0 := (hS.1).at_ (j := 0) rfl; have c0_1 := (hS.1).at_ (j := 1) rfl; have c0_2 := (hS.1).at_ (j := 2) rfl; have c0_3 := (hS.1).at_ (j := 3) rfl; have c1_0 := (hS.2.1).at_ (j := 0) rfl; have c2_0 := (hS.2.2.1).at_ (j := 0) rfl; have c2_1 := (hS.2.2.1).at_ (j := 1) rfl; have c3_0 := (hS.2.2.2.1).at_ (j := 0) rfl; clear hS; first | (go_simp; done) | (go_simp; with_reducible rfl))
    try simp only [Act.put, List.setIfInBounds_toArray, List.set_cons_zero, List.set_cons_succ]
    refine wpAnyH_take (i := 22) (oi := ⟨some 5, _, _, _, _, _⟩) (v := ?_) rfl (by kernel_rfl) (by kernel_rfl) (by kernel_rfl) (fun _ _ _ h => h) (Or.inl ⟨by kernel_rfl, ?_⟩) hHeld ?_
    rotate_left
    focus (intro W hS; have c0_0 := (hS.1).at_ (j := 0) rfl; have c0_1 := (hS.1).at_ (j := 1) rfl; have c0_2 := (hS.1).at_ (j := 2) rfl; have c0_3 := (hS.1).at_ (j := 3) rfl; have c1_0 := (hS.2.1).at_ (j := 0) rfl; have c2_0 := (hS.2.2.1).at_ (j := 0) rfl; have c2_1 := (hS.2.2.1).at_ (j := 1) rfl; have c3_0 := (hS.2.2.2.1).at_ (j := 0) rfl; clear hS; first | (go_simp; done) | (go_simp; with_reducible rfl))
    try simp only [Act.put, List.setIfInBounds_toArray, List.set_cons_zero, List.set_cons_succ]
    refine wpAnyH_done (by kernel_rfl) ?_ _
    go_wp2_with fail
    go_ret
    exact ⟨rfl, hHeld.2.2.2.2⟩
  · skip
    refine wpAnyH_take (i := 2) (oi := ⟨some 8, _, _, _, _, _⟩) (v := ?_) rfl (by kernel_rfl) (by kernel_rfl) (by kernel_rfl) (fun _ _ _ h => h) (Or.inl ⟨by kernel_rfl, ?_⟩) hHeld ?_
    rotate_left
    focus (intro W hS; have c0_0 := (hS.1).at_ (j := 0) rfl; have c0_1 := (hS.1).at_ (j := 1) rfl; have c0_2 := (hS.1).at_ (j := 2) rfl; have c0_3 := (hS.1).at_ (j := 3) rfl; have c1_0 := (hS.2.1).at_ (j := 0) rfl; have c2_0 := (hS.2.2.1).at_ (j := 0) rfl; have c2_1 := (hS.2.2.1).at_ (j := 1) rfl; have c3_0 := (hS.2.2.2.1).at_ (j := 0) rfl; clear hS; first | (go_simp; done) | (go_simp; with_reducible rfl))
    try simp only [Act.put, List.setIfInBounds_toArray, List.set_cons_zero, List.set_cons_succ]
    refine wpAnyH_take (i := 3) (oi := ⟨some 9, _, _, _, _, _⟩) (v := ?_) rfl (by kernel_rfl) (by kernel_rfl) (by kernel_rfl) (fun _ _ _ h => h) (Or.inl ⟨by kernel_rfl, ?_⟩) hHeld ?_
    rotate_left
    focus (intro W hS; have c0_0 := (hS.1).at_ (j := 0) rfl; have c0_1 := (hS.1).at_ (j := 1) rfl; have c0_2 := (hS.1).at_ (j := 2) rfl; have c0_3 := (hS.1).at_ (j := 3) rfl; have c1_0 := (hS.2.1).at_ (j := 0) rfl; have c2_0 := (hS.2.2.1).at_ (j := 0) rfl; have c2_1 := (hS.2.2.1).at_ (j := 1) rfl; have c3_0 := (hS.2.2.2.1).at_ (j := 0) rfl; clear hS; first | (go_simp; done) | (go_simp; with_reducible rfl))
    try simp only [Act.put, List.setIfInBounds_toArray, List.set_cons_zero, List.set_cons_succ]
    refine wpAnyH_take (i := 4) (oi := ⟨some 10, _, _, _, _, _⟩) (v := ?_) rfl (by kernel_rfl) (by kernel_rfl) (by kernel_rfl) (fun _ _ _ h => h) (Or.inl ⟨by kernel_rfl, ?_⟩) hHeld ?_
    rotate_left
    focus (intro W hS; have c0_0 := (hS.1).at_ (j := 0) rfl; have c0_1 := (hS.1).at_ (j := 1) rfl; have c0_2 := (hS.1).at_ (j := 2) rfl; have c0_3 := (hS.1).at_ (j := 3) rfl; have c1_0 := (hS.2.1).at_ (j := 0) rfl; have c2_0 := (hS.2.2.1).at_ (j := 0) rfl; have c2_1 := (hS.2.2.1).at_ (j := 1) rfl; have c3_0 := (hS.2.2.2.1).at_ (j := 0) rfl; clear hS; first | (go_simp; done) | (go_simp; with_reducible rfl))
    try simp only [Act.put, List.setIfInBounds_toArray, List.set_cons_zero, List.set_cons_succ]
    refine wpAnyH_take (i := 6) (oi := ⟨some 12, _, _, _, _, _⟩) (v := ?_) rfl (by kernel_rfl) (by kernel_rfl) (by kernel_rfl) (fun _ _ _ h => h) (Or.inl ⟨by kernel_rfl, ?_⟩) hHeld ?_
    rotate_left
    focus (intro W hS; have c0_0 := (hS.1).at_ (j := 0) rfl; have c0_1 := (hS.1).at_ (j := 1) rfl; have c0_2 := (hS.1).at_ (j := 2) rfl; have c0_3 := (hS.1).at_ (j := 3) rfl; have c1_0 := (hS.2.1).at_ (j := 0) rfl; have c2_0 := (hS.2.2.1).at_ (j := 0) rfl; have c2_1 := (hS.2.2.1).at_ (j := 1) rfl; have c3_0 := (hS.2.2.2.1).at_ (j := 0) rfl; clear hS; first | (go_simp; done) | (go_simp; with_reducible rfl))
    try simp only [Act.put, List.setIfInBounds_toArray, List.set_cons_zero, List.set_cons_succ]
    refine wpAnyH_ready (rs := [5]) (by kernel_rfl) (by simp) ?_
    refine AllReadyH.cons (o := ⟨some 11, _, _, _, _, _⟩) rfl (fun K hK => ?_) AllReadyH.nil
    go_simp
    refine Calls.mono (impl_optionOf _ _ _) ?_
    rintro e w1 ⟨rfl, hb1⟩
    refine hK.out _ _ ⟨hHeld.1.new hb1, hHeld.2.1.new hb1, hHeld.2.2.1.new hb1, hHeld.2.2.2.1.new hb1, below_trans hHeld.2.2.2.2 hb1 (Nat.le_refl _)⟩ (fun hHeld' => ?_)
    clear hK K hHeld hb1
    have hHeld := hHeld'
    clear hHeld'
    try simp only [Act.put, List.setIfInBounds_toArray, List.set_cons_zero, List.set_cons_succ]
    refine wpAnyH_ready (rs := [7]) (by kernel_rfl) (by simp) ?_
    refine AllReadyH.cons (o := ⟨some 13, _, _, _, _, _⟩) rfl (fun K hK => ?_) AllReadyH.nil
    go_simp
    refine Calls.mono (C1 _) ?_
    rintro e w1 ⟨rfl, hb1⟩
    refine hK.out _ _ ⟨hHeld.1.new hb1, hHeld.2.1.new hb1, hHeld.2.2.1.new hb1, hHeld.2.2.2.1.new hb1, below_trans hHeld.2.2.2.2 hb1 (Nat.le_refl _)⟩ (fun hHeld' => ?_)
    clear hK K hHeld hb1
    have hHeld := hHeld'
    clear hHeld'
    try simp only [Act.put, List.setIfInBounds_toArray, List.set_cons_zero, List.set_cons_succ]
    cases b1
    · skip
      refine wpAnyH_take (i := 8) (oi := ⟨some 14, _, _, _, _, _⟩) (v := ?_) rfl (by kernel_rfl) (by kernel_rfl) (by kernel_rfl) (fun _ _ _ h => h) (Or.inl ⟨by kernel_rfl, ?_⟩) hHeld ?_
      rotate_left
      focus (intro W hS; have c0_0 := (hS.1).at_ (j := 0) rfl; have c0_1 := (hS.1).at_ (j := 1) rfl; have c0_2 := (hS.1).at_ (j := 2) rfl; have c0_3 := (hS.1).at_ (j := 3) rfl; have c1_0 := (hS.2.1).at_ (j := 0) rfl; have c2_0 := (hS.2.2.1).at_ (j := 0) rfl; have c2_1 := (hS.2.2.1).at_ (j := 1) rfl; have c3_0 := (hS.2.2.2.1).at_ (j := 0) rfl; clear hS; first | (go_simp; done) | (go_simp; with_reducible rfl))
      try simp only [Act.put, List.setIfInBounds_toArray, List.set_cons_zero, List.set_cons_succ]
      refine wpAnyH_take (i := 9) (oi := ⟨some 15, _, _, _, _, _⟩) (v := ?_) rfl (by kernel_rfl) (by kernel_rfl) (by kernel_rfl) (fun _ _ _ h => h) (Or.inl ⟨by kernel_rfl, ?_⟩) hHeld ?_
      rotate_left
      focus (intro W hS; have c0_0 := (hS.1).at_ (j := 0) rfl; have c0_1 := (hS.1).at_ (j := 1) rfl; have c0_2 := (hS.1).at_ (j := 2) rfl; have c0_3 := (hS.1).at_ (j := 3) rfl; have c1_0 := (hS.2.1).at_ (j := 0) rfl; have c2_0 := (hS.2.2.1).at_ (j := 0) rfl; have c2_1 := (hS.2.2.1).at_ (j := 1) rfl; have c3_0 := (hS.2.2.2.1).at_ (j := 0) rfl; clear hS; first | (go_simp; done) | (go_simp; with_reducible rfl))
      try simp only [Act.put, List.setIfInBounds_toArray, List.set_cons_zero, List.set_cons_succ]
      refine wpAnyH_take (i := 10) (oi := ⟨some 16, _, _, _, _, _⟩) (v := undef) rfl (by kernel_rfl) (by kernel_rfl) (by kernel_rfl) (fun _ _ _ h => h) (Or.inr ⟨by kernel_rfl, rfl⟩) hHeld ?_
      try simp only [Act.put, List.setIfInBounds_toArray, List.set_cons_zero, List.set_cons_succ]
      refine wpAnyH_take (i := 11) (oi := ⟨some 17, _, _, _, _, _⟩) (v := undef) rfl (by kernel_rfl) (by kernel_rfl) (by kernel_rfl) (fun _ _ _ h => h) (Or.inr ⟨by kernel_rfl, rfl⟩) hHeld ?_
      try simp only [Act.put, List.setIfInBounds_toArray, List.set_cons_zero, List.set_cons_succ]
      refine wpAnyH_take (i := 13) (oi := ⟨some 19, _, _, _, _, _⟩) (v := undef) rfl (by kernel_rfl) (by kernel_rfl) (by kernel_rfl) (fun _ _ _ h => h) (Or.inr ⟨by kernel_rfl, rfl⟩) hHeld ?_
      try simp only [Act.put, List.setIfInBounds_toArray, List.set_cons_zero, List.set_cons_succ]
      refine wpAnyH_take (i := 12) (oi := ⟨some 18, _, _, _, _, _⟩) (v := undef) rfl (by kernel_rfl) (by kernel_rfl) (by kernel_rfl) (fun _ _ _ h => h) (Or.inr ⟨by kernel_rfl, rfl⟩) hHeld ?_
      try simp only [Act.put, List.setIfInBounds_toArray, List.set_cons_zero, List.set_cons_succ]
      refine wpAnyH_take (i := 14) (oi := ⟨some 20, _, _, _, _, _⟩) (v := undef) rfl (by kernel_rfl) (by kernel_rfl) (by kernel_rfl) (fun _ _ _ h => h) (Or.inr ⟨by kernel_rfl, rfl⟩) hHeld ?_
      try simp only [Act.put, List.setIfInBounds_toArray, List.set_cons_zero, List.set_cons_succ]
      refine wpAnyH_take (i := 15) (oi := ⟨some 21, _, _, _, _, _⟩) (v := ?_) rfl (by kernel_rfl) (by kernel_rfl) (by kernel_rfl) (fun _ _ _ h => h) (Or.inl ⟨by kernel_rfl, ?_⟩) hHeld ?_
      rotate_left
      focus (intro W hS; have c0_0 := (hS.1).at_ (j := 0) rfl; have c0_1 := (hS.1).at_ (j := 1) rfl; have c0_2 := (hS.1).at_ (j := 2) rfl; have c0_3 := (hS.1).at_ (j := 3) rfl; have c1_0 := (hS.2.1).at_ (j := 0) rfl; have c2_0 := (hS.2.2.1).at_ (j := 0) rfl; have c2_1 := (hS.2.2.1).at_ (j := 1) rfl; have c3_0 := (hS.2.2.2.1).at_ (j := 0) rfl; clear hS; first | (go_simp; done) | (go_simp; with_reducible rfl))
      try simp only [Act.put, List.setIfInBounds_toArray, List.set_cons_zero, List.set_cons_succ]
      refine wpAnyH_take (i := 16) (oi := ⟨some 22, _, _, _, _, _⟩) (v := ?_) rfl (by kernel_rfl) (by kernel_rfl) (by kernel_rfl) (fun _ _ _ h => h) (Or.inl ⟨by kernel_rfl, ?_⟩) hHeld ?_
      rotate_left
      focus (intro W hS; have c0_0 := (hS.1).at_ (j := 0) rfl; have c0_1 := (hS.1).at_ (j := 1) rfl; have c0_2 := (hS.1).at_ (j := 2) rfl; have c0_3 := (hS.1).at_ (j := 3) rfl; have c1_0 := (hS.2.1).at_ (j := 0) rfl; have c2_0 := (hS.2.2.1).at_ (j := 0) rfl; have c2_1 := (hS.2.2.1).at_ (j := 1) rfl; have c3_0 := (hS.2.2.2.1).at_ (j := 0) rfl; clear hS; first | (go_simp; done) | (go_simp; with_reducible rfl))
      try simp only [Act.put, List.setIfInBounds_toArray, List.set_cons_zero, List.set_cons_succ]
      refine wpAnyH_take (i := 17) (oi := ⟨some 23, _, _, _, _, _⟩) (v := undef) rfl (by kernel_rfl) (by kernel_rfl) (by kernel_rfl) (fun _ _ _ h => h) (Or.inr ⟨by kernel_rfl, rfl⟩) hHeld ?_
      try simp only [Act.put, List.setIfInBounds_toArray, List.set_cons_zero, List.set_cons_succ]
      refine wpAnyH_take (i := 18) (oi := ⟨some 24, _, _, _, _, _⟩) (v := undef) rfl (by kernel_rfl) (by kernel_rfl) (by kernel_rfl) (fun _ _ _ h => h) (Or.inr ⟨by kernel_rfl, rfl⟩) hHeld ?_
      try simp only [Act.put, List.setIfInBounds_toArray, List.set_cons_zero, List.set_cons_succ]
      refine wpAnyH_take (i := 19) (oi := ⟨some 25, _, _, _, _, _⟩) (v := undef) rfl (by kernel_rfl) (by kernel_rfl) (by kernel_rfl) (fun _ _ _ h => h) (Or.inr ⟨by kernel_rfl, rfl⟩) hHeld ?_
      try simp only [Act.put, List.setIfInBounds_toArray, List.set_cons_zero, List.set_cons_succ]
      refine wpAnyH_take (i := 20) (oi := ⟨some 26, _, _, _, _, _⟩) (v := undef) rfl (by kernel_rfl) (by kernel_rfl) (by kernel_rfl) (fun _ _ _ h => h) (Or.inr ⟨by kernel_rfl, rfl⟩) hHeld ?_
      try simp only [Act.put, List.setIfInBounds_toArray, List.set_cons_zero, List.set_cons_succ]
      refine wpAnyH_take (i := 21) (oi := ⟨some 27, _, _, _, _, _⟩) (v := ?_) rfl (by kernel_rfl) (by kernel_rfl) (by kernel_rfl) (fun _ _ _ h => h) (Or.inl ⟨by kernel_rfl, ?_⟩) hHeld ?_
      rotate_left
      focus (intro W hS; have c0_0 := (hS.1).at_ (j := 0) rfl; have c0_1 := (hS.1).at_ (j := 1) rfl; have c0_2 := (hS.1).at_ (j := 2) rfl; have c0_3 := (hS.1).at_ (j := 3) rfl; have c1_0 := (hS.2.1).at_ (j := 0) rfl; have c2_0 := (hS.2.2.1).at_ (j := 0) rfl; have c2_1 := (hS.2.2.1).at_ (j := 1) rfl; have c3_0 := (hS.2.2.2.1).at_ (j := 0) rfl; clear hS; first | (go_simp; done) | (go_simp; with_reducible rfl))
      try simp only [Act.put, List.setIfInBounds_toArray, List.set_cons_zero, List.set_cons_succ]
      refine wpAnyH_take (i := 22) (oi := ⟨some 5, _, _, _, _, _⟩) (v := ?_) rfl (by kernel_rfl) (by kernel_rfl) (by kernel_rfl) (fun _ _ _ h => h) (Or.inl ⟨by kernel_rfl, ?_⟩) hHeld ?_
      rotate_left
      focus (intro W hS; have c0_0 := (hS.1).at_ (j := 0) rfl; have c0_1 := (hS.1).at_ (j := 1) rfl; have c0_2 := (hS.1).at_ (j := 2) rfl; have c0_3 := (hS.1).at_ (j := 3) rfl; have c1_0 := (hS.2.1).at_ (j := 0) rfl; have c2_0 := (hS.2.2.1).at_ (j := 0) rfl; have c2_1 := (hS.2.2.1).at_ (j := 1) rfl; have c3_0 := (hS.2.2.2.1).at_ (j := 0) rfl; clear hS; first | (go_simp; done) | (go_simp; with_reducible rfl))
      try simp only [Act.put, List.setIfInBounds_toArray, List.set_cons_zero, List.set_cons_succ]
      refine wpAnyH_done (by kernel_rfl) ?_ _
      go_wp2_with fail
      go_ret
      exact ⟨rfl, hHeld.2.2.2.2⟩
    · skip
      refine wpAnyH_take (i := 8) (oi := ⟨some 14, _, _, _, _, _⟩) (v := ?_) rfl (by kernel_rfl) (by kernel_rfl) (by kernel_rfl) (fun _ _ _ h => h) (Or.inl ⟨by kernel_rfl, ?_⟩) hHeld ?_
      rotate_left
      focus (intro W hS; have c0_0 := (hS.1).at_ (j := 0) rfl; have c0_1 := (hS.1).at_ (j := 1) rfl; have c0_2 := (hS.1).at_ (j := 2) rfl; have c0_3 := (hS.1).at_ (j := 3) rfl; have c1_0 := (hS.2.1).at_ (j := 0) rfl; have c2_0 := (hS.2.2.1).at_ (j := 0) rfl; have c2_1 := (hS.2.2.1).at_ (j := 1) rfl; have c3_0 := (hS.2.2.2.1).at_ (j := 0) rfl; clear hS; first | (go_simp; done) | (go_simp; with_reducible rfl))
      try simp only [Act.put, List.setIfInBounds_toArray, List.set_cons_zero, List.set_cons_succ]
      refine wpAnyH_take (i := 9) (oi := ⟨some 15, _, _, _, _, _⟩) (v := ?_) rfl (by kernel_rfl) (by kernel_rfl) (by kernel_rfl) (fun _ _ _ h => h) (Or.inl ⟨by kernel_rfl, ?_⟩) hHeld ?_
      rotate_left
      focus (intro W hS; have c0_0 := (hS.1).at_ (j := 0) rfl; have c0_1 := (hS.1).at_ (j := 1) rfl; have c0_2 := (hS.1).at_ (j := 2) rfl; have c0_3 := (hS.1).at_ (j := 3) rfl; have c1_0 := (hS.2.1).at_ (j := 0) rfl; have c2_0 := (hS.2.2.1).at_ (j := 0) rfl; have c2_1 := (hS.2.2.1).at_ (j := 1) rfl; have c3_0 := (hS.2.2.2.1).at_ (j := 0) rfl; clear hS; first | (go_simp; done) | (go_simp; with_reducible rfl))
      try simp only [Act.put, List.setIfInBounds_toArray, List.set_cons_zero, List.set_cons_succ]
      refine wpAnyH_take (i := 10) (oi := ⟨some 16, _, _, _, _, _⟩) (v := ?_) rfl (by kernel_rfl) (by kernel_rfl) (by kernel_rfl) (fun _ _ _ h => h) (Or.inl ⟨by kernel_rfl, ?_⟩) hHeld ?_
      rotate_left
      focus (intro W hS; have c0_0 := (hS.1).at_ (j := 0) rfl; have c0_1 := (hS.1).at_ (j := 1) rfl; have c0_2 := (hS.1).at_ (j := 2) rfl; have c0_3 := (hS.1).at_ (j := 3) rfl; have c1_0 := (hS.2.1).at_ (j := 0) rfl; have c2_0 := (hS.2.2.1).at_ (j := 0) rfl; have c2_1 := (hS.2.2.1).at_ (j := 1) rfl; have c3_0 := (hS.2.2.2.1).at_ (j := 0) rfl; clear hS; first | (go_simp; done) | (go_simp; with_reducible rfl))
      try simp only [Act.put, List.setIfInBounds_toArray, List.set_cons_zero, List.set_cons_succ]
      refine wpAnyH_take (i := 11) (oi := ⟨some 17, _, _, _, _, _⟩) (v := ?_) rfl (by kernel_rfl) (by kernel_rfl) (by kernel_rfl) (fun _ _ _ h => h) (Or.inl ⟨by kernel_rfl, ?_⟩) hHeld ?_
      rotate_left
      focus (intro W hS; have c0_0 := (hS.1).at_ (j := 0) rfl; have c0_1 := (hS.1).at_ (j := 1) rfl; have c0_2 := (hS.1).at_ (j := 2) rfl; have c0_3 := (hS.1).at_ (j := 3) rfl; have c1_0 := (hS.2.1).at_ (j := 0) rfl; have c2_0 := (hS.2.2.1).at_ (j := 0) rfl; have c2_1 := (hS.2.2.1).at_ (j := 1) rfl; have c3_0 := (hS.2.2.2.1).at_ (j := 0) rfl; clear hS; first | (go_simp; done) | (go_simp; with_reducible rfl))
      try simp only [Act.put, List.setIfInBounds_toArray, List.set_cons_zero, List.set_cons_succ]
      refine wpAnyH_take (i := 13) (oi := ⟨some 19, _, _, _, _, _⟩) (v := ?_) rfl (by kernel_rfl) (by kernel_rfl) (by kernel_rfl) (fun _ _ _ h => h) (Or.inl ⟨by kernel_rfl, ?_⟩) hHeld ?_
      rotate_left
      focus (intro W hS; have c0_0 := (hS.1).at_ (j := 0) rfl; have c0_1 := (hS.1).at_ (j := 1) rfl; have c0_2 := (hS.1).at_ (j := 2) rfl; have c0_3 := (hS.1).at_ (j := 3) rfl; have c1_0 := (hS.2.1).at_ (j := 0) rfl; have c2_0 := (hS.2.2.1).at_ (j := 0) rfl; have c2_1 := (hS.2.2.1).at_ (j := 1) rfl; have c3_0 := (hS.2.2.2.1).at_ (j := 0) rfl; clear hS; first | (go_simp; done) | (go_simp; with_reducible rfl))
      try simp only [Act.put, List.setIfInBounds_toArray, List.set_cons_zero, List.set_cons_succ]
      refine wpAnyH_ready (rs := [12]) (by kernel_rfl) (by simp) ?_
      refine AllReadyH.cons (o := ⟨some 18, _, _, _, _, _⟩) rfl (fun K hK => ?_) AllReadyH.nil
      go_simp
      refine Calls.mono (impl_optionOf _ _ _) ?_
      rintro e w1 ⟨rfl, hb1⟩
      refine hK.out _ _ ⟨hHeld.1.new hb1, hHeld.2.1.new hb1, hHeld.2.2.1.new hb1, hHeld.2.2.2.1.new hb1, below_trans hHeld.2.2.2.2 hb1 (Nat.le_refl _)⟩ (fun hHeld' => ?_)
      clear hK K hHeld hb1
      have hHeld := hHeld'
      clear hHeld'
      try simp only [Act.put, List.setIfInBounds_toArray, List.set_cons_zero, List.set_cons_succ]
      refine wpAnyH_ready (rs := [14]) (by kernel_rfl) (by simp) ?_
      refine AllReadyH.cons (o := ⟨some 20, _, _, _, _, _⟩) rfl (fun K hK => ?_) AllReadyH.nil
      go_simp
      refine Calls.mono (C2 _) ?_
      rintro e w1 ⟨rfl, hb1⟩
      refine hK.out _ _ ⟨hHeld.1.new hb1, hHeld.2.1.new hb1, hHeld.2.2.1.new hb1, hHeld.2.2.2.1.new hb1, below_trans hHeld.2.2.2.2 hb1 (Nat.le_refl _)⟩ (fun hHeld' => ?_)
      clear hK K hHeld hb1
      have hHeld := hHeld'
      clear hHeld'
      try simp only [Act.put, List.setIfInBounds_toArray, List.set_cons_zero, List.set_cons_succ]
      cases b2
      · skip
        refine wpAnyH_take (i := 15) (oi := ⟨some 21, _, _, _, _, _⟩) (v := ?_) rfl (by kernel_rfl) (by kernel_rfl) (by kernel_rfl) (fun _ _ _ h => h) (Or.inl ⟨by kernel_rfl, ?_⟩) hHeld ?_
        rotate_left
        focus (intro W hS; have c0_0 := (hS.1).at_ (j := 0) rfl; have c0_1 := (hS.1).at_ (j := 1) rfl; have c0_2 := (hS.1).at_ (j := 2) rfl; have c0_3 := (hS.1).at_ (j := 3) rfl; have c1_0 := (hS.2.1).at_ (j := 0) rfl; have c2_0 := (hS.2.2.1).at_ (j := 0) rfl; have c2_1 := (hS.2.2.1).at_ (j := 1) rfl; have c3_0 := (hS.2.2.2.1).at_ (j := 0) rfl; clear hS; first | (go_simp; done) | (go_simp; with_reducible rfl))
        try simp only [Act.put, List.setIfInBounds_toArray, List.set_cons_zero, List.set_cons_succ]
        refine wpAnyH_take (i := 16) (oi := ⟨some 22, _, _, _, _, _⟩) (v := ?_) rfl (by kernel_rfl) (by kernel_rfl) (by kernel_rfl) (fun _ _ _ h => h) (Or.inl ⟨by kernel_rfl, ?_⟩) hHeld ?_
        rotate_left
        focus (intro W hS; have c0_0 := (hS.1).at_ (j := 0) rfl; have c0_1 := (hS.1).at_ (j := 1) rfl; have c0_2 := (hS.1).at_ (j := 2) rfl; have c0_3 := (hS.1).at_ (j := 3) rfl; have c1_0 := (hS.2.1).at_ (j := 0) rfl; have c2_0 := (hS.2.2.1).at_ (j := 0) rfl; have c2_1 := (hS.2.2.1).at_ (j := 1) rfl; have c3_0 := (hS.2.2.2.1).at_ (j := 0) rfl; clear hS; first | (go_simp; done) | (go_simp; with_reducible rfl))
        try simp only [Act.put, List.setIfInBounds_toArray, List.set_cons_zero, List.set_cons_succ]
        refine wpAnyH_take (i := 17) (oi := ⟨some 23, _, _, _, _, _⟩) (v := undef) rfl (by kernel_rfl) (by kernel_rfl) (by kernel_rfl) (fun _ _ _ h => h) (Or.inr ⟨by kernel_rfl, rfl⟩) hHeld ?_
        try simp only [Act.put, List.setIfInBounds_toArray, List.set_cons_zero, List.set_cons_succ]
        refine wpAnyH_take (i := 18) (oi := ⟨some 24, _, _, _, _, _⟩) (v := undef) rfl (by kernel_rfl) (by kernel_rfl) (by kernel_rfl) (fun _ _ _ h => h) (Or.inr ⟨by kernel_rfl, rfl⟩) hHeld ?_
        try simp only [Act.put, List.setIfInBounds_toArray, List.set_cons_zero, List.set_cons_succ]
        refine wpAnyH_take (i := 19) (oi := ⟨some 25, _, _, _, _, _⟩) (v := undef) rfl (by kernel_rfl) (by kernel_rfl) (by kernel_rfl) (fun _ _ _ h => h) (Or.inr ⟨by kernel_rfl, rfl⟩) hHeld ?_
        try simp only [Act.put, List.setIfInBounds_toArray, List.set_cons_zero, List.set_cons_succ]
        refine wpAnyH_take (i := 20) (oi := ⟨some 26, _, _, _, _, _⟩) (v := undef) rfl (by kernel_rfl) (by kernel_rfl) (by kernel_rfl) (fun _ _ _ h => h) (Or.inr ⟨by kernel_rfl, rfl⟩) hHeld ?_
        try simp only [Act.put, List.setIfInBounds_toArray, List.set_cons_zero, List.set_cons_succ]
        refine wpAnyH_take (i := 21) (oi := ⟨some 27, _, _, _, _, _⟩) (v := ?_) rfl (by kernel_rfl) (by kernel_rfl) (by kernel_rfl) (fun _ _ _ h => h) (Or.inl ⟨by kernel_rfl, ?_⟩) hHeld ?_
        rotate_left
        focus (intro W hS; have c0_0 := (hS.1).at_ (j := 0) rfl; have c0_1 := (hS.1).at_ (j := 1) rfl; have c0_2 := (hS.1).at_ (j := 2) rfl; have c0_3 := (hS.1).at_ (j := 3) rfl; have c1_0 := (hS.2.1).at_ (j := 0) rfl; have c2_0 := (hS.2.2.1).at_ (j := 0) rfl; have c2_1 := (hS.2.2.1).at_ (j := 1) rfl; have c3_0 := (hS.2.2.2.1).at_ (j := 0) rfl; clear hS; first | (go_simp; done) | (go_simp; with_reducible rfl))
        try simp only [Act.put, List.setIfInBounds_toArray, List.set_cons_zero, List.set_cons_succ]
        refine wpAnyH_take (i := 22) (oi := ⟨some 5, _, _, _, _, _⟩) (v := ?_) rfl (by kernel_rfl) (by kernel_rfl) (by kernel_rfl) (fun _ _ _ h => h) (Or.inl ⟨by kernel_rfl, ?_⟩) hHeld ?_
        rotate_left
        focus (intro W hS; have c0_0 := (hS.1).at_ (j := 0) rfl; have c0_1 := (hS.1).at_ (j := 1) rfl; have c0_2 := (hS.1).at_ (j := 2) rfl; have c0_3 := (hS.1).at_ (j := 3) rfl; have c1_0 := (hS.2.1).at_ (j := 0) rfl; have c2_0 := (hS.2.2.1).at_ (j := 0) rfl; have c2_1 := (hS.2.2.1).at_ (j := 1) rfl; have c3_0 := (hS.2.2.2.1).at_ (j := 0) rfl; clear hS; first | (go_simp; done) | (go_simp; with_reducible rfl))
        try simp only [Act.put, List.setIfInBounds_toArray, List.set_cons_zero, List.set_cons_succ]
        refine wpAnyH_done (by kernel_rfl) ?_ _
        go_wp2_with fail
        go_ret
        exact ⟨rfl, hHeld.2.2.2.2⟩
      · skip
        refine wpAnyH_take (i := 15) (oi := ⟨some 21, _, _, _, _, _⟩) (v := ?_) rfl (by kernel_rfl) (by kernel_rfl) (by kernel_rfl) (fun _ _ _ h => h) (Or.inl ⟨by kernel_rfl, ?_⟩) hHeld ?_
        rotate_left
        focus (intro W hS; have c0_0 := (hS.1).at_ (j := 0) rfl; have c0_1 := (hS.1).at_ (j := 1) rfl; have c0_2 := (hS.1).at_ (j := 2) rfl; have c0_3 := (hS.1).at_ (j := 3) rfl; have c1_0 := (hS.2.1).at_ (j := 0) rfl; have c2_0 := (hS.2.2.1).at_ (j := 0) rfl; have c2_1 := (hS.2.2.1).at_ (j := 1) rfl; have c3_0 := (hS.2.2.2.1).at_ (j := 0) rfl; clear hS; first | (go_simp; done) | (go_simp; with_reducible rfl))
        try simp only [Act.put, List.setIfInBounds_toArray, List.set_cons_zero, List.set_cons_succ]
        refine wpAnyH_take (i := 16) (oi := ⟨some 22, _, _, _, _, _⟩) (v := ?_) rfl (by kernel_rfl) (by kernel_rfl) (by kernel_rfl) (fun _ _ _ h => h) (Or.inl ⟨by kernel_rfl, ?_⟩) hHeld ?_
        rotate_left
        focus (intro W hS; have c0_0 := (hS.1).at_ (j := 0) rfl; have c0_1 := (hS.1).at_ (j := 1) rfl; have c0_2 := (hS.1).at_ (j := 2) rfl; have c0_3 := (hS.1).at_ (j := 3) rfl; have c1_0 := (hS.2.1).at_ (j := 0) rfl; have c2_0 := (hS.2.2.1).at_ (j := 0) rfl; have c2_1 := (hS.2.2.1).at_ (j := 1) rfl; have c3_0 := (hS.2.2.2.1).at_ (j := 0) rfl; clear hS; first | (go_simp; done) | (go_simp; with_reducible rfl))
        try simp only [Act.put, List.setIfInBounds_toArray, List.set_cons_zero, List.set_cons_succ]
        refine wpAnyH_take (i := 17) (oi := ⟨some 23, _, _, _, _, _⟩) (v := ?_) rfl (by kernel_rfl) (by kernel_rfl) (by kernel_rfl) (fun _ _ _ h => h) (Or.inl ⟨by kernel_rfl, ?_⟩) hHeld ?_
        rotate_left
        focus (intro W hS; have c0_0 := (hS.1).at_ (j := 0) rfl; have c0_1 := (hS.1).at_ (j := 1) rfl; have c0_2 := (hS.1).at_ (j := 2) rfl; have c0_3 := (hS.1).at_ (j := 3) rfl; have c1_0 := (hS.2.1).at_ (j := 0) rfl; have c2_0 := (hS.2.2.1).at_ (j := 0) rfl; have c2_1 := (hS.2.2.1).at_ (j := 1) rfl; have c3_0 := (hS.2.2.2.1).at_ (j := 0) rfl; clear hS; first | (go_simp; done) | (go_simp; with_reducible rfl))
        try simp only [Act.put, List.setIfInBounds_toArray, List.set_cons_zero, List.set_cons_succ]
        refine wpAnyH_take (i := 18) (oi := ⟨some 24, _, _, _, _, _⟩) (v := ?_) rfl (by kernel_rfl) (by kernel_rfl) (by kernel_rfl) (fun _ _ _ h => h) (Or.inl ⟨by kernel_rfl, ?_⟩) hHeld ?_
        rotate_left
        focus (intro W hS; have c0_0 := (hS.1).at_ (j := 0) rfl; have c0_1 := (hS.1).at_ (j := 1) rfl; have c0_2 := (hS.1).at_ (j := 2) rfl; have c0_3 := (hS.1).at_ (j := 3) rfl; have c1_0 := (hS.2.1).at_ (j := 0) rfl; have c2_0 := (hS.2.2.1).at_ (j := 0) rfl; have c2_1 := (hS.2.2.1).at_ (j := 1) rfl; have c3_0 := (hS.2.2.2.1).at_ (j := 0) rfl; clear hS; first | (go_simp; done) | (go_simp; with_reducible rfl))
        try simp only [Act.put, List.setIfInBounds_toArray, List.set_cons_zero, List.set_cons_succ]
        refine wpAnyH_take (i := 19) (oi := ⟨some 25, _, _, _, _, _⟩) (v := ?_) rfl (by kernel_rfl) (by kernel_rfl) (by kernel_rfl) (fun _ _ _ h => h) (Or.inl ⟨by kernel_rfl, ?_⟩) hHeld ?_
        rotate_left
        focus (intro W hS; have c0_0 := (hS.1).at_ (j := 0) rfl; have c0_1 := (hS.1).at_ (j := 1) rfl; have c0_2 := (hS.1).at_ (j := 2) rfl; have c0_3 := (hS.1).at_ (j := 3) rfl; have c1_0 := (hS.2.1).at_ (j := 0) rfl; have c2_0 := (hS.2.2.1).at_ (j := 0) rfl; have c2_1 := (hS.2.2.1).at_ (j := 1) rfl; have c3_0 := (hS.2.2.2.1).at_ (j := 0) rfl; clear hS; first | (go_simp; done) | (go_simp; with_reducible rfl))
        try simp only [Act.put, List.setIfInBounds_toArray, List.set_cons_zero, List.set_cons_succ]
        refine wpAnyH_ready (rs := [20]) (by kernel_rfl) (by simp) ?_
        refine AllReadyH.cons (o := ⟨some 26, _, _, _, _, _⟩) rfl (fun K hK => ?_) AllReadyH.nil
        go_simp
        refine Calls.mono (C3 _) ?_
        rintro e w1 ⟨rfl, hb1⟩
        refine hK.out _ _ ⟨hHeld.1.new hb1, hHeld.2.1.new hb1, hHeld.2.2.1.new hb1, hHeld.2.2.2.1.new hb1, below_trans hHeld.2.2.2.2 hb1 (Nat.le_refl _)⟩ (fun hHeld' => ?_)
        clear hK K hHeld hb1
        have hHeld := hHeld'
        clear hHeld'
        try simp only [Act.put, List.setIfInBounds_toArray, List.set_cons_zero, List.set_cons_succ]
        cases b3
        · skip
          refine wpAnyH_take (i := 21) (oi := ⟨some 27, _, _, _, _, _⟩) (v := ?_) rfl (by kernel_rfl) (by kernel_rfl) (by kernel_rfl) (fun _ _ _ h => h) (Or.inl ⟨by kernel_rfl, ?_⟩) hHeld ?_
          rotate_left
          focus (intro W hS; have c0_0 := (hS.1).at_ (j := 0) rfl; have c0_1 := (hS.1).at_ (j := 1) rfl; have c0_2 := (hS.1).at_ (j := 2) rfl; have c0_3 := (hS.1).at_ (j := 3) rfl; have c1_0 := (hS.2.1).at_ (j := 0) rfl; have c2_0 := (hS.2.2.1).at_ (j := 0) rfl; have c2_1 := (hS.2.2.1).at_ (j := 1) rfl; have c3_0 := (hS.2.2.2.1).at_ (j := 0) rfl; clear hS; first | (go_simp; done) | (go_simp; with_reducible rfl))
          try simp only [Act.put, List.setIfInBounds_toArray, List.set_cons_zero, List.set_cons_succ]
          refine wpAnyH_take (i := 22) (oi := ⟨some 5, _, _, _, _, _⟩) (v := ?_) rfl (by kernel_rfl) (by kernel_rfl) (by kernel_rfl) (fun _ _ _ h => h) (Or.inl ⟨by kernel_rfl, ?_⟩) hHeld ?_
          rotate_left
          focus (intro W hS; have c0_0 := (hS.1).at_ (j := 0) rfl; have c0_1 := (hS.1).at_ (j := 1) rfl; have c0_2 := (hS.1).at_ (j := 2) rfl; have c0_3 := (hS.1).at_ (j := 3) rfl; have c1_0 := (hS.2.1).at_ (j := 0) rfl; have c2_0 := (hS.2.2.1).at_ (j := 0) rfl; have c2_1 := (hS.2.2.1).at_ (j := 1) rfl; have c3_0 := (hS.2.2.2.1).at_ (j := 0) rfl; clear hS; first | (go_simp; done) | (go_simp; with_reducible rfl))
          try simp only [Act.put, List.setIfInBounds_toArray, List.set_cons_zero, List.set_cons_succ]
          refine wpAnyH_done (by kernel_rfl) ?_ _
          go_wp2_with fail
          go_ret
          exact ⟨rfl, hHeld.2.2.2.2⟩
        · skip
          refine wpAnyH_take (i := 21) (oi := ⟨some 27, _, _, _, _, _⟩) (v := ?_) rfl (by kernel_rfl) (by kernel_rfl) (by kernel_rfl) (fun _ _ _ h => h) (Or.inl ⟨by kernel_rfl, ?_⟩) hHeld ?_
          rotate_left
          focus (intro W hS; have c0_0 := (hS.1).at_ (j := 0) rfl; have c0_1 := (hS.1).at_ (j := 1) rfl; have c0_2 := (hS.1).at_ (j := 2) rfl; have c0_3 := (hS.1).at_ (j := 3) rfl; have c1_0 := (hS.2.1).at_ (j := 0) rfl; have c2_0 := (hS.2.2.1).at_ (j := 0) rfl; have c2_1 := (hS.2.2.1).at_ (j := 1) rfl; have c3_0 := (hS.2.2.2.1).at_ (j := 0) rfl; clear hS; first | (go_simp; done) | (go_simp; with_reducible rfl))
          try simp only [Act.put, List.setIfInBounds_toArray, List.set_cons_zero, List.set_cons_succ]
          refine wpAnyH_take (i := 22) (oi := ⟨some 5, _, _, _, _, _⟩) (v := ?_) rfl (by kernel_rfl) (by kernel_rfl) (by kernel_rfl) (fun _ _ _ h => h) (Or.inl ⟨by kernel_rfl, ?_⟩) hHeld ?_
          rotate_left
          focus (intro W hS; have c0_0 := (hS.1).at_ (j := 0) rfl; have c0_1 := (hS.1).at_ (j := 1) rfl; have c0_2 := (hS.1).at_ (j := 2) rfl; have c0_3 := (hS.1).at_ (j := 3) rfl; have c1_0 := (hS.2.1).at_ (j := 0) rfl; have c2_0 := (hS.2.2.1).at_ (j := 0) rfl; have c2_1 := (hS.2.2.1).at_ (j := 1) rfl; have c3_0 := (hS.2.2.2.1).at_ (j := 0) rfl; clear hS; first | (go_simp; done) | (go_simp; with_reducible rfl))
          try simp only [Act.put, List.setIfInBounds_toArray, List.set_cons_zero, List.set_cons_succ]
          refine wpAnyH_done (by kernel_rfl) ?_ _
          go_wp2_with fail
          go_ret
          exact ⟨rfl, hHeld.2.2.2.2⟩

theorem rd_tailDenied {w : World} {lo hi n b off : Nat} {x : TLimit} {l : List TLimit} (h : Rd w lo hi 4 (some ⟨b, off, none⟩) (n + 1) (cLimit (x :: l))) :
    Rd w lo hi 4 (some ⟨b, off + 4, none⟩) n (cLimit l) := by
  have hc : cLimit (x :: l) = TLimit.cells x ++ cLimit l := rfl
  refine ⟨?_, fun hn => ?_⟩
  · have := h.1
    rw [hc, List.length_append, TLimit.len] at this
    omega
  · obtain ⟨b', off', e, h1, h2, h3⟩ := h.2 (by omega)
    cases e
    refine ⟨b, off + 4, rfl, h1, h2, fun j u hu => ?_⟩
    rw [Nat.add_assoc]
    refine h3 (4 + j) u ?_
    rw [hc, List.getElem?_append_right (by rw [TLimit.len]; omega), TLimit.len]
    simpa using hu

set_option maxHeartbeats 4000000 in
theorem any_Denied (p : TLimit → Bool) (lb : Array Value) (l : List TLimit) (A : Option Addr) (n c lo hi : Nat) (w : World) (hn : n ≤ 17592186044416) (hcap : n ≤ c)
    (hr : Rd w lo hi 4 A n (cLimit l)) (hp : PredB Tryz.prog 126 lb (fun x : TLimit => .agg #[.int .i64 x.f0, .int .i64 x.f1, .int .i64 x.f2, .int .i64 x.f3]) p l w) :
    Calls Tryz.prog 125 #[.slice A n c, .func (.func 126) #[] lb] w (Says (.bool (l.any p)) w) := by
  have HR := Lib.hid hr
  have HP := Lib.hid hp
  clear hr hp
  go_enter Tryz.func125, Tryz.ntmps125
  go_wp2_with fail
  go_loopg [0] n (fun gg v wr => ∃ (A' : Option Addr) (n' c' : Nat) (l' : List TLimit), v = .slice A' n' c' ∧ n' ≤ gg ∧ n' ≤ n ∧ n' ≤ c' ∧ Hid (Rd wr lo hi 4 A' n' (cLimit l')) ∧ Hid (∀ x, x ∈ l' → x ∈ l) ∧ Hid (l.any p = l'.any p) ∧ Hid (Below w.heap.size w wr))
  case atStart => exact ⟨_, _, _, l, rfl, Nat.le_refl _, Nat.le_refl _, hcap, HR, Lib.hid (fun _ h => h), Lib.hid rfl, Lib.hid (Below.refl _ _)⟩
  case round =>
    obtain ⟨A', n', c', l', rfl, hg, hn', hcc, HR', HM, HA, HB⟩ := hrel
    cases l' with
    | nil =>
      obtain rfl : n' = 0 := by have := HR'.out.1; simp at this; omega
      have HE := Lib.hid (show l.any p = false from HA.out)
      go_wp2_with fail
      go_ret
      exact ⟨by rw [HE.out]; rfl, HB.out⟩
    | cons x t =>
      have HL := Lib.hid (rd_len TLimit.len HR'.out (by decide))
      obtain ⟨m, rfl⟩ : ∃ m, n' = m + 1 := ⟨t.length, by have := HL.out; simp at this; omega⟩
      obtain ⟨b, off, x', rfl, _, _, hz, hc⟩ := rd_elem (k := 0) TLimit.len HR'.out HL.out (by omega)
      obtain rfl : x = x' := by simpa using hz
      have c0 : wr.cell? ⟨b, off, none⟩ = some (.int .i64 x.f0) := by simpa using hc 0 _ rfl
      have c1 : wr.cell? ⟨b, off + 1, none⟩ = some (.int .i64 x.f1) := by simpa using hc 1 _ rfl
      have c2 : wr.cell? ⟨b, off + 2, none⟩ = some (.int .i64 x.f2) := by simpa using hc 2 _ rfl
      have c3 : wr.cell? ⟨b, off + 3, none⟩ = some (.int .i64 x.f3) := by simpa using hc 3 _ rfl
      have HT := Lib.hid (rd_tailDenied HR'.out)
      have hcall := HP.out wr x (HM.out x (by simp)) HB.out
      have HMt := Lib.hid (fun y (h : y ∈ t) => HM.out y (List.mem_cons_of_mem _ h))
      clear hc hz HR' HM
      cases hq : p x with
      | true =>
        rw [hq] at hcall
        have HE := Lib.hid (show l.any p = true by rw [HA.out, List.any_cons, hq]; rfl)
        clear hq HA
        go_wp2_with (go_at_call 126; refine hcall.mono ?_; rintro e w1 ⟨rfl, hb1⟩; have HB1 := Lib.hid hb1; clear hb1)
        go_ret
        exact ⟨by rw [HE.out]; rfl, below_trans HB.out HB1.out (Nat.le_refl _)⟩
      | false =>
        rw [hq] at hcall
        have HE := Lib.hid (show l.any p = t.any p by rw [HA.out, List.any_cons, hq]; rfl)
        clear hq HA
        rcases Nat.eq_zero_or_pos m with rfl | hm
        · obtain rfl : t = [] := by have := HL.out; simpa using this
          go_wp2_with (go_at_call 126; refine hcall.mono ?_; rintro e w1 ⟨rfl, hb1⟩; have HB1 := Lib.hid hb1; clear hb1)
          go_roundg 0
          case measure => omega
          case rel => exact ⟨_, _, _, [], rfl, Nat.le_refl _, by omega, by omega, Lib.hid Rd.empty, HMt, HE, Lib.hid (below_trans HB.out HB1.out (Nat.le_refl _))⟩
        · go_wp2_with (go_at_call 126; refine hcall.mono ?_; rintro e w1 ⟨rfl, hb1⟩; have HB1 := Lib.hid hb1; clear hb1)
          go_roundg m
          case measure => omega
          case rel => exact ⟨_, _, _, t, rfl, by omega, by omega, by omega, Lib.hid (HT.out.new HB1.out), HMt, HE, Lib.hid (below_trans HB.out HB1.out (Nat.le_refl _))⟩

set_option maxHeartbeats 4000000 in
theorem impl_IsDeniedC (l : List TLimit) (A : Option Addr) (n c lo hi : Nat) (ext : Int) (s : TSite) (kind : Int) (w : World) (hn : n ≤ 1048576) (hr : Rd w lo hi 4 A n (cLimit l)) (hcap : n ≤ c) (H : Hid (cLimitOk l)) :
    Calls Tryz.prog 97 #[.slice A n c, .int .i64 ext, vSite s, .int .i64 kind] w (Says (.bool (mDenied l ext s kind)) w) := by
  have hmf : ∀ (fn : Fn) (first cap : Array Value) (w : World), (Instr.makeFunc fn first cap).run Tryz.prog w = .ok (.func fn first cap) w := fun _ _ _ _ => rfl
  have KB0 : BoxAt (((w.alloc (.cells #[.int .i64 ext] 3)).alloc (.cells #[.int .i64 s.f0, .int .i64 s.f1] 57)).alloc (.cells #[.int .i64 kind] 3)) w.heap.size 3 #[.int .i64 ext] := (((by simpa using box_new w 3 #[.int .i64 ext] : BoxAt (w.alloc (.cells #[.int .i64 ext] 3)) w.heap.size 3 #[.int .i64 ext])).alloc_ (.cells #[.int .i64 s.f0, .int .i64 s.f1] 57)).alloc_ (.cells #[.int .i64 kind] 3)
  have KB1 : BoxAt (((w.alloc (.cells #[.int .i64 ext] 3)).alloc (.cells #[.int .i64 s.f0, .int .i64 s.f1] 57)).alloc (.cells #[.int .i64 kind] 3)) (w.heap.size + 1) 57 #[.int .i64 s.f0, .int .i64 s.f1] := ((by simpa using box_new (w.alloc (.cells #[.int .i64 ext] 3)) 57 #[.int .i64 s.f0, .int .i64 s.f1] : BoxAt ((w.alloc (.cells #[.int .i64 ext] 3)).alloc (.cells #[.int .i64 s.f0, .int .i64 s.f1] 57)) (w.heap.size + 1) 57 #[.int .i64 s.f0, .int .i64 s.f1])).alloc_ (.cells #[.int .i64 kind] 3)
  have KB2 : BoxAt (((w.alloc (.cells #[.int .i64 ext] 3)).alloc (.cells #[.int .i64 s.f0, .int .i64 s.f1] 57)).alloc (.cells #[.int .i64 kind] 3)) (w.heap.size + 2) 3 #[.int .i64 kind] := (by simpa using box_new ((w.alloc (.cells #[.int .i64 ext] 3)).alloc (.cells #[.int .i64 s.f0, .int .i64 s.f1] 57)) 3 #[.int .i64 kind] : BoxAt (((w.alloc (.cells #[.int .i64 ext] 3)).alloc (.cells #[.int .i64 s.f0, .int .i64 s.f1] 57)).alloc (.cells #[.int .i64 kind] 3)) (w.heap.size + 2) 3 #[.int .i64 kind])
  have HBw : Below w.heap.size w (((w.alloc (.cells #[.int .i64 ext] 3)).alloc (.cells #[.int .i64 s.f0, .int .i64 s.f1] 57)).alloc (.cells #[.int .i64 kind] 3)) := ((((Below.refl _ _).alloc (by first | exact Nat.le_refl _ | (simp; done) | (simp; omega)) _).alloc (by first | exact Nat.le_refl _ | (simp; done) | (simp; omega)) _).alloc (by first | exact Nat.le_refl _ | (simp; done) | (simp; omega)) _)
  have HC := any_Denied (mDeny ext s kind) _ l A n c lo hi _ (by omega) hcap (((hr.alloc _).alloc _).alloc _) (clo_Denied ext s kind w.heap.size l _ KB0 KB1 KB2)
  have HBw := Lib.hid HBw
  unfold mDenied
  generalize l.any (mDeny ext s kind) = r at HC ⊢
  clear hr KB0 KB1 KB2
  have HC := Lib.hid HC
  go_enter Tryz.func97, Tryz.ntmps97
  go_wp2_with fail
  refine Calls.mono HC.out ?_
  rintro e w1 ⟨rfl, hb1⟩
  have HB1 := Lib.hid (below_trans HBw.out hb1 (Nat.le_refl _))
  clear hb1
  go_wp2_with fail
  go_ret
  exact ⟨rfl, HB1.out⟩

set_option maxHeartbeats 40000000 in
theorem spec_IsDenied (l : List TLimit) (A : Option Addr) (n c lo hi : Nat) (ext : Int) (s : TSite) (kind : Int) (w : World) (hn : n ≤ 1048576) (hr : Rd w lo hi 4 A n (cLimit l)) (hcap : n ≤ c) (H : Hid (cLimitOk l)) :
    Calls Tryz.prog 81 #[.slice A n c, .int .i64 ext, vSite s, .int .i64 kind] w (Says (.bool (mDenied l ext s kind)) w) := by
  have HL := Lib.hid (rd_len TLimit.len hr (by decide))
  have HR := Lib.hid hr
  clear hr
  unfold mDenied
  have HBx := Lib.hid (box_new w 57 #[.int .i64 s.f0, .int .i64 s.f1])
  go_enter Tryz.func81, Tryz.ntmps81
  go_wp2_with fail
  go_loopg [9] n (fun gg i wr => ∃ k : Nat, k ≤ n ∧ n - k ≤ gg ∧ i = .int .i64 k ∧ Hid (Below w.heap.size w wr) ∧ Hid (BoxAt wr w.heap.size 57 #[.int .i64 s.f0, .int .i64 s.f1]) ∧ Hid ((l.take k).any (mDeny ext s kind) = false))
  case atStart => exact ⟨0, Nat.zero_le _, by omega, rfl, Lib.hid ((Below.refl _ _).alloc (Nat.le_refl _) _), HBx, Lib.hid (by simp)⟩
  case round =>
    obtain ⟨k, hk, hg, rfl, HB, HX, HF⟩ := hrel
    by_cases hlt : k < n
    · obtain ⟨b, off, x, rfl, _, _, hz, hc⟩ := rd_elem TLimit.len (HR.out.new HB.out) HL.out hlt
      have c0 : wr.cell? ⟨b, off + k * 4, none⟩ = _ := hc 0 _ rfl
      have c1 := hc 1 _ rfl
      have c2 := hc 2 _ rfl
      have c3 := hc 3 _ rfl
      have d0 : wr.cell? ⟨w.heap.size, 0, none⟩ = some (.int .i64 s.f0) := HX.out.at_ rfl
      have d1 : wr.cell? ⟨w.heap.size, 1, none⟩ = some (.int .i64 s.f1) := HX.out.at_ rfl
      have hsz := HB.out.size
      have hlt0 := HX.out.lt
      have HZ := Lib.hid hz
      clear hc hz
      by_cases h0 : (mIsLimit x) = true
      · skip
        by_cases h1 : (x.f0 == 0) = true
        · skip
          by_cases h2 : (x.f3 == 0) = true
          · skip
            by_cases h3 : (mMatchSite ⟨x.f1, x.f2⟩ s) = true
            · skip
              have HPx := Lib.hid (show mDeny ext s kind x = true by simp [mDeny, mTakes, h0, h1, h2, h3])
              have HE := Lib.hid (show l.any (mDeny ext s kind) = true from List.any_eq_true.2 ⟨x, mem_of_get HZ.out, HPx.out⟩)
              go_wp2_with (first | (go_at_call 112; refine (spec_IsLimit x _).mono ?_; rintro e w1 ⟨rfl, hb1⟩; obtain ⟨hc1, hf1⟩ := bcell hb1; have HB1 := Lib.hid hb1; have hs1 := hb1.size; (try simp at hs1); (have hz0 : w.heap.size < w1.heap.size := by omega); (try (have hywr : wr.heap.size < w1.heap.size := by omega)); clear hb1) | (go_at_call 113; refine (spec_MatchSite ⟨x.f1, x.f2⟩ s _).mono ?_; rintro e w1 ⟨rfl, hb1⟩; obtain ⟨hc1, hf1⟩ := bcell hb1; have HB1 := Lib.hid hb1; have hs1 := hb1.size; (try simp at hs1); (have hz0 : w.heap.size < w1.heap.size := by omega); (try (have hywr : wr.heap.size < w1.heap.size := by omega)); clear hb1))
              go_ret
              exact ⟨by rw [HE.out]; rfl, below_trans HB.out (by repeat (first | with_reducible exact Below.refl _ _ | (with_reducible refine below_step ?_ (by assumption) (by first | omega | (simp; done) | (simp <;> omega))) | (with_reducible refine Below.alloc ?_ (by first | omega | (simp; done) | (simp <;> omega)) _) | (with_reducible refine Below.setCell ?_ (by first | omega | (simp; done) | (simp <;> omega)) _) | (with_reducible refine Below.drew ?_) | (with_reducible refine below_dN ?_ _) | (refine Below.alloc ?_ (by first | omega | (simp; done) | (simp <;> omega)) _))) (Nat.le_refl _)⟩
            · have h3 : (mMatchSite ⟨x.f1, x.f2⟩ s) = false := by simpa using h3
              have HPx := Lib.hid (show mDeny ext s kind x = false by simp [mDeny, mTakes, h0, h1, h2, h3])
              have HE := Lib.hid (any_step HF.out HZ.out HPx.out)
              go_wp2_with (first | (go_at_call 112; refine (spec_IsLimit x _).mono ?_; rintro e w1 ⟨rfl, hb1⟩; obtain ⟨hc1, hf1⟩ := bcell hb1; have HB1 := Lib.hid hb1; have hs1 := hb1.size; (try simp at hs1); (have hz0 : w.heap.size < w1.heap.size := by omega); (try (have hywr : wr.heap.size < w1.heap.size := by omega)); clear hb1) | (go_at_call 113; refine (spec_MatchSite ⟨x.f1, x.f2⟩ s _).mono ?_; rintro e w1 ⟨rfl, hb1⟩; obtain ⟨hc1, hf1⟩ := bcell hb1; have HB1 := Lib.hid hb1; have hs1 := hb1.size; (try simp at hs1); (have hz0 : w.heap.size < w1.heap.size := by omega); (try (have hywr : wr.heap.size < w1.heap.size := by omega)); clear hb1))
              go_roundg (n - (k + 1))
              case measure => omega
              case rel => exact ⟨k + 1, by omega, by omega, by go_num, Lib.hid (below_trans HB.out (show Below wr.heap.size wr _ by repeat (first | with_reducible exact Below.refl _ _ | (with_reducible refine below_step ?_ (by assumption) (by first | omega | (simp; done) | (simp <;> omega))) | (with_reducible refine Below.alloc ?_ (by first | omega | (simp; done) | (simp <;> omega)) _) | (with_reducible refine Below.setCell ?_ (by first | omega | (simp; done) | (simp <;> omega)) _) | (with_reducible refine Below.drew ?_) | (with_reducible refine below_dN ?_ _) | (refine Below.alloc ?_ (by first | omega | (simp; done) | (simp <;> omega)) _))) (Nat.le_refl _)), Lib.hid (HX.out.new (show Below wr.heap.size wr _ by repeat (first | with_reducible exact Below.refl _ _ | (with_reducible refine below_step ?_ (by assumption) (by first | omega | (simp; done) | (simp <;> omega))) | (with_reducible refine Below.alloc ?_ (by first | omega | (simp; done) | (simp <;> omega)) _) | (with_reducible refine Below.setCell ?_ (by first | omega | (simp; done) | (simp <;> omega)) _) | (with_reducible refine Below.drew ?_) | (with_reducible refine below_dN ?_ _) | (refine Below.alloc ?_ (by first | omega | (simp; done) | (simp <;> omega)) _)))), HE⟩
          · have h2 : (x.f3 == 0) = false := by simpa using h2
            by_cases h4 : (x.f3 == kind) = true
            · skip
              by_cases h5 : (mMatchSite ⟨x.f1, x.f2⟩ s) = true
              · skip
                have HPx := Lib.hid (show mDeny ext s kind x = true by simp [mDeny, mTakes, h0, h1, h2, h4, h5])
                have HE := Lib.hid (show l.any (mDeny ext s kind) = true from List.any_eq_true.2 ⟨x, mem_of_get HZ.out, HPx.out⟩)
                go_wp2_with (first | (go_at_call 112; refine (spec_IsLimit x _).mono ?_; rintro e w1 ⟨rfl, hb1⟩; obtain ⟨hc1, hf1⟩ := bcell hb1; have HB1 := Lib.hid hb1; have hs1 := hb1.size; (try simp at hs1); (have hz0 : w.heap.size < w1.heap.size := by omega); (try (have hywr : wr.heap.size < w1.heap.size := by omega)); clear hb1) | (go_at_call 113; refine (spec_MatchSite ⟨x.f1, x.f2⟩ s _).mono ?_; rintro e w1 ⟨rfl, hb1⟩; obtain ⟨hc1, hf1⟩ := bcell hb1; have HB1 := Lib.hid hb1; have hs1 := hb1.size; (try simp at hs1); (have hz0 : w.heap.size < w1.heap.size := by omega); (try (have hywr : wr.heap.size < w1.heap.size := by omega)); clear hb1))
                go_ret
                exact ⟨by rw [HE.out]; rfl, below_trans HB.out (by repeat (first | with_reducible exact Below.refl _ _ | (with_reducible refine below_step ?_ (by assumption) (by first | omega | (simp; done) | (simp <;> omega))) | (with_reducible refine Below.alloc ?_ (by first | omega | (simp; done) | (simp <;> omega)) _) | (with_reducible refine Below.setCell ?_ (by first | omega | (simp; done) | (simp <;> omega)) _) | (with_reducible refine Below.drew ?_) | (with_reducible refine below_dN ?_ _) | (refine Below.alloc ?_ (by first | omega | (simp; done) | (simp <;> omega)) _))) (Nat.le_refl _)⟩
              · have h5 : (mMatchSite ⟨x.f1, x.f2⟩ s) = false := by simpa using h5
                have HPx := Lib.hid (show mDeny ext s kind x = false by simp [mDeny, mTakes, h0, h1, h2, h4, h5])
                have HE := Lib.hid (any_step HF.out HZ.out HPx.out)
                go_wp2_with (first | (go_at_call 112; refine (spec_IsLimit x _).mono ?_; rintro e w1 ⟨rfl, hb1⟩; obtain ⟨hc1, hf1⟩ := bcell hb1; have HB1 := Lib.hid hb1; have hs1 := hb1.size; (try simp at hs1); (have hz0 : w.heap.size < w1.heap.size := by omega); (try (have hywr : wr.heap.size < w1.heap.size := by omega)); clear hb1) | (go_at_call 113; refine (spec_MatchSite ⟨x.f1, x.f2⟩ s _).mono ?_; rintro e w1 ⟨rfl, hb1⟩; obtain ⟨hc1, hf1⟩ := bcell hb1; have HB1 := Lib.hid hb1; have hs1 := hb1.size; (try simp at hs1); (have hz0 : w.heap.size < w1.heap.size := by omega); (try (have hywr : wr.heap.size < w1.heap.size := by omega)); clear hb1))
                go_roundg (n - (k + 1))
                case measure => omega
                case rel => exact ⟨k + 1, by omega, by omega, by go_num, Lib.hid (below_trans HB.out (show Below wr.heap.size wr _ by repeat (first | with_reducible exact Below.refl _ _ | (with_reducible refine below_step ?_ (by assumption) (by first | omega | (simp; done) | (simp <;> omega))) | (with_reducible refine Below.alloc ?_ (by first | omega | (simp; done) | (simp <;> omega)) _) | (with_reducible refine Below.setCell ?_ (by first | omega | (simp; done) | (simp <;> omega)) _) | (with_reducible refine Below.drew ?_) | (with_reducible refine below_dN ?_ _) | (refine Below.alloc ?_ (by first | omega | (simp; done) | (simp <;> omega)) _))) (Nat.le_refl _)), Lib.hid (HX.out.new (show Below wr.heap.size wr _ by repeat (first | with_reducible exact Below.refl _ _ | (with_reducible refine below_step ?_ (by assumption) (by first | omega | (simp; done) | (simp <;> omega))) | (with_reducible refine Below.alloc ?_ (by first | omega | (simp; done) | (simp <;> omega)) _) | (with_reducible refine Below.setCell ?_ (by first | omega | (simp; done) | (simp <;> omega)) _) | (with_reducible refine Below.drew ?_) | (with_reducible refine below_dN ?_ _) | (refine Below.alloc ?_ (by first | omega | (simp; done) | (simp <;> omega)) _)))), HE⟩
            · have h4 : (x.f3 == kind) = false := by simpa using h4
              have HPx := Lib.hid (show mDeny ext s kind x = false by simp [mDeny, mTakes, h0, h1, h2, h4])
              have HE := Lib.hid (any_step HF.out HZ.out HPx.out)
              go_wp2_with (first | (go_at_call 112; refine (spec_IsLimit x _).mono ?_; rintro e w1 ⟨rfl, hb1⟩; obtain ⟨hc1, hf1⟩ := bcell hb1; have HB1 := Lib.hid hb1; have hs1 := hb1.size; (try simp at hs1); (have hz0 : w.heap.size < w1.heap.size := by omega); (try (have hywr : wr.heap.size < w1.heap.size := by omega)); clear hb1) | (go_at_call 113; refine (spec_MatchSite ⟨x.f1, x.f2⟩ s _).mono ?_; rintro e w1 ⟨rfl, hb1⟩; obtain ⟨hc1, hf1⟩ := bcell hb1; have HB1 := Lib.hid hb1; have hs1 := hb1.size; (try simp at hs1); (have hz0 : w.heap.size < w1.heap.size := by omega); (try (have hywr : wr.heap.size < w1.heap.size := by omega)); clear hb1))
              go_roundg (n - (k + 1))
              case measure => omega
              case rel => exact ⟨k + 1, by omega, by omega, by go_num, Lib.hid (below_trans HB.out (show Below wr.heap.size wr _ by repeat (first | with_reducible exact Below.refl _ _ | (with_reducible refine below_step ?_ (by assumption) (by first | omega | (simp; done) | (simp <;> omega))) | (with_reducible refine Below.alloc ?_ (by first | omega | (simp; done) | (simp <;> omega)) _) | (with_reducible refine Below.setCell ?_ (by first | omega | (simp; done) | (simp <;> omega)) _) | (with_reducible refine Below.drew ?_) | (with_reducible refine below_dN ?_ _) | (refine Below.alloc ?_ (by first | omega | (simp; done) | (simp <;> omega)) _))) (Nat.le_refl _)), Lib.hid (HX.out.new (show Below wr.heap.size wr _ by repeat (first | with_reducible exact Below.refl _ _ | (with_reducible refine below_step ?_ (by assumption) (by first | omega | (simp; done) | (simp <;> omega))) | (with_reducible refine Below.alloc ?_ (by first | omega | (simp; done) | (simp <;> omega)) _) | (with_reducible refine Below.setCell ?_ (by first | omega | (simp; done) | (simp <;> omega)) _) | (with_reducible refine Below.drew ?_) | (with_reducible refine below_dN ?_ _) | (refine Below.alloc ?_ (by first | omega | (simp; done) | (simp <;> omega)) _)))), HE⟩
        · have h1 : (x.f0 == 0) = false := by simpa using h1
          by_cases h6 : (x.f0 == ext) = true
          · skip
            by_cases h7 : (x.f3 == 0) = true
            · skip
              by_cases h8 : (mMatchSite ⟨x.f1, x.f2⟩ s) = true
              · skip
                have HPx := Lib.hid (show mDeny ext s kind x = true by simp [mDeny, mTakes, h0, h1, h6, h7, h8])
                have HE := Lib.hid (show l.any (mDeny ext s kind) = true from List.any_eq_true.2 ⟨x, mem_of_get HZ.out, HPx.out⟩)
                go_wp2_with (first | (go_at_call 112; refine (spec_IsLimit x _).mono ?_; rintro e w1 ⟨rfl, hb1⟩; obtain ⟨hc1, hf1⟩ := bcell hb1; have HB1 := Lib.hid hb1; have hs1 := hb1.size; (try simp at hs1); (have hz0 : w.heap.size < w1.heap.size := by omega); (try (have hywr : wr.heap.size < w1.heap.size := by omega)); clear hb1) | (go_at_call 113; refine (spec_MatchSite ⟨x.f1, x.f2⟩ s _).mono ?_; rintro e w1 ⟨rfl, hb1⟩; obtain ⟨hc1, hf1⟩ := bcell hb1; have HB1 := Lib.hid hb1; have hs1 := hb1.size; (try simp at hs1); (have hz0 : w.heap.size < w1.heap.size := by omega); (try (have hywr : wr.heap.size < w1.heap.size := by omega)); clear hb1))
                go_ret
                exact ⟨by rw [HE.out]; rfl, below_trans HB.out (by repeat (first | with_reducible exact Below.refl _ _ | (with_reducible refine below_step ?_ (by assumption) (by first | omega | (simp; done) | (simp <;> omega))) | (with_reducible refine Below.alloc ?_ (by first | omega | (simp; done) | (simp <;> omega)) _) | (with_reducible refine Below.setCell ?_ (by first | omega | (simp; done) | (simp <;> omega)) _) | (with_reducible refine Below.drew ?_) | (with_reducible refine below_dN ?_ _) | (refine Below.alloc ?_ (by first | omega | (simp; done) | (simp <;> omega)) _))) (Nat.le_refl _)⟩
              · have h8 : (mMatchSite ⟨x.f1, x.f2⟩ s) = false := by simpa using h8
                have HPx := Lib.hid (show mDeny ext s kind x = false by simp [mDeny, mTakes, h0, h1, h6, h7, h8])
                have HE := Lib.hid (any_step HF.out HZ.out HPx.out)
                go_wp2_with (first | (go_at_call 112; refine (spec_IsLimit x _).mono ?_; rintro e w1 ⟨rfl, hb1⟩; obtain ⟨hc1, hf1⟩ := bcell hb1; have HB1 := Lib.hid hb1; have hs1 := hb1.size; (try simp at hs1); (have hz0 : w.heap.size < w1.heap.size := by omega); (try (have hywr : wr.heap.size < w1.heap.size := by omega)); clear hb1) | (go_at_call 113; refine (spec_MatchSite ⟨x.f1, x.f2⟩ s _).mono ?_; rintro e w1 ⟨rfl, hb1⟩; obtain ⟨hc1, hf1⟩ := bcell hb1; have HB1 := Lib.hid hb1; have hs1 := hb1.size; (try simp at hs1); (have hz0 : w.heap.size < w1.heap.size := by omega); (try (have hywr : wr.heap.size < w1.heap.size := by omega)); clear hb1))
                go_roundg (n - (k + 1))
                case measure => omega
                case rel => exact ⟨k + 1, by omega, by omega, by go_num, Lib.hid (below_trans HB.out (show Below wr.heap.size wr _ by repeat (first | with_reducible exact Below.refl _ _ | (with_reducible refine below_step ?_ (by assumption) (by first | omega | (simp; done) | (simp <;> omega))) | (with_reducible refine Below.alloc ?_ (by first | omega | (simp; done) | (simp <;> omega)) _) | (with_reducible refine Below.setCell ?_ (by first | omega | (simp; done) | (simp <;> omega)) _) | (with_reducible refine Below.drew ?_) | (with_reducible refine below_dN ?_ _) | (refine Below.alloc ?_ (by first | omega | (simp; done) | (simp <;> omega)) _))) (Nat.le_refl _)), Lib.hid (HX.out.new (show Below wr.heap.size wr _ by repeat (first | with_reducible exact Below.refl _ _ | (with_reducible refine below_step ?_ (by assumption) (by first | omega | (simp; done) | (simp <;> omega))) | (with_reducible refine Below.alloc ?_ (by first | omega | (simp; done) | (simp <;> omega)) _) | (with_reducible refine Below.setCell ?_ (by first | omega | (simp; done) | (simp <;> omega)) _) | (with_reducible refine Below.drew ?_) | (with_reducible refine below_dN ?_ _) | (refine Below.alloc ?_ (by first | omega | (simp; done) | (simp <;> omega)) _)))), HE⟩
            · have h7 : (x.f3 == 0) = false := by simpa using h7
              by_cases h9 : (x.f3 == kind) = true
              · skip
                by_cases h10 : (mMatchSite ⟨x.f1, x.f2⟩ s) = true
                · skip
                  have HPx := Lib.hid (show mDeny ext s kind x = true by simp [mDeny, mTakes, h0, h1, h6, h7, h9, h10])
                  have HE := Lib.hid (show l.any (mDeny ext s kind) = true from List.any_eq_true.2 ⟨x, mem_of_get HZ.out, HPx.out⟩)
                  go_wp2_with (first | (go_at_call 112; refine (spec_IsLimit x _).mono ?_; rintro e w1 ⟨rfl, hb1⟩; obtain ⟨hc1, hf1⟩ := bcell hb1; have HB1 := Lib.hid hb1; have hs1 := hb1.size; (try simp at hs1); (have hz0 : w.heap.size < w1.heap.size := by omega); (try (have hywr : wr.heap.size < w1.heap.size := by omega)); clear hb1) | (go_at_call 113; refine (spec_MatchSite ⟨x.f1, x.f2⟩ s _).mono ?_; rintro e w1 ⟨rfl, hb1⟩; obtain ⟨hc1, hf1⟩ := bcell hb1; have HB1 := Lib.hid hb1; have hs1 := hb1.size; (try simp at hs1); (have hz0 : w.heap.size < w1.heap.size := by omega); (try (have hywr : wr.heap.size < w1.heap.size := by omega)); clear hb1))
                  go_ret
                  exact ⟨by rw [HE.out]; rfl, below_trans HB.out (by repeat (first | with_reducible exact Below.refl _ _ | (with_reducible refine below_step ?_ (by assumption) (by first | omega | (simp; done) | (simp <;> omega))) | (with_reducible refine Below.alloc ?_ (by first | omega | (simp; done) | (simp <;> omega)) _) | (with_reducible refine Below.setCell ?_ (by first | omega | (simp; done) | (simp <;> omega)) _) | (with_reducible refine Below.drew ?_) | (with_reducible refine below_dN ?_ _) | (refine Below.alloc ?_ (by first | omega | (simp; done) | (simp <;> omega)) _))) (Nat.le_refl _)⟩
                · have h10 : (mMatchSite ⟨x.f1, x.f2⟩ s) = false := by simpa using h10
                  have HPx := Lib.hid (show mDeny ext s kind x = false by simp [mDeny, mTakes, h0, h1, h6, h7, h9, h10])
                  have HE := Lib.hid (any_step HF.out HZ.out HPx.out)
                  go_wp2_with (first | (go_at_call 112; refine (spec_IsLimit x _).mono ?_; rintro e w1 ⟨rfl, hb1⟩; obtain ⟨hc1, hf1⟩ := bcell hb1; have HB1 := Lib.hid hb1; have hs1 := hb1.size; (try simp at hs1); (have hz0 : w.heap.size < w1.heap.size := by omega); (try (have hywr : wr.heap.size < w1.heap.size := by omega)); clear hb1) | (go_at_call 113; refine (spec_MatchSite ⟨x.f1, x.f2⟩ s _).mono ?_; rintro e w1 ⟨rfl, hb1⟩; obtain ⟨hc1, hf1⟩ := bcell hb1; have HB1 := Lib.hid hb1; have hs1 := hb1.size; (try simp at hs1); (have hz0 : w.heap.size < w1.heap.size := by omega); (try (have hywr : wr.heap.size < w1.heap.size := by omega)); clear hb1))
                  go_roundg (n - (k + 1))
                  case measure => omega
                  case rel => exact ⟨k + 1, by omega, by omega, by go_num, Lib.hid (below_trans HB.out (show Below wr.heap.size wr _ by repeat (first | with_reducible exact Below.refl _ _ | (with_reducible refine below_step ?_ (by assumption) (by first | omega | (simp; done) | (simp <;> omega))) | (with_reducible refine Below.alloc ?_ (by first | omega | (simp; done) | (simp <;> omega)) _) | (with_reducible refine Below.setCell ?_ (by first | omega | (simp; done) | (simp <;> omega)) _) | (with_reducible refine Below.drew ?_) | (with_reducible refine below_dN ?_ _) | (refine Below.alloc ?_ (by first | omega | (simp; done) | (simp <;> omega)) _))) (Nat.le_refl _)), Lib.hid (HX.out.new (show Below wr.heap.size wr _ by repeat (first | with_reducible exact Below.refl _ _ | (with_reducible refine below_step ?_ (by assumption) (by first | omega | (simp; done) | (simp <;> omega))) | (with_reducible refine Below.alloc ?_ (by first | omega | (simp; done) | (simp <;> omega)) _) | (with_reducible refine Below.setCell ?_ (by first | omega | (simp; done) | (simp <;> omega)) _) | (with_reducible refine Below.drew ?_) | (with_reducible refine below_dN ?_ _) | (refine Below.alloc ?_ (by first | omega | (simp; done) | (simp <;> omega)) _)))), HE⟩
              · have h9 : (x.f3 == kind) = false := by simpa using h9
                have HPx := Lib.hid (show mDeny ext s kind x = false by simp [mDeny, mTakes, h0, h1, h6, h7, h9])
                have HE := Lib.hid (any_step HF.out HZ.out HPx.out)
                go_wp2_with (first | (go_at_call 112; refine (spec_IsLimit x _).mono ?_; rintro e w1 ⟨rfl, hb1⟩; obtain ⟨hc1, hf1⟩ := bcell hb1; have HB1 := Lib.hid hb1; have hs1 := hb1.size; (try simp at hs1); (have hz0 : w.heap.size < w1.heap.size := by omega); (try (have hywr : wr.heap.size < w1.heap.size := by omega)); clear hb1) | (go_at_call 113; refine (spec_MatchSite ⟨x.f1, x.f2⟩ s _).mono ?_; rintro e w1 ⟨rfl, hb1⟩; obtain ⟨hc1, hf1⟩ := bcell hb1; have HB1 := Lib.hid hb1; have hs1 := hb1.size; (try simp at hs1); (have hz0 : w.heap.size < w1.heap.size := by omega); (try (have hywr : wr.heap.size < w1.heap.size := by omega)); clear hb1))
                go_roundg (n - (k + 1))
                case measure => omega
                case rel => exact ⟨k + 1, by omega, by omega, by go_num, Lib.hid (below_trans HB.out (show Below wr.heap.size wr _ by repeat (first | with_reducible exact Below.refl _ _ | (with_reducible refine below_step ?_ (by assumption) (by first | omega | (simp; done) | (simp <;> omega))) | (with_reducible refine Below.alloc ?_ (by first | omega | (simp; done) | (simp <;> omega)) _) | (with_reducible refine Below.setCell ?_ (by first | omega | (simp; done) | (simp <;> omega)) _) | (with_reducible refine Below.drew ?_) | (with_reducible refine below_dN ?_ _) | (refine Below.alloc ?_ (by first | omega | (simp; done) | (simp <;> omega)) _))) (Nat.le_refl _)), Lib.hid (HX.out.new (show Below wr.heap.size wr _ by repeat (first | with_reducible exact Below.refl _ _ | (with_reducible refine below_step ?_ (by assumption) (by first | omega | (simp; done) | (simp <;> omega))) | (with_reducible refine Below.alloc ?_ (by first | omega | (simp; done) | (simp <;> omega)) _) | (with_reducible refine Below.setCell ?_ (by first | omega | (simp; done) | (simp <;> omega)) _) | (with_reducible refine Below.drew ?_) | (with_reducible refine below_dN ?_ _) | (refine Below.alloc ?_ (by first | omega | (simp; done) | (simp <;> omega)) _)))), HE⟩
          · have h6 : (x.f0 == ext) = false := by simpa using h6
            have HPx := Lib.hid (show mDeny ext s kind x = false by simp [mDeny, mTakes, h0, h1, h6])
            have HE := Lib.hid (any_step HF.out HZ.out HPx.out)
            go_wp2_with (first | (go_at_call 112; refine (spec_IsLimit x _).mono ?_; rintro e w1 ⟨rfl, hb1⟩; obtain ⟨hc1, hf1⟩ := bcell hb1; have HB1 := Lib.hid hb1; have hs1 := hb1.size; (try simp at hs1); (have hz0 : w.heap.size < w1.heap.size := by omega); (try (have hywr : wr.heap.size < w1.heap.size := by omega)); clear hb1) | (go_at_call 113; refine (spec_MatchSite ⟨x.f1, x.f2⟩ s _).mono ?_; rintro e w1 ⟨rfl, hb1⟩; obtain ⟨hc1, hf1⟩ := bcell hb1; have HB1 := Lib.hid hb1; have hs1 := hb1.size; (try simp at hs1); (have hz0 : w.heap.size < w1.heap.size := by omega); (try (have hywr : wr.heap.size < w1.heap.size := by omega)); clear hb1))
            go_roundg (n - (k + 1))
            case measure => omega
            case rel => exact ⟨k + 1, by omega, by omega, by go_num, Lib.hid (below_trans HB.out (show Below wr.heap.size wr _ by repeat (first | with_reducible exact Below.refl _ _ | (with_reducible refine below_step ?_ (by assumption) (by first | omega | (simp; done) | (simp <;> omega))) | (with_reducible refine Below.alloc ?_ (by first | omega | (simp; done) | (simp <;> omega)) _) | (with_reducible refine Below.setCell ?_ (by first | omega | (simp; done) | (simp <;> omega)) _) | (with_reducible refine Below.drew ?_) | (with_reducible refine below_dN ?_ _) | (refine Below.alloc ?_ (by first | omega | (simp; done) | (simp <;> omega)) _))) (Nat.le_refl _)), Lib.hid (HX.out.new (show Below wr.heap.size wr _ by repeat (first | with_reducible exact Below.refl _ _ | (with_reducible refine below_step ?_ (by assumption) (by first | omega | (simp; done) | (simp <;> omega))) | (with_reducible refine Below.alloc ?_ (by first | omega | (simp; done) | (simp <;> omega)) _) | (with_reducible refine Below.setCell ?_ (by first | omega | (simp; done) | (simp <;> omega)) _) | (with_reducible refine Below.drew ?_) | (with_reducible refine below_dN ?_ _) | (refine Below.alloc ?_ (by first | omega | (simp; done) | (simp <;> omega)) _)))), HE⟩
      · have h0 : (mIsLimit x) = false := by simpa using h0
        have HPx := Lib.hid (show mDeny ext s kind x = false by simp [mDeny, mTakes, h0])
        have HE := Lib.hid (any_step HF.out HZ.out HPx.out)
        go_wp2_with (first | (go_at_call 112; refine (spec_IsLimit x _).mono ?_; rintro e w1 ⟨rfl, hb1⟩; obtain ⟨hc1, hf1⟩ := bcell hb1; have HB1 := Lib.hid hb1; have hs1 := hb1.size; (try simp at hs1); (have hz0 : w.heap.size < w1.heap.size := by omega); (try (have hywr : wr.heap.size < w1.heap.size := by omega)); clear hb1) | (go_at_call 113; refine (spec_MatchSite ⟨x.f1, x.f2⟩ s _).mono ?_; rintro e w1 ⟨rfl, hb1⟩; obtain ⟨hc1, hf1⟩ := bcell hb1; have HB1 := Lib.hid hb1; have hs1 := hb1.size; (try simp at hs1); (have hz0 : w.heap.size < w1.heap.size := by omega); (try (have hywr : wr.heap.size < w1.heap.size := by omega)); clear hb1))
        go_roundg (n - (k + 1))
        case measure => omega
        case rel => exact ⟨k + 1, by omega, by omega, by go_num, Lib.hid (below_trans HB.out (show Below wr.heap.size wr _ by repeat (first | with_reducible exact Below.refl _ _ | (with_reducible refine below_step ?_ (by assumption) (by first | omega | (simp; done) | (simp <;> omega))) | (with_reducible refine Below.alloc ?_ (by first | omega | (simp; done) | (simp <;> omega)) _) | (with_reducible refine Below.setCell ?_ (by first | omega | (simp; done) | (simp <;> omega)) _) | (with_reducible refine Below.drew ?_) | (with_reducible refine below_dN ?_ _) | (refine Below.alloc ?_ (by first | omega | (simp; done) | (simp <;> omega)) _))) (Nat.le_refl _)), Lib.hid (HX.out.new (show Below wr.heap.size wr _ by repeat (first | with_reducible exact Below.refl _ _ | (with_reducible refine below_step ?_ (by assumption) (by first | omega | (simp; done) | (simp <;> omega))) | (with_reducible refine Below.alloc ?_ (by first | omega | (simp; done) | (simp <;> omega)) _) | (with_reducible refine Below.setCell ?_ (by first | omega | (simp; done) | (simp <;> omega)) _) | (with_reducible refine Below.drew ?_) | (with_reducible refine below_dN ?_ _) | (refine Below.alloc ?_ (by first | omega | (simp; done) | (simp <;> omega)) _)))), HE⟩

    · obtain rfl : k = n := by omega
      have HE := Lib.hid (show l.any (mDeny ext s kind) = false by have := HF.out; rw [List.take_of_length_le (by have := HL.out; omega)] at this; exact this)
      go_wp2_with fail
      go_ret
      exact ⟨by rw [HE.out]; rfl, HB.out⟩
end Go.Proofs.YtjgcgipglmhgeaaGreat
namespace Go.Proofs.YtjgcgipglmhgeaaGreat
open Go Go.ChangeShapes Go.WideShapes Go.ChangeAt Go.RowKit Go.Lib
set_option linter.unusedVariables false
set_option linter.unusedSimpArgs false
set_option maxRecDepth 100000
set_option maxHeartbeats 4000000 in
theorem spec_MayDo (g : List TGrant) (A : Option Addr) (n c lo hi : Nat) (l : List TLimit) (A1 : Option Addr) (n1 c1 lo1 hi1 : Nat) (ext : Int) (s : TSite) (kind tick : Int) (clicked : Bool) (w : World) (hn : n ≤ 1048576) (hr : Rd w lo hi 7 A n (cGrant g)) (hcap : n ≤ c) (H : Hid (cGrantOk g)) (hn1 : n1 ≤ 1048576) (hr1 : Rd w lo1 hi1 4 A1 n1 (cLimit l)) (hcap1 : n1 ≤ c1) (H1 : Hid (cLimitOk l)) :
    Calls Tryz.prog 48 #[.slice A n c, .slice A1 n1 c1, .int .i64 ext, vSite s, .int .i64 kind, .int .i64 tick, .bool clicked] w (Says (.bool (mAllowed g ext s kind tick clicked && !mDenied l ext s kind)) w) := by
  have KB0 : BoxAt (w.alloc (.cells #[.int .i64 s.f0, .int .i64 s.f1] 57)) w.heap.size 57 #[.int .i64 s.f0, .int .i64 s.f1] := (by simpa using box_new w 57 #[.int .i64 s.f0, .int .i64 s.f1] : BoxAt (w.alloc (.cells #[.int .i64 s.f0, .int .i64 s.f1] 57)) w.heap.size 57 #[.int .i64 s.f0, .int .i64 s.f1])
  have HBw : Below w.heap.size w (w.alloc (.cells #[.int .i64 s.f0, .int .i64 s.f1] 57)) := ((Below.refl _ _).alloc (by first | exact Nat.le_refl _ | (simp; done) | (simp; omega)) _)
  have C0 := Lib.hid (fun W (hr : Rd W lo hi 7 A n (cGrant g)) => spec_IsAllowed g A n c lo hi ext s kind tick clicked W hn hr H)
  have C1 := Lib.hid (fun W (hr : Rd W lo1 hi1 4 A1 n1 (cLimit l)) => spec_IsDenied l A1 n1 c1 lo1 hi1 ext s kind W hn1 hr hcap1 H1)
  generalize mAllowed g ext s kind tick clicked = b0 at C0 ⊢
  generalize mDenied l ext s kind = b1 at C1 ⊢
  have HR := Lib.hid (hr.alloc (.cells #[.int .i64 s.f0, .int .i64 s.f1] 57))
  have HR1 := Lib.hid (hr1.alloc (.cells #[.int .i64 s.f0, .int .i64 s.f1] 57))
  have HBw := Lib.hid HBw
  have HK := Lib.hid KB0
  clear KB0 hr hr1
  cases b0 <;> cases b1
  all_goals
    go_enter Tryz.func48, Tryz.ntmps48
    go_wp2_with fail
    refine Calls.mono (C0.out _ HR.out) ?_
    rintro e w1 ⟨rfl, hb1⟩
    have HB1 := Lib.hid (below_trans HBw.out hb1 (Nat.le_refl _))
    have d0 : w1.cell? ⟨w.heap.size, 0, none⟩ = _ := (HK.out.new hb1).at_ (j := 0) rfl
    have d1 : w1.cell? ⟨w.heap.size, 1, none⟩ = _ := (HK.out.new hb1).at_ (j := 1) rfl
    have HR2 := Lib.hid (HR1.out.new hb1)
    clear hb1
    go_wp2_with (refine Calls.mono (C1.out _ HR2.out) ?_; rintro e w2 ⟨rfl, hb2⟩; have HB2 := Lib.hid (below_trans HB1.out hb2 (Nat.le_refl _)); clear hb2)
    go_ret
    exact ⟨rfl, by first | exact HB2.out | exact HB1.out⟩

set_option maxHeartbeats 4000000 in
theorem impl_MayDoC (g : List TGrant) (A : Option Addr) (n c lo hi : Nat) (l : List TLimit) (A1 : Option Addr) (n1 c1 lo1 hi1 : Nat) (ext : Int) (s : TSite) (kind tick : Int) (clicked : Bool) (w : World) (hn : n ≤ 1048576) (hr : Rd w lo hi 7 A n (cGrant g)) (hcap : n ≤ c) (H : Hid (cGrantOk g)) (hn1 : n1 ≤ 1048576) (hr1 : Rd w lo1 hi1 4 A1 n1 (cLimit l)) (hcap1 : n1 ≤ c1) (H1 : Hid (cLimitOk l)) :
    Calls Tryz.prog 61 #[.slice A n c, .slice A1 n1 c1, .int .i64 ext, vSite s, .int .i64 kind, .int .i64 tick, .bool clicked] w (Says (.bool (mAllowed g ext s kind tick clicked && !mDenied l ext s kind)) w) := by
  have KB0 : BoxAt (w.alloc (.cells #[.int .i64 s.f0, .int .i64 s.f1] 57)) w.heap.size 57 #[.int .i64 s.f0, .int .i64 s.f1] := (by simpa using box_new w 57 #[.int .i64 s.f0, .int .i64 s.f1] : BoxAt (w.alloc (.cells #[.int .i64 s.f0, .int .i64 s.f1] 57)) w.heap.size 57 #[.int .i64 s.f0, .int .i64 s.f1])
  have HBw : Below w.heap.size w (w.alloc (.cells #[.int .i64 s.f0, .int .i64 s.f1] 57)) := ((Below.refl _ _).alloc (by first | exact Nat.le_refl _ | (simp; done) | (simp; omega)) _)
  have C0 := Lib.hid (fun W (hr : Rd W lo hi 7 A n (cGrant g)) => impl_IsAllowed g A n c lo hi ext s kind tick clicked W hn hr H)
  have C1 := Lib.hid (fun W (hr : Rd W lo1 hi1 4 A1 n1 (cLimit l)) => impl_IsDeniedC l A1 n1 c1 lo1 hi1 ext s kind W hn1 hr hcap1 H1)
  generalize mAllowed g ext s kind tick clicked = b0 at C0 ⊢
  generalize mDenied l ext s kind = b1 at C1 ⊢
  have HR := Lib.hid (hr.alloc (.cells #[.int .i64 s.f0, .int .i64 s.f1] 57))
  have HR1 := Lib.hid (hr1.alloc (.cells #[.int .i64 s.f0, .int .i64 s.f1] 57))
  have HBw := Lib.hid HBw
  have HK := Lib.hid KB0
  clear KB0 hr hr1
  cases b0 <;> cases b1
  all_goals
    go_enter Tryz.func61, Tryz.ntmps61
    go_wp2_with fail
    refine Calls.mono (C0.out _ HR.out) ?_
    rintro e w1 ⟨rfl, hb1⟩
    have HB1 := Lib.hid (below_trans HBw.out hb1 (Nat.le_refl _))
    have d0 : w1.cell? ⟨w.heap.size, 0, none⟩ = _ := (HK.out.new hb1).at_ (j := 0) rfl
    have d1 : w1.cell? ⟨w.heap.size, 1, none⟩ = _ := (HK.out.new hb1).at_ (j := 1) rfl
    have HR2 := Lib.hid (HR1.out.new hb1)
    clear hb1
    go_wp2_with (refine Calls.mono (C1.out _ HR2.out) ?_; rintro e w2 ⟨rfl, hb2⟩; have HB2 := Lib.hid (below_trans HB1.out hb2 (Nat.le_refl _)); clear hb2)
    go_ret
    exact ⟨rfl, by first | exact HB2.out | exact HB1.out⟩
end Go.Proofs.YtjgcgipglmhgeaaGreat
namespace Go.Proofs.YtjgcgipglmhgeaaGreat
open Go Go.ChangeShapes Go.WideShapes Go.ChangeAt Go.RowKit Go.Lib
set_option linter.unusedVariables false
set_option linter.unusedSimpArgs false
set_option maxRecDepth 100000
set_option maxHeartbeats 4000000
def mMayN (m : MBrowser) (ext : Int) (s : TSite) (kind : Int) : Bool := mAllowed m.l3 ext s kind m.p7 false && !mDenied m.l4 ext s kind
theorem may_call {f : Nat} {P : Program} {x : DBrowser} {lo hi : Nat} {w : World} {ext kind : Int} {s : TSite}
    (C : ∀ W : World, Rd W lo hi 7 x.A3 x.n3 (cGrant x.l3) → Rd W lo hi 4 x.A4 x.n4 (cLimit x.l4) → Calls P f #[.slice x.A3 x.n3 x.c3, .slice x.A4 x.n4 x.c4, .int .i64 ext, vSite s, .int .i64 kind, .int .i64 x.p7, .bool false] W (Says (.bool (mAllowed x.l3 ext s kind x.p7 false && !mDenied x.l4 ext s kind)) W))
    (hr : x.rd w lo hi) {W : World} (hb : Below w.heap.size w W) : Calls P f #[.slice x.A3 x.n3 x.c3, .slice x.A4 x.n4 x.c4, .int .i64 ext, vSite s, .int .i64 kind, .int .i64 x.p7, .bool false] W (Says (.bool (mMayN x.dat ext s kind)) W) :=
  C W (hr.2.2.1.2.new hb) (hr.2.2.2.1.2.new hb)
end Go.Proofs.YtjgcgipglmhgeaaGreat
