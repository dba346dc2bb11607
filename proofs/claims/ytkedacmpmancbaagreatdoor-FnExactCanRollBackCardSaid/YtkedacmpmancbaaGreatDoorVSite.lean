/- Site, what is needed of it. -/
import Derived.Test.YtkedacmpmancbaaGreatDoorVFrame
import Derived.Test.YtkedacmpmancbaaGreatDoorVTPattern
import Derived.Test.YtkedacmpmancbaaGreatDoorVTSite
import Derived.Test.YtkedacmpmancbaaGreatDoorVIn
import Derived.Deep.RegionHeld3
namespace Go.Proofs.YtkedacmpmancbaaGreatDoor
open Go Go.ChangeShapes Go.WideShapes Go.ChangeAt Go.RowKit Go.Lib
set_option linter.unusedVariables false
set_option linter.unusedSimpArgs false
set_option maxRecDepth 100000
abbrev vPat (p : TPattern) : Value := .agg #[.int .i64 p.f0, .int .i64 p.f1]
def mIsSite (s : TSite) : Bool := inR s.f0 1 9 && inR s.f1 0 9
def mIsPattern (s : TPattern) : Bool := inR s.f0 0 9 && inR s.f1 (-1) 9
/-- Whether k, or the sign for all numbers, meets n. -/
def mTakes (all k n : Int) : Bool := k == all || k == n
def mIsNarrower (p q : TPattern) : Bool := mIsPattern p && mIsPattern q && (q.f0 == 0 || p.f0 == q.f0) && (q.f1 == -1 || p.f1 == q.f1)

set_option maxHeartbeats 2000000 in
theorem spec_IsSite (s : TSite) (w : World) :
  Calls Tryz.prog 119 #[.agg #[.int .i64 s.f0, .int .i64 s.f1]] w (Says (.bool (mIsSite s)) w) := by
 by_cases h0 : (inR s.f0 1 9) = true
 ·
  by_cases h1 : (inR s.f1 0 9) = true
  ·
   have HE := Lib.hid (show mIsSite s = true by simp [mIsSite, h0, h1])
   go_enter Tryz.func119, Tryz.ntmps119
   go_wp2_with (first | (go_at_call 69; refine (spec_in _ _ _ _).mono ?_; rintro e w1 ⟨rfl, rfl⟩))
   go_ret
   exact ⟨by rw [HE.out]; rfl, aU4⟩
  ·
   have h1 : (inR s.f1 0 9) = false := by simpa using h1
   have HE := Lib.hid (show mIsSite s = false by simp [mIsSite, h0, h1])
   go_enter Tryz.func119, Tryz.ntmps119
   go_wp2_with (first | (go_at_call 69; refine (spec_in _ _ _ _).mono ?_; rintro e w1 ⟨rfl, rfl⟩))
   go_ret
   exact ⟨by rw [HE.out]; rfl, aU4⟩
 ·
  have h0 : (inR s.f0 1 9) = false := by simpa using h0
  have HE := Lib.hid (show mIsSite s = false by simp [mIsSite, h0])
  go_enter Tryz.func119, Tryz.ntmps119
  go_wp2_with (first | (go_at_call 69; refine (spec_in _ _ _ _).mono ?_; rintro e w1 ⟨rfl, rfl⟩))
  go_ret
  exact ⟨by rw [HE.out]; rfl, aU4⟩

set_option maxHeartbeats 2000000 in
theorem impl_IsSite (s : TSite) (w : World) :
  Calls Tryz.prog 137 #[.agg #[.int .i64 s.f0, .int .i64 s.f1]] w (Says (.bool (mIsSite s)) w) := by
 by_cases h0 : (inR s.f0 1 9) = true
 ·
  by_cases h1 : (inR s.f1 0 9) = true
  ·
   have HE := Lib.hid (show mIsSite s = true by simp [mIsSite, h0, h1])
   go_enter Tryz.func137, Tryz.ntmps137
   go_wp2_with (first | (go_at_call 86; refine (impl_in _ _ _ _).mono ?_; rintro e w1 ⟨rfl, rfl⟩))
   go_ret
   exact ⟨by rw [HE.out]; rfl, aU4⟩
  ·
   have h1 : (inR s.f1 0 9) = false := by simpa using h1
   have HE := Lib.hid (show mIsSite s = false by simp [mIsSite, h0, h1])
   go_enter Tryz.func137, Tryz.ntmps137
   go_wp2_with (first | (go_at_call 86; refine (impl_in _ _ _ _).mono ?_; rintro e w1 ⟨rfl, rfl⟩))
   go_ret
   exact ⟨by rw [HE.out]; rfl, aU4⟩
 ·
  have h0 : (inR s.f0 1 9) = false := by simpa using h0
  have HE := Lib.hid (show mIsSite s = false by simp [mIsSite, h0])
  go_enter Tryz.func137, Tryz.ntmps137
  go_wp2_with (first | (go_at_call 86; refine (impl_in _ _ _ _).mono ?_; rintro e w1 ⟨rfl, rfl⟩))
  go_ret
  exact ⟨by rw [HE.out]; rfl, aU4⟩

set_option maxHeartbeats 2000000 in
theorem spec_IsPattern (s : TPattern) (w : World) :
  Calls Tryz.prog 118 #[.agg #[.int .i64 s.f0, .int .i64 s.f1]] w (Says (.bool (mIsPattern s)) w) := by
 by_cases h0 : (inR s.f0 0 9) = true
 ·
  by_cases h1 : (inR s.f1 (-1) 9) = true
  ·
   have HE := Lib.hid (show mIsPattern s = true by simp [mIsPattern, h0, h1])
   go_enter Tryz.func118, Tryz.ntmps118
   go_wp2_with (first | (go_at_call 69; refine (spec_in _ _ _ _).mono ?_; rintro e w1 ⟨rfl, rfl⟩))
   go_ret
   exact ⟨by rw [HE.out]; rfl, aU4⟩
  ·
   have h1 : (inR s.f1 (-1) 9) = false := by simpa using h1
   have HE := Lib.hid (show mIsPattern s = false by simp [mIsPattern, h0, h1])
   go_enter Tryz.func118, Tryz.ntmps118
   go_wp2_with (first | (go_at_call 69; refine (spec_in _ _ _ _).mono ?_; rintro e w1 ⟨rfl, rfl⟩))
   go_ret
   exact ⟨by rw [HE.out]; rfl, aU4⟩
 ·
  have h0 : (inR s.f0 0 9) = false := by simpa using h0
  have HE := Lib.hid (show mIsPattern s = false by simp [mIsPattern, h0])
  go_enter Tryz.func118, Tryz.ntmps118
  go_wp2_with (first | (go_at_call 69; refine (spec_in _ _ _ _).mono ?_; rintro e w1 ⟨rfl, rfl⟩))
  go_ret
  exact ⟨by rw [HE.out]; rfl, aU4⟩

set_option maxHeartbeats 2000000 in
theorem impl_IsPattern (s : TPattern) (w : World) :
  Calls Tryz.prog 132 #[.agg #[.int .i64 s.f0, .int .i64 s.f1]] w (Says (.bool (mIsPattern s)) w) := by
 by_cases h0 : (inR s.f0 0 9) = true
 ·
  by_cases h1 : (inR s.f1 (-1) 9) = true
  ·
   have HE := Lib.hid (show mIsPattern s = true by simp [mIsPattern, h0, h1])
   go_enter Tryz.func132, Tryz.ntmps132
   go_wp2_with (first | (go_at_call 86; refine (impl_in _ _ _ _).mono ?_; rintro e w1 ⟨rfl, rfl⟩))
   go_ret
   exact ⟨by rw [HE.out]; rfl, aU4⟩
  ·
   have h1 : (inR s.f1 (-1) 9) = false := by simpa using h1
   have HE := Lib.hid (show mIsPattern s = false by simp [mIsPattern, h0, h1])
   go_enter Tryz.func132, Tryz.ntmps132
   go_wp2_with (first | (go_at_call 86; refine (impl_in _ _ _ _).mono ?_; rintro e w1 ⟨rfl, rfl⟩))
   go_ret
   exact ⟨by rw [HE.out]; rfl, aU4⟩
 ·
  have h0 : (inR s.f0 0 9) = false := by simpa using h0
  have HE := Lib.hid (show mIsPattern s = false by simp [mIsPattern, h0])
  go_enter Tryz.func132, Tryz.ntmps132
  go_wp2_with (first | (go_at_call 86; refine (impl_in _ _ _ _).mono ?_; rintro e w1 ⟨rfl, rfl⟩))
  go_ret
  exact ⟨by rw [HE.out]; rfl, aU4⟩

theorem impl_optionOf (n all : Int) (w : World) : Calls Tryz.prog 223 #[.int .i64 n, .int .i64 all] w (Says (.agg #[.bool (n != all), .int .i64 n]) w) := by
 go_enter Tryz.func223, Tryz.ntmps223
 go_wp2
 exact bodyPost_ret (v := .agg #[.bool (n != all), .int .i64 n]) (by simp [results, Tryz.results223, go_sem]) rfl ⟨rfl, aU0⟩
theorem impl_scopeOf (p : TPattern) (w : World) : Calls Tryz.prog 207 #[vPat p] w (Says (.agg #[.bool (p.f0 != 0), .int .i64 p.f0, .bool (p.f1 != -1), .int .i64 p.f1]) w) := by
 go_enter Tryz.func207, Tryz.ntmps207
 go_wp2_with fail
 go_region_held3 (fun w' => w'.cell? ⟨w.heap.size, 0, none⟩ = some (.int .i64 p.f0) ∧ w'.cell? ⟨w.heap.size, 1, none⟩ = some (.int .i64 p.f1))
  (first | exact ⟨cell_nw HB1.out (by first | assumption | simp), cell_nw HB1.out (by first | assumption | simp)⟩ | (constructor <;> (repeat (refine cell_past (by simp) ?_)) <;> first | exact And.left (by assumption) | exact And.right (by assumption)) | go_keep)
  (first | (go_at_call 223; refine (impl_optionOf _ _ _).mono ?_; rintro e w1 ⟨rfl, hb1⟩; obtain ⟨hc1, hf1⟩ := bcell hb1; have HB1 := Lib.hid hb1; have hs1 := hb1.size; (try simp at hs1); (have hz0 : w.heap.size < w1.heap.size := by omega); (have hz1 : w.heap.size + 1 < w1.heap.size := by omega); clear hb1))
 all_goals go_wp2_with fail
 all_goals exact bodyPost_ret (v := .agg #[.bool (p.f0 != 0), .int .i64 p.f0, .bool (p.f1 != -1), .int .i64 p.f1]) (by simp [results, Tryz.results207, go_sem, *]) rfl ⟨rfl, aU0⟩

set_option maxHeartbeats 2000000 in
theorem spec_IsNarrower (p q : TPattern) (w : World) :
  Calls Tryz.prog 122 #[vPat p, vPat q] w (Says (.bool (mIsNarrower p q)) w) := by
 by_cases h0 : (mIsPattern p) = true
 ·
  by_cases h1 : (mIsPattern q) = true
  ·
   by_cases h2 : (q.f0 == 0) = true
   ·
    by_cases h3 : (q.f1 == -1) = true
    ·
     have HE := Lib.hid (show mIsNarrower p q = true by simp [mIsNarrower, h0, h1, h2, h3])
     go_enter Tryz.func122, Tryz.ntmps122
     go_wp2_with (first | (go_at_call 118; refine (spec_IsPattern _ _).mono ?_; rintro e w1 ⟨rfl, hb1⟩; obtain ⟨hc1, hf1⟩ := bcell hb1; have HB1 := Lib.hid hb1; have hs1 := hb1.size; (try simp at hs1); (have hz0 : w.heap.size < w1.heap.size := by omega); (have hz1 : w.heap.size + 1 < w1.heap.size := by omega); clear hb1))
     go_ret
     exact ⟨by rw [HE.out]; rfl, aU0⟩
    ·
     have h3 : (q.f1 == -1) = false := by simpa using h3
     by_cases h4 : (p.f1 == q.f1) = true
     ·
      have HE := Lib.hid (show mIsNarrower p q = true by simp [mIsNarrower, h0, h1, h2, h3, h4])
      go_enter Tryz.func122, Tryz.ntmps122
      go_wp2_with (first | (go_at_call 118; refine (spec_IsPattern _ _).mono ?_; rintro e w1 ⟨rfl, hb1⟩; obtain ⟨hc1, hf1⟩ := bcell hb1; have HB1 := Lib.hid hb1; have hs1 := hb1.size; (try simp at hs1); (have hz0 : w.heap.size < w1.heap.size := by omega); (have hz1 : w.heap.size + 1 < w1.heap.size := by omega); clear hb1))
      go_ret
      exact ⟨by rw [HE.out]; rfl, aU0⟩
     ·
      have h4 : (p.f1 == q.f1) = false := by simpa using h4
      have HE := Lib.hid (show mIsNarrower p q = false by simp [mIsNarrower, h0, h1, h2, h3, h4])
      go_enter Tryz.func122, Tryz.ntmps122
      go_wp2_with (first | (go_at_call 118; refine (spec_IsPattern _ _).mono ?_; rintro e w1 ⟨rfl, hb1⟩; obtain ⟨hc1, hf1⟩ := bcell hb1; have HB1 := Lib.hid hb1; have hs1 := hb1.size; (try simp at hs1); (have hz0 : w.heap.size < w1.heap.size := by omega); (have hz1 : w.heap.size + 1 < w1.heap.size := by omega); clear hb1))
      go_ret
      exact ⟨by rw [HE.out]; rfl, aU0⟩
   ·
    have h2 : (q.f0 == 0) = false := by simpa using h2
    by_cases h5 : (p.f0 == q.f0) = true
    ·
     by_cases h6 : (q.f1 == -1) = true
     ·
      have HE := Lib.hid (show mIsNarrower p q = true by simp [mIsNarrower, h0, h1, h2, h5, h6])
      go_enter Tryz.func122, Tryz.ntmps122
      go_wp2_with (first | (go_at_call 118; refine (spec_IsPattern _ _).mono ?_; rintro e w1 ⟨rfl, hb1⟩; obtain ⟨hc1, hf1⟩ := bcell hb1; have HB1 := Lib.hid hb1; have hs1 := hb1.size; (try simp at hs1); (have hz0 : w.heap.size < w1.heap.size := by omega); (have hz1 : w.heap.size + 1 < w1.heap.size := by omega); clear hb1))
      go_ret
      exact ⟨by rw [HE.out]; rfl, aU0⟩
     ·
      have h6 : (q.f1 == -1) = false := by simpa using h6
      by_cases h7 : (p.f1 == q.f1) = true
      ·
       have HE := Lib.hid (show mIsNarrower p q = true by simp [mIsNarrower, h0, h1, h2, h5, h6, h7])
       go_enter Tryz.func122, Tryz.ntmps122
       go_wp2_with (first | (go_at_call 118; refine (spec_IsPattern _ _).mono ?_; rintro e w1 ⟨rfl, hb1⟩; obtain ⟨hc1, hf1⟩ := bcell hb1; have HB1 := Lib.hid hb1; have hs1 := hb1.size; (try simp at hs1); (have hz0 : w.heap.size < w1.heap.size := by omega); (have hz1 : w.heap.size + 1 < w1.heap.size := by omega); clear hb1))
       go_ret
       exact ⟨by rw [HE.out]; rfl, aU0⟩
      ·
       have h7 : (p.f1 == q.f1) = false := by simpa using h7
       have HE := Lib.hid (show mIsNarrower p q = false by simp [mIsNarrower, h0, h1, h2, h5, h6, h7])
       go_enter Tryz.func122, Tryz.ntmps122
       go_wp2_with (first | (go_at_call 118; refine (spec_IsPattern _ _).mono ?_; rintro e w1 ⟨rfl, hb1⟩; obtain ⟨hc1, hf1⟩ := bcell hb1; have HB1 := Lib.hid hb1; have hs1 := hb1.size; (try simp at hs1); (have hz0 : w.heap.size < w1.heap.size := by omega); (have hz1 : w.heap.size + 1 < w1.heap.size := by omega); clear hb1))
       go_ret
       exact ⟨by rw [HE.out]; rfl, aU0⟩
    ·
     have h5 : (p.f0 == q.f0) = false := by simpa using h5
     have HE := Lib.hid (show mIsNarrower p q = false by simp [mIsNarrower, h0, h1, h2, h5])
     go_enter Tryz.func122, Tryz.ntmps122
     go_wp2_with (first | (go_at_call 118; refine (spec_IsPattern _ _).mono ?_; rintro e w1 ⟨rfl, hb1⟩; obtain ⟨hc1, hf1⟩ := bcell hb1; have HB1 := Lib.hid hb1; have hs1 := hb1.size; (try simp at hs1); (have hz0 : w.heap.size < w1.heap.size := by omega); (have hz1 : w.heap.size + 1 < w1.heap.size := by omega); clear hb1))
     go_ret
     exact ⟨by rw [HE.out]; rfl, aU0⟩
  ·
   have h1 : (mIsPattern q) = false := by simpa using h1
   have HE := Lib.hid (show mIsNarrower p q = false by simp [mIsNarrower, h0, h1])
   go_enter Tryz.func122, Tryz.ntmps122
   go_wp2_with (first | (go_at_call 118; refine (spec_IsPattern _ _).mono ?_; rintro e w1 ⟨rfl, hb1⟩; obtain ⟨hc1, hf1⟩ := bcell hb1; have HB1 := Lib.hid hb1; have hs1 := hb1.size; (try simp at hs1); (have hz0 : w.heap.size < w1.heap.size := by omega); (have hz1 : w.heap.size + 1 < w1.heap.size := by omega); clear hb1))
   go_ret
   exact ⟨by rw [HE.out]; rfl, aU0⟩
 ·
  have h0 : (mIsPattern p) = false := by simpa using h0
  have HE := Lib.hid (show mIsNarrower p q = false by simp [mIsNarrower, h0])
  go_enter Tryz.func122, Tryz.ntmps122
  go_wp2_with (first | (go_at_call 118; refine (spec_IsPattern _ _).mono ?_; rintro e w1 ⟨rfl, hb1⟩; obtain ⟨hc1, hf1⟩ := bcell hb1; have HB1 := Lib.hid hb1; have hs1 := hb1.size; (try simp at hs1); (have hz0 : w.heap.size < w1.heap.size := by omega); (have hz1 : w.heap.size + 1 < w1.heap.size := by omega); clear hb1))
  go_ret
  exact ⟨by rw [HE.out]; rfl, aU0⟩

end Go.Proofs.YtkedacmpmancbaaGreatDoor
