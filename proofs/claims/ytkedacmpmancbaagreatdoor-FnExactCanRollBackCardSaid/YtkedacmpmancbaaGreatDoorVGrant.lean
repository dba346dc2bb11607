/- Grant, what is needed of it. -/
import Derived.Test.YtkedacmpmancbaaGreatDoorVFrame
import Derived.Test.YtkedacmpmancbaaGreatDoorVSite
import Derived.Test.YtkedacmpmancbaaGreatDoorVTGrant
namespace Go.Proofs.YtkedacmpmancbaaGreatDoor
open Go Go.ChangeShapes Go.WideShapes Go.ChangeAt Go.RowKit Go.Lib
set_option linter.unusedVariables false
set_option linter.unusedSimpArgs false
set_option maxRecDepth 100000
abbrev vGrant (x : TGrant) : Value := .agg #[.int .i64 x.f0, .int .i64 x.f1, .int .i64 x.f2, .int .i64 x.f3, .int .i64 x.f4, .int .i64 x.f5, .bool x.f6]
def mIsGrant (g : TGrant) : Bool := inR g.f0 1 5 && mIsPattern ⟨g.f1, g.f2⟩ && inR g.f3 1 4 && decide (0 ≤ g.f4) && decide (g.f4 ≤ g.f5) && decide (g.f5 ≤ 10000)
set_option maxHeartbeats 40000000 in
theorem spec_IsGrant (g : TGrant) (w : World) :
  Calls Tryz.prog 71 #[vGrant g] w (Says (.bool (mIsGrant g)) w) := by
 by_cases h0 : (inR g.f0 1 5) = true
 ·
  by_cases h1 : (mIsPattern ⟨g.f1, g.f2⟩) = true
  ·
   by_cases h2 : (inR g.f3 1 4) = true
   ·
    by_cases h3 : (decide (0 ≤ g.f4)) = true
    ·
     by_cases h4 : (decide (g.f4 ≤ g.f5)) = true
     ·
      by_cases h5 : (decide (g.f5 ≤ 10000)) = true
      ·
       have HE := Lib.hid (show mIsGrant g = true by simp [mIsGrant, h0, h1, h2, h3, h4, h5])
       go_enter Tryz.func71, Tryz.ntmps71
       go_wp2_with (first | (go_at_call 69; refine (spec_in _ _ _ _).mono ?_; rintro e w1 ⟨rfl, rfl⟩) | (go_at_call 118; refine (spec_IsPattern ⟨g.f1, g.f2⟩ _).mono ?_; rintro e w1 ⟨rfl, hb1⟩; obtain ⟨hc1, hf1⟩ := bcell hb1; have HB1 := Lib.hid hb1; have hs1 := hb1.size; (try simp at hs1); (have hz0 : w.heap.size < w1.heap.size := by omega); clear hb1))
       go_ret
       exact ⟨by rw [HE.out]; rfl, aU0⟩
      ·
       have h5 : (decide (g.f5 ≤ 10000)) = false := by simpa using h5
       have HE := Lib.hid (show mIsGrant g = false by simp [mIsGrant, h0, h1, h2, h3, h4, h5])
       go_enter Tryz.func71, Tryz.ntmps71
       go_wp2_with (first | (go_at_call 69; refine (spec_in _ _ _ _).mono ?_; rintro e w1 ⟨rfl, rfl⟩) | (go_at_call 118; refine (spec_IsPattern ⟨g.f1, g.f2⟩ _).mono ?_; rintro e w1 ⟨rfl, hb1⟩; obtain ⟨hc1, hf1⟩ := bcell hb1; have HB1 := Lib.hid hb1; have hs1 := hb1.size; (try simp at hs1); (have hz0 : w.heap.size < w1.heap.size := by omega); clear hb1))
       go_ret
       exact ⟨by rw [HE.out]; rfl, aU0⟩
     ·
      have h4 : (decide (g.f4 ≤ g.f5)) = false := by simpa using h4
      have HE := Lib.hid (show mIsGrant g = false by simp [mIsGrant, h0, h1, h2, h3, h4])
      go_enter Tryz.func71, Tryz.ntmps71
      go_wp2_with (first | (go_at_call 69; refine (spec_in _ _ _ _).mono ?_; rintro e w1 ⟨rfl, rfl⟩) | (go_at_call 118; refine (spec_IsPattern ⟨g.f1, g.f2⟩ _).mono ?_; rintro e w1 ⟨rfl, hb1⟩; obtain ⟨hc1, hf1⟩ := bcell hb1; have HB1 := Lib.hid hb1; have hs1 := hb1.size; (try simp at hs1); (have hz0 : w.heap.size < w1.heap.size := by omega); clear hb1))
      go_ret
      exact ⟨by rw [HE.out]; rfl, aU0⟩
    ·
     have h3 : (decide (0 ≤ g.f4)) = false := by simpa using h3
     have HE := Lib.hid (show mIsGrant g = false by simp [mIsGrant, h0, h1, h2, h3])
     go_enter Tryz.func71, Tryz.ntmps71
     go_wp2_with (first | (go_at_call 69; refine (spec_in _ _ _ _).mono ?_; rintro e w1 ⟨rfl, rfl⟩) | (go_at_call 118; refine (spec_IsPattern ⟨g.f1, g.f2⟩ _).mono ?_; rintro e w1 ⟨rfl, hb1⟩; obtain ⟨hc1, hf1⟩ := bcell hb1; have HB1 := Lib.hid hb1; have hs1 := hb1.size; (try simp at hs1); (have hz0 : w.heap.size < w1.heap.size := by omega); clear hb1))
     go_ret
     exact ⟨by rw [HE.out]; rfl, aU0⟩
   ·
    have h2 : (inR g.f3 1 4) = false := by simpa using h2
    have HE := Lib.hid (show mIsGrant g = false by simp [mIsGrant, h0, h1, h2])
    go_enter Tryz.func71, Tryz.ntmps71
    go_wp2_with (first | (go_at_call 69; refine (spec_in _ _ _ _).mono ?_; rintro e w1 ⟨rfl, rfl⟩) | (go_at_call 118; refine (spec_IsPattern ⟨g.f1, g.f2⟩ _).mono ?_; rintro e w1 ⟨rfl, hb1⟩; obtain ⟨hc1, hf1⟩ := bcell hb1; have HB1 := Lib.hid hb1; have hs1 := hb1.size; (try simp at hs1); (have hz0 : w.heap.size < w1.heap.size := by omega); clear hb1))
    go_ret
    exact ⟨by rw [HE.out]; rfl, aU0⟩
  ·
   have h1 : (mIsPattern ⟨g.f1, g.f2⟩) = false := by simpa using h1
   have HE := Lib.hid (show mIsGrant g = false by simp [mIsGrant, h0, h1])
   go_enter Tryz.func71, Tryz.ntmps71
   go_wp2_with (first | (go_at_call 69; refine (spec_in _ _ _ _).mono ?_; rintro e w1 ⟨rfl, rfl⟩) | (go_at_call 118; refine (spec_IsPattern ⟨g.f1, g.f2⟩ _).mono ?_; rintro e w1 ⟨rfl, hb1⟩; obtain ⟨hc1, hf1⟩ := bcell hb1; have HB1 := Lib.hid hb1; have hs1 := hb1.size; (try simp at hs1); (have hz0 : w.heap.size < w1.heap.size := by omega); clear hb1))
   go_ret
   exact ⟨by rw [HE.out]; rfl, aU0⟩
 ·
  have h0 : (inR g.f0 1 5) = false := by simpa using h0
  have HE := Lib.hid (show mIsGrant g = false by simp [mIsGrant, h0])
  go_enter Tryz.func71, Tryz.ntmps71
  go_wp2_with (first | (go_at_call 69; refine (spec_in _ _ _ _).mono ?_; rintro e w1 ⟨rfl, rfl⟩) | (go_at_call 118; refine (spec_IsPattern ⟨g.f1, g.f2⟩ _).mono ?_; rintro e w1 ⟨rfl, hb1⟩; obtain ⟨hc1, hf1⟩ := bcell hb1; have HB1 := Lib.hid hb1; have hs1 := hb1.size; (try simp at hs1); (have hz0 : w.heap.size < w1.heap.size := by omega); clear hb1))
  go_ret
  exact ⟨by rw [HE.out]; rfl, aU0⟩

set_option maxHeartbeats 40000000 in
theorem impl_IsGrant (g : TGrant) (w : World) :
  Calls Tryz.prog 88 #[vGrant g] w (Says (.bool (mIsGrant g)) w) := by
 by_cases h0 : (inR g.f0 1 5) = true
 ·
  by_cases h1 : (mIsPattern ⟨g.f1, g.f2⟩) = true
  ·
   by_cases h2 : (inR g.f3 1 4) = true
   ·
    by_cases h3 : (decide (0 ≤ g.f4)) = true
    ·
     by_cases h4 : (decide (g.f4 ≤ g.f5)) = true
     ·
      by_cases h5 : (decide (g.f5 ≤ 10000)) = true
      ·
       have HE := Lib.hid (show mIsGrant g = true by simp [mIsGrant, h0, h1, h2, h3, h4, h5])
       go_enter Tryz.func88, Tryz.ntmps88
       go_wp2_with (first | (go_at_call 86; refine (impl_in _ _ _ _).mono ?_; rintro e w1 ⟨rfl, rfl⟩) | (go_at_call 132; refine (impl_IsPattern ⟨g.f1, g.f2⟩ _).mono ?_; rintro e w1 ⟨rfl, hb1⟩; obtain ⟨hc1, hf1⟩ := bcell hb1; have HB1 := Lib.hid hb1; have hs1 := hb1.size; (try simp at hs1); (have hz0 : w.heap.size < w1.heap.size := by omega); clear hb1))
       go_ret
       exact ⟨by rw [HE.out]; rfl, aU0⟩
      ·
       have h5 : (decide (g.f5 ≤ 10000)) = false := by simpa using h5
       have HE := Lib.hid (show mIsGrant g = false by simp [mIsGrant, h0, h1, h2, h3, h4, h5])
       go_enter Tryz.func88, Tryz.ntmps88
       go_wp2_with (first | (go_at_call 86; refine (impl_in _ _ _ _).mono ?_; rintro e w1 ⟨rfl, rfl⟩) | (go_at_call 132; refine (impl_IsPattern ⟨g.f1, g.f2⟩ _).mono ?_; rintro e w1 ⟨rfl, hb1⟩; obtain ⟨hc1, hf1⟩ := bcell hb1; have HB1 := Lib.hid hb1; have hs1 := hb1.size; (try simp at hs1); (have hz0 : w.heap.size < w1.heap.size := by omega); clear hb1))
       go_ret
       exact ⟨by rw [HE.out]; rfl, aU0⟩
     ·
      have h4 : (decide (g.f4 ≤ g.f5)) = false := by simpa using h4
      have HE := Lib.hid (show mIsGrant g = false by simp [mIsGrant, h0, h1, h2, h3, h4])
      go_enter Tryz.func88, Tryz.ntmps88
      go_wp2_with (first | (go_at_call 86; refine (impl_in _ _ _ _).mono ?_; rintro e w1 ⟨rfl, rfl⟩) | (go_at_call 132; refine (impl_IsPattern ⟨g.f1, g.f2⟩ _).mono ?_; rintro e w1 ⟨rfl, hb1⟩; obtain ⟨hc1, hf1⟩ := bcell hb1; have HB1 := Lib.hid hb1; have hs1 := hb1.size; (try simp at hs1); (have hz0 : w.heap.size < w1.heap.size := by omega); clear hb1))
      go_ret
      exact ⟨by rw [HE.out]; rfl, aU0⟩
    ·
     have h3 : (decide (0 ≤ g.f4)) = false := by simpa using h3
     have HE := Lib.hid (show mIsGrant g = false by simp [mIsGrant, h0, h1, h2, h3])
     go_enter Tryz.func88, Tryz.ntmps88
     go_wp2_with (first | (go_at_call 86; refine (impl_in _ _ _ _).mono ?_; rintro e w1 ⟨rfl, rfl⟩) | (go_at_call 132; refine (impl_IsPattern ⟨g.f1, g.f2⟩ _).mono ?_; rintro e w1 ⟨rfl, hb1⟩; obtain ⟨hc1, hf1⟩ := bcell hb1; have HB1 := Lib.hid hb1; have hs1 := hb1.size; (try simp at hs1); (have hz0 : w.heap.size < w1.heap.size := by omega); clear hb1))
     go_ret
     exact ⟨by rw [HE.out]; rfl, aU0⟩
   ·
    have h2 : (inR g.f3 1 4) = false := by simpa using h2
    have HE := Lib.hid (show mIsGrant g = false by simp [mIsGrant, h0, h1, h2])
    go_enter Tryz.func88, Tryz.ntmps88
    go_wp2_with (first | (go_at_call 86; refine (impl_in _ _ _ _).mono ?_; rintro e w1 ⟨rfl, rfl⟩) | (go_at_call 132; refine (impl_IsPattern ⟨g.f1, g.f2⟩ _).mono ?_; rintro e w1 ⟨rfl, hb1⟩; obtain ⟨hc1, hf1⟩ := bcell hb1; have HB1 := Lib.hid hb1; have hs1 := hb1.size; (try simp at hs1); (have hz0 : w.heap.size < w1.heap.size := by omega); clear hb1))
    go_ret
    exact ⟨by rw [HE.out]; rfl, aU0⟩
  ·
   have h1 : (mIsPattern ⟨g.f1, g.f2⟩) = false := by simpa using h1
   have HE := Lib.hid (show mIsGrant g = false by simp [mIsGrant, h0, h1])
   go_enter Tryz.func88, Tryz.ntmps88
   go_wp2_with (first | (go_at_call 86; refine (impl_in _ _ _ _).mono ?_; rintro e w1 ⟨rfl, rfl⟩) | (go_at_call 132; refine (impl_IsPattern ⟨g.f1, g.f2⟩ _).mono ?_; rintro e w1 ⟨rfl, hb1⟩; obtain ⟨hc1, hf1⟩ := bcell hb1; have HB1 := Lib.hid hb1; have hs1 := hb1.size; (try simp at hs1); (have hz0 : w.heap.size < w1.heap.size := by omega); clear hb1))
   go_ret
   exact ⟨by rw [HE.out]; rfl, aU0⟩
 ·
  have h0 : (inR g.f0 1 5) = false := by simpa using h0
  have HE := Lib.hid (show mIsGrant g = false by simp [mIsGrant, h0])
  go_enter Tryz.func88, Tryz.ntmps88
  go_wp2_with (first | (go_at_call 86; refine (impl_in _ _ _ _).mono ?_; rintro e w1 ⟨rfl, rfl⟩) | (go_at_call 132; refine (impl_IsPattern ⟨g.f1, g.f2⟩ _).mono ?_; rintro e w1 ⟨rfl, hb1⟩; obtain ⟨hc1, hf1⟩ := bcell hb1; have HB1 := Lib.hid hb1; have hs1 := hb1.size; (try simp at hs1); (have hz0 : w.heap.size < w1.heap.size := by omega); clear hb1))
  go_ret
  exact ⟨by rw [HE.out]; rfl, aU0⟩

end Go.Proofs.YtkedacmpmancbaaGreatDoor
