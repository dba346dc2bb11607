/- FAllowed, Allow, Within, IsWider, what is needed of it. -/
import Derived.Test.YtkedacmpmancbaaGreatDoorUFrame
import Derived.Test.YtkedacmpmancbaaGreatDoorUTGrant
import Derived.Test.YtkedacmpmancbaaGreatDoorUFun
import Derived.Test.YtkedacmpmancbaaGreatDoorUGrant
import Derived.Test.YtkedacmpmancbaaGreatDoorURgn
import Derived.Test.YtkedacmpmancbaaGreatDoorURb
import Derived.Deep.RegionHeld3
import Derived.Deep.LoopGhost
import Derived.Test.YtkedacmpmancbaaGreatDoorUNb
import Derived.Test.YtkedacmpmancbaaGreatDoorURPackage
namespace Go.Proofs.YtkedacmpmancbaaGreatDoor
open Go Go.ChangeShapes Go.WideShapes Go.ChangeAt Go.RowKit Go.Lib
set_option linter.unusedVariables false
set_option linter.unusedSimpArgs false
set_option maxRecDepth 100000
end Go.Proofs.YtkedacmpmancbaaGreatDoor
namespace Go.Proofs.YtkedacmpmancbaaGreatDoor
open Go Go.ChangeShapes Go.WideShapes Go.ChangeAt Go.RowKit Go.Lib
set_option linter.unusedVariables false
set_option linter.unusedSimpArgs false
set_option maxRecDepth 100000
end Go.Proofs.YtkedacmpmancbaaGreatDoor
namespace Go.Proofs.YtkedacmpmancbaaGreatDoor
open Go Go.ChangeShapes Go.WideShapes Go.ChangeAt Go.RowKit Go.Lib
set_option linter.unusedVariables false
set_option linter.unusedSimpArgs false
set_option maxRecDepth 100000
def mWithin (x y : TGrant) : Bool := mIsGrant x && mIsGrant y && x.f0 == y.f0 && x.f3 == y.f3 && mIsNarrower ⟨x.f1, x.f2⟩ ⟨y.f1, y.f2⟩ && decide (y.f4 ≤ x.f4) && decide (x.f5 ≤ y.f5) && (x.f6 || !y.f6)
theorem any_grow {α : Type} {p : α → Bool} {l : List α} {k : Nat} {x : α} (hz : l[k]? = some x) : (l.take (k + 1)).any p = ((l.take k).any p || p x) := by
 rw [List.take_add_one, hz, List.any_append]; simp

set_option maxHeartbeats 40000000 in
theorem impl_within (x0 x1 x2 x3 x4 x5 : Int) (x6 : Bool) (y : TGrant) (w : World) :
  Calls Tryz.prog 156 #[vGrant ⟨x0, x1, x2, x3, x4, x5, x6⟩, vGrant y] w (Says (.bool (mWithin ⟨x0, x1, x2, x3, x4, x5, x6⟩ y)) w) := by
 have G0 := Lib.hid (fun W => impl_IsGrant ⟨x0, x1, x2, x3, x4, x5, x6⟩ W)
 have G1 := Lib.hid (fun W => impl_IsGrant y W)
 by_cases h0 : (mIsGrant ⟨x0, x1, x2, x3, x4, x5, x6⟩) = true
 ·
  by_cases h1 : (mIsGrant y) = true
  ·
   by_cases h2 : (x0 == y.f0) = true
   ·
    by_cases h3 : (x3 == y.f3) = true
    ·
     by_cases h4 : (mIsNarrower ⟨x1, x2⟩ ⟨y.f1, y.f2⟩) = true
     ·
      by_cases h5 : (decide (y.f4 ≤ x4)) = true
      ·
       by_cases h6 : (decide (x5 ≤ y.f5)) = true
       ·
        cases x6
        ·
         have HE := Lib.hid (show mWithin ⟨x0, x1, x2, x3, x4, x5, false⟩ y = (!y.f6) by simp [mWithin, h0, h1, h2, h3, h4, h5, h6])
         go_enter Tryz.func156, Tryz.ntmps156
         go_wp2_with (first | (go_at_call 88; (first | (with_reducible refine Calls.mono (G0.out _) ?_) | (with_reducible refine Calls.mono (G1.out _) ?_)); rintro e w1 ⟨rfl, hb1⟩; obtain ⟨hc1, hf1⟩ := bcell hb1; have HB1 := Lib.hid hb1; have hs1 := hb1.size; (try simp at hs1); (have hz0 : w.heap.size < w1.heap.size := by omega); (have hz1 : w.heap.size + 1 < w1.heap.size := by omega); clear hb1) | (go_at_call 187; refine (impl_IsNarrower ⟨x1, x2⟩ ⟨y.f1, y.f2⟩ _).mono ?_; rintro e w1 ⟨rfl, hb1⟩; obtain ⟨hc1, hf1⟩ := bcell hb1; have HB1 := Lib.hid hb1; have hs1 := hb1.size; (try simp at hs1); (have hz0 : w.heap.size < w1.heap.size := by omega); (have hz1 : w.heap.size + 1 < w1.heap.size := by omega); clear hb1))
         go_ret
         exact ⟨by rw [HE.out]; rfl, aU2⟩
        ·
         have HE := Lib.hid (show mWithin ⟨x0, x1, x2, x3, x4, x5, true⟩ y = true by simp [mWithin, h0, h1, h2, h3, h4, h5, h6])
         go_enter Tryz.func156, Tryz.ntmps156
         go_wp2_with (first | (go_at_call 88; (first | (with_reducible refine Calls.mono (G0.out _) ?_) | (with_reducible refine Calls.mono (G1.out _) ?_)); rintro e w1 ⟨rfl, hb1⟩; obtain ⟨hc1, hf1⟩ := bcell hb1; have HB1 := Lib.hid hb1; have hs1 := hb1.size; (try simp at hs1); (have hz0 : w.heap.size < w1.heap.size := by omega); (have hz1 : w.heap.size + 1 < w1.heap.size := by omega); clear hb1) | (go_at_call 187; refine (impl_IsNarrower ⟨x1, x2⟩ ⟨y.f1, y.f2⟩ _).mono ?_; rintro e w1 ⟨rfl, hb1⟩; obtain ⟨hc1, hf1⟩ := bcell hb1; have HB1 := Lib.hid hb1; have hs1 := hb1.size; (try simp at hs1); (have hz0 : w.heap.size < w1.heap.size := by omega); (have hz1 : w.heap.size + 1 < w1.heap.size := by omega); clear hb1))
         go_ret
         exact ⟨by rw [HE.out]; rfl, aU2⟩
       ·
        have h6 : (decide (x5 ≤ y.f5)) = false := by simpa using h6
        have HE := Lib.hid (show mWithin ⟨x0, x1, x2, x3, x4, x5, x6⟩ y = false by simp [mWithin, h0, h1, h2, h3, h4, h5, h6])
        go_enter Tryz.func156, Tryz.ntmps156
        go_wp2_with (first | (go_at_call 88; (first | (with_reducible refine Calls.mono (G0.out _) ?_) | (with_reducible refine Calls.mono (G1.out _) ?_)); rintro e w1 ⟨rfl, hb1⟩; obtain ⟨hc1, hf1⟩ := bcell hb1; have HB1 := Lib.hid hb1; have hs1 := hb1.size; (try simp at hs1); (have hz0 : w.heap.size < w1.heap.size := by omega); (have hz1 : w.heap.size + 1 < w1.heap.size := by omega); clear hb1) | (go_at_call 187; refine (impl_IsNarrower ⟨x1, x2⟩ ⟨y.f1, y.f2⟩ _).mono ?_; rintro e w1 ⟨rfl, hb1⟩; obtain ⟨hc1, hf1⟩ := bcell hb1; have HB1 := Lib.hid hb1; have hs1 := hb1.size; (try simp at hs1); (have hz0 : w.heap.size < w1.heap.size := by omega); (have hz1 : w.heap.size + 1 < w1.heap.size := by omega); clear hb1))
        go_ret
        exact ⟨by rw [HE.out]; rfl, aU2⟩
      ·
       have h5 : (decide (y.f4 ≤ x4)) = false := by simpa using h5
       have HE := Lib.hid (show mWithin ⟨x0, x1, x2, x3, x4, x5, x6⟩ y = false by simp [mWithin, h0, h1, h2, h3, h4, h5])
       go_enter Tryz.func156, Tryz.ntmps156
       go_wp2_with (first | (go_at_call 88; (first | (with_reducible refine Calls.mono (G0.out _) ?_) | (with_reducible refine Calls.mono (G1.out _) ?_)); rintro e w1 ⟨rfl, hb1⟩; obtain ⟨hc1, hf1⟩ := bcell hb1; have HB1 := Lib.hid hb1; have hs1 := hb1.size; (try simp at hs1); (have hz0 : w.heap.size < w1.heap.size := by omega); (have hz1 : w.heap.size + 1 < w1.heap.size := by omega); clear hb1) | (go_at_call 187; refine (impl_IsNarrower ⟨x1, x2⟩ ⟨y.f1, y.f2⟩ _).mono ?_; rintro e w1 ⟨rfl, hb1⟩; obtain ⟨hc1, hf1⟩ := bcell hb1; have HB1 := Lib.hid hb1; have hs1 := hb1.size; (try simp at hs1); (have hz0 : w.heap.size < w1.heap.size := by omega); (have hz1 : w.heap.size + 1 < w1.heap.size := by omega); clear hb1))
       go_ret
       exact ⟨by rw [HE.out]; rfl, aU2⟩
     ·
      have h4 : (mIsNarrower ⟨x1, x2⟩ ⟨y.f1, y.f2⟩) = false := by simpa using h4
      have HE := Lib.hid (show mWithin ⟨x0, x1, x2, x3, x4, x5, x6⟩ y = false by simp [mWithin, h0, h1, h2, h3, h4])
      go_enter Tryz.func156, Tryz.ntmps156
      go_wp2_with (first | (go_at_call 88; (first | (with_reducible refine Calls.mono (G0.out _) ?_) | (with_reducible refine Calls.mono (G1.out _) ?_)); rintro e w1 ⟨rfl, hb1⟩; obtain ⟨hc1, hf1⟩ := bcell hb1; have HB1 := Lib.hid hb1; have hs1 := hb1.size; (try simp at hs1); (have hz0 : w.heap.size < w1.heap.size := by omega); (have hz1 : w.heap.size + 1 < w1.heap.size := by omega); clear hb1) | (go_at_call 187; refine (impl_IsNarrower ⟨x1, x2⟩ ⟨y.f1, y.f2⟩ _).mono ?_; rintro e w1 ⟨rfl, hb1⟩; obtain ⟨hc1, hf1⟩ := bcell hb1; have HB1 := Lib.hid hb1; have hs1 := hb1.size; (try simp at hs1); (have hz0 : w.heap.size < w1.heap.size := by omega); (have hz1 : w.heap.size + 1 < w1.heap.size := by omega); clear hb1))
      go_ret
      exact ⟨by rw [HE.out]; rfl, aU2⟩
    ·
     have h3 : (x3 == y.f3) = false := by simpa using h3
     have HE := Lib.hid (show mWithin ⟨x0, x1, x2, x3, x4, x5, x6⟩ y = false by simp [mWithin, h0, h1, h2, h3])
     go_enter Tryz.func156, Tryz.ntmps156
     go_wp2_with (first | (go_at_call 88; (first | (with_reducible refine Calls.mono (G0.out _) ?_) | (with_reducible refine Calls.mono (G1.out _) ?_)); rintro e w1 ⟨rfl, hb1⟩; obtain ⟨hc1, hf1⟩ := bcell hb1; have HB1 := Lib.hid hb1; have hs1 := hb1.size; (try simp at hs1); (have hz0 : w.heap.size < w1.heap.size := by omega); (have hz1 : w.heap.size + 1 < w1.heap.size := by omega); clear hb1) | (go_at_call 187; refine (impl_IsNarrower ⟨x1, x2⟩ ⟨y.f1, y.f2⟩ _).mono ?_; rintro e w1 ⟨rfl, hb1⟩; obtain ⟨hc1, hf1⟩ := bcell hb1; have HB1 := Lib.hid hb1; have hs1 := hb1.size; (try simp at hs1); (have hz0 : w.heap.size < w1.heap.size := by omega); (have hz1 : w.heap.size + 1 < w1.heap.size := by omega); clear hb1))
     go_ret
     exact ⟨by rw [HE.out]; rfl, aU2⟩
   ·
    have h2 : (x0 == y.f0) = false := by simpa using h2
    have HE := Lib.hid (show mWithin ⟨x0, x1, x2, x3, x4, x5, x6⟩ y = false by simp [mWithin, h0, h1, h2])
    go_enter Tryz.func156, Tryz.ntmps156
    go_wp2_with (first | (go_at_call 88; (first | (with_reducible refine Calls.mono (G0.out _) ?_) | (with_reducible refine Calls.mono (G1.out _) ?_)); rintro e w1 ⟨rfl, hb1⟩; obtain ⟨hc1, hf1⟩ := bcell hb1; have HB1 := Lib.hid hb1; have hs1 := hb1.size; (try simp at hs1); (have hz0 : w.heap.size < w1.heap.size := by omega); (have hz1 : w.heap.size + 1 < w1.heap.size := by omega); clear hb1) | (go_at_call 187; refine (impl_IsNarrower ⟨x1, x2⟩ ⟨y.f1, y.f2⟩ _).mono ?_; rintro e w1 ⟨rfl, hb1⟩; obtain ⟨hc1, hf1⟩ := bcell hb1; have HB1 := Lib.hid hb1; have hs1 := hb1.size; (try simp at hs1); (have hz0 : w.heap.size < w1.heap.size := by omega); (have hz1 : w.heap.size + 1 < w1.heap.size := by omega); clear hb1))
    go_ret
    exact ⟨by rw [HE.out]; rfl, aU2⟩
  ·
   have h1 : (mIsGrant y) = false := by simpa using h1
   have HE := Lib.hid (show mWithin ⟨x0, x1, x2, x3, x4, x5, x6⟩ y = false by simp [mWithin, h0, h1])
   go_enter Tryz.func156, Tryz.ntmps156
   go_wp2_with (first | (go_at_call 88; (first | (with_reducible refine Calls.mono (G0.out _) ?_) | (with_reducible refine Calls.mono (G1.out _) ?_)); rintro e w1 ⟨rfl, hb1⟩; obtain ⟨hc1, hf1⟩ := bcell hb1; have HB1 := Lib.hid hb1; have hs1 := hb1.size; (try simp at hs1); (have hz0 : w.heap.size < w1.heap.size := by omega); (have hz1 : w.heap.size + 1 < w1.heap.size := by omega); clear hb1) | (go_at_call 187; refine (impl_IsNarrower ⟨x1, x2⟩ ⟨y.f1, y.f2⟩ _).mono ?_; rintro e w1 ⟨rfl, hb1⟩; obtain ⟨hc1, hf1⟩ := bcell hb1; have HB1 := Lib.hid hb1; have hs1 := hb1.size; (try simp at hs1); (have hz0 : w.heap.size < w1.heap.size := by omega); (have hz1 : w.heap.size + 1 < w1.heap.size := by omega); clear hb1))
   go_ret
   exact ⟨by rw [HE.out]; rfl, aU2⟩
 ·
  have h0 : (mIsGrant ⟨x0, x1, x2, x3, x4, x5, x6⟩) = false := by simpa using h0
  have HE := Lib.hid (show mWithin ⟨x0, x1, x2, x3, x4, x5, x6⟩ y = false by simp [mWithin, h0])
  go_enter Tryz.func156, Tryz.ntmps156
  go_wp2_with (first | (go_at_call 88; (first | (with_reducible refine Calls.mono (G0.out _) ?_) | (with_reducible refine Calls.mono (G1.out _) ?_)); rintro e w1 ⟨rfl, hb1⟩; obtain ⟨hc1, hf1⟩ := bcell hb1; have HB1 := Lib.hid hb1; have hs1 := hb1.size; (try simp at hs1); (have hz0 : w.heap.size < w1.heap.size := by omega); (have hz1 : w.heap.size + 1 < w1.heap.size := by omega); clear hb1) | (go_at_call 187; refine (impl_IsNarrower ⟨x1, x2⟩ ⟨y.f1, y.f2⟩ _).mono ?_; rintro e w1 ⟨rfl, hb1⟩; obtain ⟨hc1, hf1⟩ := bcell hb1; have HB1 := Lib.hid hb1; have hs1 := hb1.size; (try simp at hs1); (have hz0 : w.heap.size < w1.heap.size := by omega); (have hz1 : w.heap.size + 1 < w1.heap.size := by omega); clear hb1))
  go_ret
  exact ⟨by rw [HE.out]; rfl, aU2⟩

theorem impl_Within (x y : TGrant) (w : World) : Calls Tryz.prog 156 #[vGrant x, vGrant y] w (Says (.bool (mWithin x y)) w) := impl_within x.f0 x.f1 x.f2 x.f3 x.f4 x.f5 x.f6 y w

set_option maxHeartbeats 40000000 in
theorem spec_within (x0 x1 x2 x3 x4 x5 : Int) (x6 : Bool) (y : TGrant) (w : World) :
  Calls Tryz.prog 126 #[vGrant ⟨x0, x1, x2, x3, x4, x5, x6⟩, vGrant y] w (Says (.bool (mWithin ⟨x0, x1, x2, x3, x4, x5, x6⟩ y)) w) := by
 have G0 := Lib.hid (fun W => spec_IsGrant ⟨x0, x1, x2, x3, x4, x5, x6⟩ W)
 have G1 := Lib.hid (fun W => spec_IsGrant y W)
 by_cases h0 : (mIsGrant ⟨x0, x1, x2, x3, x4, x5, x6⟩) = true
 ·
  by_cases h1 : (mIsGrant y) = true
  ·
   by_cases h2 : (x0 == y.f0) = true
   ·
    by_cases h3 : (x3 == y.f3) = true
    ·
     by_cases h4 : (mIsNarrower ⟨x1, x2⟩ ⟨y.f1, y.f2⟩) = true
     ·
      by_cases h5 : (decide (y.f4 ≤ x4)) = true
      ·
       by_cases h6 : (decide (x5 ≤ y.f5)) = true
       ·
        cases x6
        ·
         have HE := Lib.hid (show mWithin ⟨x0, x1, x2, x3, x4, x5, false⟩ y = (!y.f6) by simp [mWithin, h0, h1, h2, h3, h4, h5, h6])
         go_enter Tryz.func126, Tryz.ntmps126
         go_wp2_with (first | (go_at_call 71; (first | (with_reducible refine Calls.mono (G0.out _) ?_) | (with_reducible refine Calls.mono (G1.out _) ?_)); rintro e w1 ⟨rfl, hb1⟩; obtain ⟨hc1, hf1⟩ := bcell hb1; have HB1 := Lib.hid hb1; have hs1 := hb1.size; (try simp at hs1); (have hz0 : w.heap.size < w1.heap.size := by omega); (have hz1 : w.heap.size + 1 < w1.heap.size := by omega); clear hb1) | (go_at_call 122; refine (spec_IsNarrower ⟨x1, x2⟩ ⟨y.f1, y.f2⟩ _).mono ?_; rintro e w1 ⟨rfl, hb1⟩; obtain ⟨hc1, hf1⟩ := bcell hb1; have HB1 := Lib.hid hb1; have hs1 := hb1.size; (try simp at hs1); (have hz0 : w.heap.size < w1.heap.size := by omega); (have hz1 : w.heap.size + 1 < w1.heap.size := by omega); clear hb1))
         go_ret
         exact ⟨by rw [HE.out]; rfl, aU2⟩
        ·
         have HE := Lib.hid (show mWithin ⟨x0, x1, x2, x3, x4, x5, true⟩ y = true by simp [mWithin, h0, h1, h2, h3, h4, h5, h6])
         go_enter Tryz.func126, Tryz.ntmps126
         go_wp2_with (first | (go_at_call 71; (first | (with_reducible refine Calls.mono (G0.out _) ?_) | (with_reducible refine Calls.mono (G1.out _) ?_)); rintro e w1 ⟨rfl, hb1⟩; obtain ⟨hc1, hf1⟩ := bcell hb1; have HB1 := Lib.hid hb1; have hs1 := hb1.size; (try simp at hs1); (have hz0 : w.heap.size < w1.heap.size := by omega); (have hz1 : w.heap.size + 1 < w1.heap.size := by omega); clear hb1) | (go_at_call 122; refine (spec_IsNarrower ⟨x1, x2⟩ ⟨y.f1, y.f2⟩ _).mono ?_; rintro e w1 ⟨rfl, hb1⟩; obtain ⟨hc1, hf1⟩ := bcell hb1; have HB1 := Lib.hid hb1; have hs1 := hb1.size; (try simp at hs1); (have hz0 : w.heap.size < w1.heap.size := by omega); (have hz1 : w.heap.size + 1 < w1.heap.size := by omega); clear hb1))
         go_ret
         exact ⟨by rw [HE.out]; rfl, aU2⟩
       ·
        have h6 : (decide (x5 ≤ y.f5)) = false := by simpa using h6
        have HE := Lib.hid (show mWithin ⟨x0, x1, x2, x3, x4, x5, x6⟩ y = false by simp [mWithin, h0, h1, h2, h3, h4, h5, h6])
        go_enter Tryz.func126, Tryz.ntmps126
        go_wp2_with (first | (go_at_call 71; (first | (with_reducible refine Calls.mono (G0.out _) ?_) | (with_reducible refine Calls.mono (G1.out _) ?_)); rintro e w1 ⟨rfl, hb1⟩; obtain ⟨hc1, hf1⟩ := bcell hb1; have HB1 := Lib.hid hb1; have hs1 := hb1.size; (try simp at hs1); (have hz0 : w.heap.size < w1.heap.size := by omega); (have hz1 : w.heap.size + 1 < w1.heap.size := by omega); clear hb1) | (go_at_call 122; refine (spec_IsNarrower ⟨x1, x2⟩ ⟨y.f1, y.f2⟩ _).mono ?_; rintro e w1 ⟨rfl, hb1⟩; obtain ⟨hc1, hf1⟩ := bcell hb1; have HB1 := Lib.hid hb1; have hs1 := hb1.size; (try simp at hs1); (have hz0 : w.heap.size < w1.heap.size := by omega); (have hz1 : w.heap.size + 1 < w1.heap.size := by omega); clear hb1))
        go_ret
        exact ⟨by rw [HE.out]; rfl, aU2⟩
      ·
       have h5 : (decide (y.f4 ≤ x4)) = false := by simpa using h5
       have HE := Lib.hid (show mWithin ⟨x0, x1, x2, x3, x4, x5, x6⟩ y = false by simp [mWithin, h0, h1, h2, h3, h4, h5])
       go_enter Tryz.func126, Tryz.ntmps126
       go_wp2_with (first | (go_at_call 71; (first | (with_reducible refine Calls.mono (G0.out _) ?_) | (with_reducible refine Calls.mono (G1.out _) ?_)); rintro e w1 ⟨rfl, hb1⟩; obtain ⟨hc1, hf1⟩ := bcell hb1; have HB1 := Lib.hid hb1; have hs1 := hb1.size; (try simp at hs1); (have hz0 : w.heap.size < w1.heap.size := by omega); (have hz1 : w.heap.size + 1 < w1.heap.size := by omega); clear hb1) | (go_at_call 122; refine (spec_IsNarrower ⟨x1, x2⟩ ⟨y.f1, y.f2⟩ _).mono ?_; rintro e w1 ⟨rfl, hb1⟩; obtain ⟨hc1, hf1⟩ := bcell hb1; have HB1 := Lib.hid hb1; have hs1 := hb1.size; (try simp at hs1); (have hz0 : w.heap.size < w1.heap.size := by omega); (have hz1 : w.heap.size + 1 < w1.heap.size := by omega); clear hb1))
       go_ret
       exact ⟨by rw [HE.out]; rfl, aU2⟩
     ·
      have h4 : (mIsNarrower ⟨x1, x2⟩ ⟨y.f1, y.f2⟩) = false := by simpa using h4
      have HE := Lib.hid (show mWithin ⟨x0, x1, x2, x3, x4, x5, x6⟩ y = false by simp [mWithin, h0, h1, h2, h3, h4])
      go_enter Tryz.func126, Tryz.ntmps126
      go_wp2_with (first | (go_at_call 71; (first | (with_reducible refine Calls.mono (G0.out _) ?_) | (with_reducible refine Calls.mono (G1.out _) ?_)); rintro e w1 ⟨rfl, hb1⟩; obtain ⟨hc1, hf1⟩ := bcell hb1; have HB1 := Lib.hid hb1; have hs1 := hb1.size; (try simp at hs1); (have hz0 : w.heap.size < w1.heap.size := by omega); (have hz1 : w.heap.size + 1 < w1.heap.size := by omega); clear hb1) | (go_at_call 122; refine (spec_IsNarrower ⟨x1, x2⟩ ⟨y.f1, y.f2⟩ _).mono ?_; rintro e w1 ⟨rfl, hb1⟩; obtain ⟨hc1, hf1⟩ := bcell hb1; have HB1 := Lib.hid hb1; have hs1 := hb1.size; (try simp at hs1); (have hz0 : w.heap.size < w1.heap.size := by omega); (have hz1 : w.heap.size + 1 < w1.heap.size := by omega); clear hb1))
      go_ret
      exact ⟨by rw [HE.out]; rfl, aU2⟩
    ·
     have h3 : (x3 == y.f3) = false := by simpa using h3
     have HE := Lib.hid (show mWithin ⟨x0, x1, x2, x3, x4, x5, x6⟩ y = false by simp [mWithin, h0, h1, h2, h3])
     go_enter Tryz.func126, Tryz.ntmps126
     go_wp2_with (first | (go_at_call 71; (first | (with_reducible refine Calls.mono (G0.out _) ?_) | (with_reducible refine Calls.mono (G1.out _) ?_)); rintro e w1 ⟨rfl, hb1⟩; obtain ⟨hc1, hf1⟩ := bcell hb1; have HB1 := Lib.hid hb1; have hs1 := hb1.size; (try simp at hs1); (have hz0 : w.heap.size < w1.heap.size := by omega); (have hz1 : w.heap.size + 1 < w1.heap.size := by omega); clear hb1) | (go_at_call 122; refine (spec_IsNarrower ⟨x1, x2⟩ ⟨y.f1, y.f2⟩ _).mono ?_; rintro e w1 ⟨rfl, hb1⟩; obtain ⟨hc1, hf1⟩ := bcell hb1; have HB1 := Lib.hid hb1; have hs1 := hb1.size; (try simp at hs1); (have hz0 : w.heap.size < w1.heap.size := by omega); (have hz1 : w.heap.size + 1 < w1.heap.size := by omega); clear hb1))
     go_ret
     exact ⟨by rw [HE.out]; rfl, aU2⟩
   ·
    have h2 : (x0 == y.f0) = false := by simpa using h2
    have HE := Lib.hid (show mWithin ⟨x0, x1, x2, x3, x4, x5, x6⟩ y = false by simp [mWithin, h0, h1, h2])
    go_enter Tryz.func126, Tryz.ntmps126
    go_wp2_with (first | (go_at_call 71; (first | (with_reducible refine Calls.mono (G0.out _) ?_) | (with_reducible refine Calls.mono (G1.out _) ?_)); rintro e w1 ⟨rfl, hb1⟩; obtain ⟨hc1, hf1⟩ := bcell hb1; have HB1 := Lib.hid hb1; have hs1 := hb1.size; (try simp at hs1); (have hz0 : w.heap.size < w1.heap.size := by omega); (have hz1 : w.heap.size + 1 < w1.heap.size := by omega); clear hb1) | (go_at_call 122; refine (spec_IsNarrower ⟨x1, x2⟩ ⟨y.f1, y.f2⟩ _).mono ?_; rintro e w1 ⟨rfl, hb1⟩; obtain ⟨hc1, hf1⟩ := bcell hb1; have HB1 := Lib.hid hb1; have hs1 := hb1.size; (try simp at hs1); (have hz0 : w.heap.size < w1.heap.size := by omega); (have hz1 : w.heap.size + 1 < w1.heap.size := by omega); clear hb1))
    go_ret
    exact ⟨by rw [HE.out]; rfl, aU2⟩
  ·
   have h1 : (mIsGrant y) = false := by simpa using h1
   have HE := Lib.hid (show mWithin ⟨x0, x1, x2, x3, x4, x5, x6⟩ y = false by simp [mWithin, h0, h1])
   go_enter Tryz.func126, Tryz.ntmps126
   go_wp2_with (first | (go_at_call 71; (first | (with_reducible refine Calls.mono (G0.out _) ?_) | (with_reducible refine Calls.mono (G1.out _) ?_)); rintro e w1 ⟨rfl, hb1⟩; obtain ⟨hc1, hf1⟩ := bcell hb1; have HB1 := Lib.hid hb1; have hs1 := hb1.size; (try simp at hs1); (have hz0 : w.heap.size < w1.heap.size := by omega); (have hz1 : w.heap.size + 1 < w1.heap.size := by omega); clear hb1) | (go_at_call 122; refine (spec_IsNarrower ⟨x1, x2⟩ ⟨y.f1, y.f2⟩ _).mono ?_; rintro e w1 ⟨rfl, hb1⟩; obtain ⟨hc1, hf1⟩ := bcell hb1; have HB1 := Lib.hid hb1; have hs1 := hb1.size; (try simp at hs1); (have hz0 : w.heap.size < w1.heap.size := by omega); (have hz1 : w.heap.size + 1 < w1.heap.size := by omega); clear hb1))
   go_ret
   exact ⟨by rw [HE.out]; rfl, aU2⟩
 ·
  have h0 : (mIsGrant ⟨x0, x1, x2, x3, x4, x5, x6⟩) = false := by simpa using h0
  have HE := Lib.hid (show mWithin ⟨x0, x1, x2, x3, x4, x5, x6⟩ y = false by simp [mWithin, h0])
  go_enter Tryz.func126, Tryz.ntmps126
  go_wp2_with (first | (go_at_call 71; (first | (with_reducible refine Calls.mono (G0.out _) ?_) | (with_reducible refine Calls.mono (G1.out _) ?_)); rintro e w1 ⟨rfl, hb1⟩; obtain ⟨hc1, hf1⟩ := bcell hb1; have HB1 := Lib.hid hb1; have hs1 := hb1.size; (try simp at hs1); (have hz0 : w.heap.size < w1.heap.size := by omega); (have hz1 : w.heap.size + 1 < w1.heap.size := by omega); clear hb1) | (go_at_call 122; refine (spec_IsNarrower ⟨x1, x2⟩ ⟨y.f1, y.f2⟩ _).mono ?_; rintro e w1 ⟨rfl, hb1⟩; obtain ⟨hc1, hf1⟩ := bcell hb1; have HB1 := Lib.hid hb1; have hs1 := hb1.size; (try simp at hs1); (have hz0 : w.heap.size < w1.heap.size := by omega); (have hz1 : w.heap.size + 1 < w1.heap.size := by omega); clear hb1))
  go_ret
  exact ⟨by rw [HE.out]; rfl, aU2⟩

theorem spec_Within (x y : TGrant) (w : World) : Calls Tryz.prog 126 #[vGrant x, vGrant y] w (Says (.bool (mWithin x y)) w) := spec_within x.f0 x.f1 x.f2 x.f3 x.f4 x.f5 x.f6 y w

set_option maxHeartbeats 4000000 in
theorem clo_WithinIn (x : TGrant) (B : Nat) (l : List TGrant) (w0 : World) (h0 : BoxAt w0 B 106 #[.int .i64 x.f0, .int .i64 x.f1, .int .i64 x.f2, .int .i64 x.f3, .int .i64 x.f4, .int .i64 x.f5, .bool x.f6]) :
  PredB Tryz.prog 155 #[.pointer (some ⟨B, 0, none⟩)] vGrant (mWithin x) l w0 := fun w y _ hb => by
 have C0 := Lib.hid (fun W => impl_Within x y W)
 have J := h0.new hb
 have hlt := J.lt
 obtain ⟨c0, c1, c2, c3, c4, c5, c6⟩ := J.p7
 clear h0 hb J
 change Calls Tryz.prog _ #[vGrant y, .pointer (some ⟨B, 0, none⟩)] _ _
 generalize mWithin x y = r at C0 ⊢
 go_enter Tryz.func155, Tryz.ntmps155
 go_wp2_with fail
 refine Calls.mono (C0.out _) ?_
 rintro e w1 ⟨rfl, hb1⟩
 have HB1 := Lib.hid (below_trans ((Below.refl _ _).alloc (Nat.le_refl _) _) hb1 (by simp))
 clear hb1
 go_wp2_with fail
 go_ret
 exact ⟨rfl, HB1.out⟩

theorem rd_tailWithinIn {w : World} {lo hi n b off : Nat} {x : TGrant} {l : List TGrant} (h : Rd w lo hi 7 (some ⟨b, off, none⟩) (n + 1) (cGrant (x :: l))) :
  Rd w lo hi 7 (some ⟨b, off + 7, none⟩) n (cGrant l) := by
 have hc : cGrant (x :: l) = TGrant.cells x ++ cGrant l := rfl
 refine ⟨?_, fun hn => ?_⟩
 ·
  have := h.1
  rw [hc, List.length_append, TGrant.len] at this
  omega
 ·
  obtain ⟨b', off', e, h1, h2, h3⟩ := h.2 (by omega)
  cases e
  refine ⟨b, off + 7, rfl, h1, h2, fun j u hu => ?_⟩
  rw [Nat.add_assoc]
  refine h3 (7 + j) u ?_
  rw [hc, List.getElem?_append_right (by rw [TGrant.len]; omega), TGrant.len]
  simpa using hu

set_option maxHeartbeats 4000000 in
theorem any_WithinIn (p : TGrant → Bool) (lb : Array Value) (l : List TGrant) (A : Option Addr) (n c lo hi : Nat) (w : World) (hn : n ≤ 17592186044416) (hcap : n ≤ c)
  (hr : Rd w lo hi 7 A n (cGrant l)) (hp : PredB Tryz.prog 155 lb (fun x : TGrant => .agg #[.int .i64 x.f0, .int .i64 x.f1, .int .i64 x.f2, .int .i64 x.f3, .int .i64 x.f4, .int .i64 x.f5, .bool x.f6]) p l w) :
  Calls Tryz.prog 154 #[.slice A n c, .func (.func 155) #[] lb] w (Says (.bool (l.any p)) w) := by
 have HR := Lib.hid hr
 have HP := Lib.hid hp
 clear hr hp
 go_enter Tryz.func154, Tryz.ntmps154
 go_wp2_with fail
 go_loopg [0] n (fun gg v wr => ∃ (A' : Option Addr) (n' c' : Nat) (l' : List TGrant), v = .slice A' n' c' ∧ n' ≤ gg ∧ n' ≤ n ∧ n' ≤ c' ∧ Hid (Rd wr lo hi 7 A' n' (cGrant l')) ∧ Hid (∀ x, x ∈ l' → x ∈ l) ∧ Hid (l.any p = l'.any p) ∧ Hid (Below w.heap.size w wr))
 case atStart => exact ⟨_, _, _, l, rfl, Nat.le_refl _, Nat.le_refl _, hcap, HR, Lib.hid (fun _ h => h), Lib.hid rfl, Lib.hid (Below.refl _ _)⟩
 case round =>
  obtain ⟨A', n', c', l', rfl, hg, hn', hcc, HR', HM, HA, HB⟩ := hrel
  cases l' with
  | nil =>
   obtain rfl : n' = 0 := by have := HR'.out.1; simp at this; omega
   have HE := Lib.hid (show l.any p = false from HA.out)
   go_wp2_with fail
   go_ret
   exact ⟨by rw [HE.out]; rfl, HB.out⟩
  | cons x t =>
   have HL := Lib.hid (rd_len TGrant.len HR'.out (by decide))
   obtain ⟨m, rfl⟩ : ∃ m, n' = m + 1 := ⟨t.length, by have := HL.out; simp at this; omega⟩
   obtain ⟨b, off, x', rfl, _, _, hz, hc⟩ := rd_elem (k := 0) TGrant.len HR'.out HL.out (by omega)
   obtain rfl : x = x' := by simpa using hz
   have c0 : wr.cell? ⟨b, off, none⟩ = some (.int .i64 x.f0) := by simpa using hc 0 _ rfl
   have c1 : wr.cell? ⟨b, off + 1, none⟩ = some (.int .i64 x.f1) := by simpa using hc 1 _ rfl
   have c2 : wr.cell? ⟨b, off + 2, none⟩ = some (.int .i64 x.f2) := by simpa using hc 2 _ rfl
   have c3 : wr.cell? ⟨b, off + 3, none⟩ = some (.int .i64 x.f3) := by simpa using hc 3 _ rfl
   have c4 : wr.cell? ⟨b, off + 4, none⟩ = some (.int .i64 x.f4) := by simpa using hc 4 _ rfl
   have c5 : wr.cell? ⟨b, off + 5, none⟩ = some (.int .i64 x.f5) := by simpa using hc 5 _ rfl
   have c6 : wr.cell? ⟨b, off + 6, none⟩ = some (.bool x.f6) := by simpa using hc 6 _ rfl
   have HT := Lib.hid (rd_tailWithinIn HR'.out)
   have hcall := HP.out wr x (HM.out x (by simp)) HB.out
   have HMt := Lib.hid (fun y (h : y ∈ t) => HM.out y (List.mem_cons_of_mem _ h))
   clear hc hz HR' HM
   cases hq : p x with
   | true =>
    rw [hq] at hcall
    have HE := Lib.hid (show l.any p = true by rw [HA.out, List.any_cons, hq]; rfl)
    clear hq HA
    go_wp2_with (go_at_call 155; refine hcall.mono ?_; rintro e w1 ⟨rfl, hb1⟩; have HB1 := Lib.hid hb1; clear hb1)
    go_ret
    exact ⟨by rw [HE.out]; rfl, below_trans HB.out HB1.out (Nat.le_refl _)⟩
   | false =>
    rw [hq] at hcall
    have HE := Lib.hid (show l.any p = t.any p by rw [HA.out, List.any_cons, hq]; rfl)
    clear hq HA
    rcases Nat.eq_zero_or_pos m with rfl | hm
    ·
     obtain rfl : t = [] := by have := HL.out; simpa using this
     go_wp2_with (go_at_call 155; refine hcall.mono ?_; rintro e w1 ⟨rfl, hb1⟩; have HB1 := Lib.hid hb1; clear hb1)
     go_roundg 0
     case measure => omega
     case rel => exact ⟨_, _, _, [], rfl, Nat.le_refl _, by omega, by omega, Lib.hid Rd.empty, HMt, HE, Lib.hid (below_trans HB.out HB1.out (Nat.le_refl _))⟩
    ·
     go_wp2_with (go_at_call 155; refine hcall.mono ?_; rintro e w1 ⟨rfl, hb1⟩; have HB1 := Lib.hid hb1; clear hb1)
     go_roundg m
     case measure => omega
     case rel => exact ⟨_, _, _, t, rfl, by omega, by omega, by omega, Lib.hid (HT.out.new HB1.out), HMt, HE, Lib.hid (below_trans HB.out HB1.out (Nat.le_refl _))⟩

set_option maxHeartbeats 4000000 in
theorem clo_Within (l1 : List TGrant) (A1 : Option Addr) (n1 c1 lo1 hi1 : Nat) (hn1 : n1 ≤ 1048576) (hcap1 : n1 ≤ c1) (B : Nat) (l : List TGrant) (w0 : World) (h0 : BoxAt w0 B 30 #[.slice A1 n1 c1]) (hr1 : Rd w0 lo1 hi1 7 A1 n1 (cGrant l1)) :
  PredB Tryz.prog 153 #[.pointer (some ⟨B, 0, none⟩)] vGrant (fun x => l1.any (mWithin x)) l w0 := fun w x _ hb => by
 have HC := any_WithinIn (mWithin x) _ l1 A1 n1 c1 lo1 hi1 (w.alloc (.cells #[.int .i64 x.f0, .int .i64 x.f1, .int .i64 x.f2, .int .i64 x.f3, .int .i64 x.f4, .int .i64 x.f5, .bool x.f6] 106)) (by omega) hcap1 ((hr1.new hb).alloc _) (clo_WithinIn x w.heap.size l1 _ (box_new w _ _))
 have J := h0.new hb
 have hlt := J.lt
 have c0 := J.at_ (j := 0) rfl
 have hmf : ∀ (fn : Fn) (first cap : Array Value) (w : World), (Instr.makeFunc fn first cap).run Tryz.prog w = .ok (.func fn first cap) w := fun _ _ _ _ => rfl
 clear h0 hb J hr1
 change Calls Tryz.prog _ #[vGrant x, .pointer (some ⟨B, 0, none⟩)] _ (Says (.bool (l1.any (mWithin x))) w)
 generalize l1.any (mWithin x) = r at HC ⊢
 replace HC := Lib.hid HC
 go_enter Tryz.func153, Tryz.ntmps153
 go_wp2_with fail
 refine Calls.mono HC.out ?_
 rintro e w1 ⟨rfl, hb1⟩
 have HB1 := Lib.hid (below_trans ((Below.refl _ _).alloc (Nat.le_refl _) _) hb1 (by simp))
 clear hb1
 go_wp2_with fail
 go_ret
 exact ⟨rfl, HB1.out⟩

theorem rd_tailWithin {w : World} {lo hi n b off : Nat} {x : TGrant} {l : List TGrant} (h : Rd w lo hi 7 (some ⟨b, off, none⟩) (n + 1) (cGrant (x :: l))) :
  Rd w lo hi 7 (some ⟨b, off + 7, none⟩) n (cGrant l) := by
 have hc : cGrant (x :: l) = TGrant.cells x ++ cGrant l := rfl
 refine ⟨?_, fun hn => ?_⟩
 ·
  have := h.1
  rw [hc, List.length_append, TGrant.len] at this
  omega
 ·
  obtain ⟨b', off', e, h1, h2, h3⟩ := h.2 (by omega)
  cases e
  refine ⟨b, off + 7, rfl, h1, h2, fun j u hu => ?_⟩
  rw [Nat.add_assoc]
  refine h3 (7 + j) u ?_
  rw [hc, List.getElem?_append_right (by rw [TGrant.len]; omega), TGrant.len]
  simpa using hu

set_option maxHeartbeats 4000000 in
theorem any_Within (p : TGrant → Bool) (lb : Array Value) (l : List TGrant) (A : Option Addr) (n c lo hi : Nat) (w : World) (hn : n ≤ 17592186044416) (hcap : n ≤ c)
  (hr : Rd w lo hi 7 A n (cGrant l)) (hp : PredB Tryz.prog 176 lb (fun x : TGrant => .agg #[.int .i64 x.f0, .int .i64 x.f1, .int .i64 x.f2, .int .i64 x.f3, .int .i64 x.f4, .int .i64 x.f5, .bool x.f6]) p l w) :
  Calls Tryz.prog 154 #[.slice A n c, .func (.func 176) #[] lb] w (Says (.bool (l.any p)) w) := by
 have HR := Lib.hid hr
 have HP := Lib.hid hp
 clear hr hp
 go_enter Tryz.func154, Tryz.ntmps154
 go_wp2_with fail
 go_loopg [0] n (fun gg v wr => ∃ (A' : Option Addr) (n' c' : Nat) (l' : List TGrant), v = .slice A' n' c' ∧ n' ≤ gg ∧ n' ≤ n ∧ n' ≤ c' ∧ Hid (Rd wr lo hi 7 A' n' (cGrant l')) ∧ Hid (∀ x, x ∈ l' → x ∈ l) ∧ Hid (l.any p = l'.any p) ∧ Hid (Below w.heap.size w wr))
 case atStart => exact ⟨_, _, _, l, rfl, Nat.le_refl _, Nat.le_refl _, hcap, HR, Lib.hid (fun _ h => h), Lib.hid rfl, Lib.hid (Below.refl _ _)⟩
 case round =>
  obtain ⟨A', n', c', l', rfl, hg, hn', hcc, HR', HM, HA, HB⟩ := hrel
  cases l' with
  | nil =>
   obtain rfl : n' = 0 := by have := HR'.out.1; simp at this; omega
   have HE := Lib.hid (show l.any p = false from HA.out)
   go_wp2_with fail
   go_ret
   exact ⟨by rw [HE.out]; rfl, HB.out⟩
  | cons x t =>
   have HL := Lib.hid (rd_len TGrant.len HR'.out (by decide))
   obtain ⟨m, rfl⟩ : ∃ m, n' = m + 1 := ⟨t.length, by have := HL.out; simp at this; omega⟩
   obtain ⟨b, off, x', rfl, _, _, hz, hc⟩ := rd_elem (k := 0) TGrant.len HR'.out HL.out (by omega)
   obtain rfl : x = x' := by simpa using hz
   have c0 : wr.cell? ⟨b, off, none⟩ = some (.int .i64 x.f0) := by simpa using hc 0 _ rfl
   have c1 : wr.cell? ⟨b, off + 1, none⟩ = some (.int .i64 x.f1) := by simpa using hc 1 _ rfl
   have c2 : wr.cell? ⟨b, off + 2, none⟩ = some (.int .i64 x.f2) := by simpa using hc 2 _ rfl
   have c3 : wr.cell? ⟨b, off + 3, none⟩ = some (.int .i64 x.f3) := by simpa using hc 3 _ rfl
   have c4 : wr.cell? ⟨b, off + 4, none⟩ = some (.int .i64 x.f4) := by simpa using hc 4 _ rfl
   have c5 : wr.cell? ⟨b, off + 5, none⟩ = some (.int .i64 x.f5) := by simpa using hc 5 _ rfl
   have c6 : wr.cell? ⟨b, off + 6, none⟩ = some (.bool x.f6) := by simpa using hc 6 _ rfl
   have HT := Lib.hid (rd_tailWithin HR'.out)
   have hcall := HP.out wr x (HM.out x (by simp)) HB.out
   have HMt := Lib.hid (fun y (h : y ∈ t) => HM.out y (List.mem_cons_of_mem _ h))
   clear hc hz HR' HM
   cases hq : p x with
   | true =>
    rw [hq] at hcall
    have HE := Lib.hid (show l.any p = true by rw [HA.out, List.any_cons, hq]; rfl)
    clear hq HA
    go_wp2_with (go_at_call 176; refine hcall.mono ?_; rintro e w1 ⟨rfl, hb1⟩; have HB1 := Lib.hid hb1; clear hb1)
    go_ret
    exact ⟨by rw [HE.out]; rfl, below_trans HB.out HB1.out (Nat.le_refl _)⟩
   | false =>
    rw [hq] at hcall
    have HE := Lib.hid (show l.any p = t.any p by rw [HA.out, List.any_cons, hq]; rfl)
    clear hq HA
    rcases Nat.eq_zero_or_pos m with rfl | hm
    ·
     obtain rfl : t = [] := by have := HL.out; simpa using this
     go_wp2_with (go_at_call 176; refine hcall.mono ?_; rintro e w1 ⟨rfl, hb1⟩; have HB1 := Lib.hid hb1; clear hb1)
     go_roundg 0
     case measure => omega
     case rel => exact ⟨_, _, _, [], rfl, Nat.le_refl _, by omega, by omega, Lib.hid Rd.empty, HMt, HE, Lib.hid (below_trans HB.out HB1.out (Nat.le_refl _))⟩
    ·
     go_wp2_with (go_at_call 176; refine hcall.mono ?_; rintro e w1 ⟨rfl, hb1⟩; have HB1 := Lib.hid hb1; clear hb1)
     go_roundg m
     case measure => omega
     case rel => exact ⟨_, _, _, t, rfl, by omega, by omega, by omega, Lib.hid (HT.out.new HB1.out), HMt, HE, Lib.hid (below_trans HB.out HB1.out (Nat.le_refl _))⟩

theorem nots_Within (p : TGrant → Bool) (lb : Array Value) (l : List TGrant) (B : Nat) (w : World) (hq : w.cell? ⟨B, 0, none⟩ = some (.func (.func 153) #[] lb))
  (hp : PredB Tryz.prog 153 lb (fun x : TGrant => .agg #[.int .i64 x.f0, .int .i64 x.f1, .int .i64 x.f2, .int .i64 x.f3, .int .i64 x.f4, .int .i64 x.f5, .bool x.f6]) p l w) : PredB Tryz.prog 176 #[.pointer (some ⟨B, 0, none⟩)] (fun x : TGrant => .agg #[.int .i64 x.f0, .int .i64 x.f1, .int .i64 x.f2, .int .i64 x.f3, .int .i64 x.f4, .int .i64 x.f5, .bool x.f6]) (fun x => !p x) l w := fun W x hx hb => by
 have c0 := cell_nw hb hq
 have HC := Lib.hid (show Calls Tryz.prog 153 (#[.agg #[.int .i64 x.f0, .int .i64 x.f1, .int .i64 x.f2, .int .i64 x.f3, .int .i64 x.f4, .int .i64 x.f5, .bool x.f6]] ++ lb) (W.alloc (.cells #[.int .i64 x.f0, .int .i64 x.f1, .int .i64 x.f2, .int .i64 x.f3, .int .i64 x.f4, .int .i64 x.f5, .bool x.f6] 106)) _ from hp _ x hx (hb.alloc (by have := hb.size; omega) _))
 have m0 : B < W.heap.size := World.block_lt_of_cell? _ _ c0
 have n0 : B ≠ W.heap.size := Nat.ne_of_lt m0
 clear hb hq hp
 change Calls Tryz.prog _ #[.agg #[.int .i64 x.f0, .int .i64 x.f1, .int .i64 x.f2, .int .i64 x.f3, .int .i64 x.f4, .int .i64 x.f5, .bool x.f6], .pointer (some ⟨B, 0, none⟩)] _ (Says (.bool (!p x)) W)
 generalize p x = q at HC ⊢
 cases q
 all_goals
  go_enter Tryz.func176, Tryz.ntmps176
  go_wp2_with (go_at_call 153; refine HC.out.mono ?_; rintro e w1 ⟨rfl, hb1⟩; have HB1 := Lib.hid (below_trans ((Below.refl _ _).alloc (Nat.le_refl _) _) hb1 (by simp)); clear hb1)
  go_ret
  exact ⟨rfl, HB1.out⟩
set_option maxHeartbeats 4000000 in
theorem all_Within (p : TGrant → Bool) (lb : Array Value) (l : List TGrant) (A : Option Addr) (n c lo hi : Nat) (w : World) (hn : n ≤ 17592186044416) (hcap : n ≤ c)
  (hr : Rd w lo hi 7 A n (cGrant l)) (hp : PredB Tryz.prog 153 lb (fun x : TGrant => .agg #[.int .i64 x.f0, .int .i64 x.f1, .int .i64 x.f2, .int .i64 x.f3, .int .i64 x.f4, .int .i64 x.f5, .bool x.f6]) p l w) :
  Calls Tryz.prog 130 #[.slice A n c, .func (.func 153) #[] lb] w (Says (.bool (l.all p)) w) := by
 have hmf : ∀ (fn : Fn) (first cap : Array Value) (w : World), (Instr.makeFunc fn first cap).run Tryz.prog w = .ok (.func fn first cap) w := fun _ _ _ _ => rfl
 have HC := any_Within (fun x => !p x) #[.pointer (some ⟨w.heap.size, 0, none⟩)] l A n c lo hi (w.alloc (.cells #[.func (.func 153) #[] lb] 102)) hn hcap (hr.alloc _)
  (nots_Within p lb l w.heap.size _ (cell_newest (by simp) rfl) (fun W x hx hb => hp W x hx (below_trans ((Below.refl _ _).alloc (Nat.le_refl _) _) hb (by simp))))
 have hE : l.all p = !(l.any fun x => !p x) := by rw [List.all_eq_not_any_not]
 rw [hE]
 clear hr hp hE
 generalize (l.any fun x => !p x) = q at HC ⊢
 have HC := Lib.hid HC
 cases q
 all_goals
  go_enter Tryz.func130, Tryz.ntmps130
  go_wp2_with fail
  refine HC.out.mono ?_
  rintro e w1 ⟨rfl, hb1⟩
  have HB1 := Lib.hid (below_trans ((Below.refl _ _).alloc (Nat.le_refl _) _) hb1 (by simp))
  clear hb1
  go_wp2_with fail
  go_ret
  exact ⟨rfl, HB1.out⟩

set_option maxHeartbeats 4000000 in
theorem impl_IsWithinGrantsC (l : List TGrant) (A : Option Addr) (n c lo hi : Nat) (l1 : List TGrant) (A1 : Option Addr) (n1 cc1 lo1 hi1 : Nat) (w : World) (hn : n ≤ 1048576) (hr : Rd w lo hi 7 A n (cGrant l)) (hcap : n ≤ c) (H : Hid (cGrantOk l)) (hn1 : n1 ≤ 1048576) (hr1 : Rd w lo1 hi1 7 A1 n1 (cGrant l1)) (hcap1 : n1 ≤ cc1) (H1 : Hid (cGrantOk l1)) :
  Calls Tryz.prog 98 #[.slice A n c, .slice A1 n1 cc1] w (Says (.bool (l.all fun x => l1.any (mWithin x))) w) := by
 have hmf : ∀ (fn : Fn) (first cap : Array Value) (w : World), (Instr.makeFunc fn first cap).run Tryz.prog w = .ok (.func fn first cap) w := fun _ _ _ _ => rfl
 have HC := all_Within (fun x => l1.any (mWithin x)) _ l A n c lo hi (w.alloc (.cells #[.slice A1 n1 cc1] 30)) (by omega) hcap (hr.alloc _) (clo_Within l1 A1 n1 cc1 lo1 hi1 hn1 hcap1 w.heap.size l _ (box_new w _ _) (hr1.alloc _))
 generalize (l.all fun x => l1.any (mWithin x)) = r at HC ⊢
 clear hr hr1
 replace HC := Lib.hid HC
 go_enter Tryz.func98, Tryz.ntmps98
 go_wp2_with fail
 refine Calls.mono HC.out ?_
 rintro e w1 ⟨rfl, hb1⟩
 have HB1 := Lib.hid (below_trans ((Below.refl _ _).alloc (Nat.le_refl _) _) hb1 (by simp))
 clear hb1
 go_wp2_with fail
 go_ret
 exact ⟨rfl, HB1.out⟩

set_option maxHeartbeats 40000000 in
theorem spec_IsWithinGrants (l : List TGrant) (A : Option Addr) (n c lo hi : Nat) (l1 : List TGrant) (A1 : Option Addr) (n1 cc1 lo1 hi1 : Nat) (w : World) (hn : n ≤ 1048576) (hr : Rd w lo hi 7 A n (cGrant l)) (hcap : n ≤ c) (H : Hid (cGrantOk l)) (hn1 : n1 ≤ 1048576) (hr1 : Rd w lo1 hi1 7 A1 n1 (cGrant l1)) (hcap1 : n1 ≤ cc1) (H1 : Hid (cGrantOk l1)) :
  Calls Tryz.prog 80 #[.slice A n c, .slice A1 n1 cc1] w (Says (.bool (l.all fun x => l1.any (mWithin x))) w) := by
 have HL := Lib.hid (rd_len TGrant.len hr (by decide))
 have HL1 := Lib.hid (rd_len TGrant.len hr1 (by decide))
 have HR := Lib.hid hr
 have HR1 := Lib.hid hr1
 clear hr hr1 hcap hcap1
 generalize hp : (fun x => l1.any (mWithin x)) = p
 have HP := Lib.hid hp
 clear hp
 go_enter Tryz.func80, Tryz.ntmps80
 go_wp2_with fail
 go_loopg [5] n (fun gg i wr => ∃ k : Nat, k ≤ n ∧ n - k ≤ gg ∧ i = .int .i64 k ∧ Hid (Below w.heap.size w wr) ∧ Hid ((l.take k).all p = true))
 case atStart => exact ⟨0, Nat.zero_le _, by omega, rfl, Lib.hid (Below.refl _ _), Lib.hid (by simp)⟩
 case round =>
  obtain ⟨k, hk, hg, rfl, HB, HF⟩ := hrel
  by_cases hlt : k < n
  ·
   obtain ⟨b, off, x, rfl, _, _, hz, hc⟩ := rd_elem TGrant.len (HR.out.new HB.out) HL.out hlt
   have HZ := Lib.hid hz
   have HC := Lib.hid hc
   clear hz hc
   obtain ⟨wo, rfl⟩ : ∃ wo : World, wo = wr := ⟨_, rfl⟩
   go_wp2_with fail
   go_loopg [6, 7] n1 (fun gg s j wq => ∃ m : Nat, m ≤ n1 ∧ n1 - m ≤ gg ∧ j = .int .i64 m ∧ s = .bool ((l1.take m).any (mWithin x)) ∧ Hid (Below wo.heap.size wo wq))
   case atStart => exact ⟨0, Nat.zero_le _, by omega, rfl, by simp, Lib.hid (Below.refl _ _)⟩
   case round =>
    obtain ⟨m, hm, hg1, rfl, rfl, HB2⟩ := hrel
    by_cases hlt1 : m < n1
    ·
     obtain ⟨b1, off1, y, rfl, _, _, hz1, hd⟩ := rd_elem TGrant.len ((HR1.out.new HB.out).new HB2.out) HL1.out hlt1
     have HS2 := Lib.hid (any_grow (p := mWithin x) hz1)
     have C0 := Lib.hid (fun W => spec_Within x y W)
     clear hz1
     have c0 : wr.cell? ⟨b, off + k * 7, none⟩ = _ := cell_nw HB2.out (HC.out 0 _ rfl)
     have c1 : wr.cell? ⟨b, off + k * 7 + 1, none⟩ = _ := cell_nw HB2.out (HC.out 1 _ rfl)
     have c2 : wr.cell? ⟨b, off + k * 7 + 2, none⟩ = _ := cell_nw HB2.out (HC.out 2 _ rfl)
     have c3 : wr.cell? ⟨b, off + k * 7 + 3, none⟩ = _ := cell_nw HB2.out (HC.out 3 _ rfl)
     have c4 : wr.cell? ⟨b, off + k * 7 + 4, none⟩ = _ := cell_nw HB2.out (HC.out 4 _ rfl)
     have c5 : wr.cell? ⟨b, off + k * 7 + 5, none⟩ = _ := cell_nw HB2.out (HC.out 5 _ rfl)
     have c6 : wr.cell? ⟨b, off + k * 7 + 6, none⟩ = _ := cell_nw HB2.out (HC.out 6 _ rfl)
     have d0 : wr.cell? ⟨b1, off1 + m * 7, none⟩ = _ := hd 0 _ rfl
     have d1 : wr.cell? ⟨b1, off1 + m * 7 + 1, none⟩ = _ := hd 1 _ rfl
     have d2 : wr.cell? ⟨b1, off1 + m * 7 + 2, none⟩ = _ := hd 2 _ rfl
     have d3 : wr.cell? ⟨b1, off1 + m * 7 + 3, none⟩ = _ := hd 3 _ rfl
     have d4 : wr.cell? ⟨b1, off1 + m * 7 + 4, none⟩ = _ := hd 4 _ rfl
     have d5 : wr.cell? ⟨b1, off1 + m * 7 + 5, none⟩ = _ := hd 5 _ rfl
     have d6 : wr.cell? ⟨b1, off1 + m * 7 + 6, none⟩ = _ := hd 6 _ rfl
     have hsz := HB2.out.size
     clear hd
     generalize (l1.take m).any (mWithin x) = s0 at HS2 ⊢
     generalize mWithin x y = r at HS2 C0
     cases s0
     ·
      go_wp2_with fail
      refine wp_region_held_drew (S := fun w' => Below wr.heap.size wr w') (by kernel_rfl) ?_ (fun hHeld => ?_)
      ·
       exact ((Below.refl _ _).drew)
      refine tl 0 20 hHeld rfl ?_ (by intro W hS; have c0' := cell_nw hS c0; have c1' := cell_nw hS c1; have c2' := cell_nw hS c2; have c3' := cell_nw hS c3; have c4' := cell_nw hS c4; have c5' := cell_nw hS c5; have c6' := cell_nw hS c6; have d0' := cell_nw hS d0; have d1' := cell_nw hS d1; have d2' := cell_nw hS d2; have d3' := cell_nw hS d3; have d4' := cell_nw hS d4; have d5' := cell_nw hS d5; have d6' := cell_nw hS d6; clear hS; go_simp; try with_reducible rfl); try simp only [ptl]
      refine tl 1 21 hHeld rfl ?_ (by intro W hS; have c0' := cell_nw hS c0; have c1' := cell_nw hS c1; have c2' := cell_nw hS c2; have c3' := cell_nw hS c3; have c4' := cell_nw hS c4; have c5' := cell_nw hS c5; have c6' := cell_nw hS c6; have d0' := cell_nw hS d0; have d1' := cell_nw hS d1; have d2' := cell_nw hS d2; have d3' := cell_nw hS d3; have d4' := cell_nw hS d4; have d5' := cell_nw hS d5; have d6' := cell_nw hS d6; clear hS; go_simp; try with_reducible rfl); try simp only [ptl]
      refine tl 2 22 hHeld rfl ?_ (by intro W hS; have c0' := cell_nw hS c0; have c1' := cell_nw hS c1; have c2' := cell_nw hS c2; have c3' := cell_nw hS c3; have c4' := cell_nw hS c4; have c5' := cell_nw hS c5; have c6' := cell_nw hS c6; have d0' := cell_nw hS d0; have d1' := cell_nw hS d1; have d2' := cell_nw hS d2; have d3' := cell_nw hS d3; have d4' := cell_nw hS d4; have d5' := cell_nw hS d5; have d6' := cell_nw hS d6; clear hS; go_simp; try with_reducible rfl); try simp only [ptl]
      refine tl 3 23 hHeld rfl ?_ (by intro W hS; have c0' := cell_nw hS c0; have c1' := cell_nw hS c1; have c2' := cell_nw hS c2; have c3' := cell_nw hS c3; have c4' := cell_nw hS c4; have c5' := cell_nw hS c5; have c6' := cell_nw hS c6; have d0' := cell_nw hS d0; have d1' := cell_nw hS d1; have d2' := cell_nw hS d2; have d3' := cell_nw hS d3; have d4' := cell_nw hS d4; have d5' := cell_nw hS d5; have d6' := cell_nw hS d6; clear hS; go_simp; try with_reducible rfl); try simp only [ptl]
      refine tl 4 24 hHeld rfl ?_ (by intro W hS; have c0' := cell_nw hS c0; have c1' := cell_nw hS c1; have c2' := cell_nw hS c2; have c3' := cell_nw hS c3; have c4' := cell_nw hS c4; have c5' := cell_nw hS c5; have c6' := cell_nw hS c6; have d0' := cell_nw hS d0; have d1' := cell_nw hS d1; have d2' := cell_nw hS d2; have d3' := cell_nw hS d3; have d4' := cell_nw hS d4; have d5' := cell_nw hS d5; have d6' := cell_nw hS d6; clear hS; go_simp; try with_reducible rfl); try simp only [ptl]
      refine tl 5 25 hHeld rfl ?_ (by intro W hS; have c0' := cell_nw hS c0; have c1' := cell_nw hS c1; have c2' := cell_nw hS c2; have c3' := cell_nw hS c3; have c4' := cell_nw hS c4; have c5' := cell_nw hS c5; have c6' := cell_nw hS c6; have d0' := cell_nw hS d0; have d1' := cell_nw hS d1; have d2' := cell_nw hS d2; have d3' := cell_nw hS d3; have d4' := cell_nw hS d4; have d5' := cell_nw hS d5; have d6' := cell_nw hS d6; clear hS; go_simp; try with_reducible rfl); try simp only [ptl]
      refine tl 6 26 hHeld rfl ?_ (by intro W hS; have c0' := cell_nw hS c0; have c1' := cell_nw hS c1; have c2' := cell_nw hS c2; have c3' := cell_nw hS c3; have c4' := cell_nw hS c4; have c5' := cell_nw hS c5; have c6' := cell_nw hS c6; have d0' := cell_nw hS d0; have d1' := cell_nw hS d1; have d2' := cell_nw hS d2; have d3' := cell_nw hS d3; have d4' := cell_nw hS d4; have d5' := cell_nw hS d5; have d6' := cell_nw hS d6; clear hS; go_simp; try with_reducible rfl); try simp only [ptl]
      refine tl 7 27 hHeld rfl ?_ (by intro W hS; have c0' := cell_nw hS c0; have c1' := cell_nw hS c1; have c2' := cell_nw hS c2; have c3' := cell_nw hS c3; have c4' := cell_nw hS c4; have c5' := cell_nw hS c5; have c6' := cell_nw hS c6; have d0' := cell_nw hS d0; have d1' := cell_nw hS d1; have d2' := cell_nw hS d2; have d3' := cell_nw hS d3; have d4' := cell_nw hS d4; have d5' := cell_nw hS d5; have d6' := cell_nw hS d6; clear hS; go_simp; try with_reducible rfl); try simp only [ptl]
      refine tl 8 28 hHeld rfl ?_ (by intro W hS; have c0' := cell_nw hS c0; have c1' := cell_nw hS c1; have c2' := cell_nw hS c2; have c3' := cell_nw hS c3; have c4' := cell_nw hS c4; have c5' := cell_nw hS c5; have c6' := cell_nw hS c6; have d0' := cell_nw hS d0; have d1' := cell_nw hS d1; have d2' := cell_nw hS d2; have d3' := cell_nw hS d3; have d4' := cell_nw hS d4; have d5' := cell_nw hS d5; have d6' := cell_nw hS d6; clear hS; go_simp; try with_reducible rfl); try simp only [ptl]
      refine tl 9 29 hHeld rfl ?_ (by intro W hS; have c0' := cell_nw hS c0; have c1' := cell_nw hS c1; have c2' := cell_nw hS c2; have c3' := cell_nw hS c3; have c4' := cell_nw hS c4; have c5' := cell_nw hS c5; have c6' := cell_nw hS c6; have d0' := cell_nw hS d0; have d1' := cell_nw hS d1; have d2' := cell_nw hS d2; have d3' := cell_nw hS d3; have d4' := cell_nw hS d4; have d5' := cell_nw hS d5; have d6' := cell_nw hS d6; clear hS; go_simp; try with_reducible rfl); try simp only [ptl]
      refine rd1 (i := 10) (o := ⟨some 30, _, _, _, _, _⟩) rfl (fun K hK => ?_)
      go_simp
      refine Calls.mono (C0.out _) ?_
      rintro e x1 ⟨rfl, hb1⟩
      refine hK.out _ _ (below_trans hHeld hb1 (Nat.le_refl _)) (fun hHeld' => ?_)
      clear hK K hHeld hb1; have hHeld := hHeld'; clear hHeld'
      try simp only [ptl]
      cases r
      ·
       refine tl 11 31 hHeld rfl ?_ (by intro W hS; have c0' := cell_nw hS c0; have c1' := cell_nw hS c1; have c2' := cell_nw hS c2; have c3' := cell_nw hS c3; have c4' := cell_nw hS c4; have c5' := cell_nw hS c5; have c6' := cell_nw hS c6; have d0' := cell_nw hS d0; have d1' := cell_nw hS d1; have d2' := cell_nw hS d2; have d3' := cell_nw hS d3; have d4' := cell_nw hS d4; have d5' := cell_nw hS d5; have d6' := cell_nw hS d6; clear hS; go_simp; try with_reducible rfl); try simp only [ptl]
       refine tl 12 6 hHeld rfl ?_ (by intro W hS; have c0' := cell_nw hS c0; have c1' := cell_nw hS c1; have c2' := cell_nw hS c2; have c3' := cell_nw hS c3; have c4' := cell_nw hS c4; have c5' := cell_nw hS c5; have c6' := cell_nw hS c6; have d0' := cell_nw hS d0; have d1' := cell_nw hS d1; have d2' := cell_nw hS d2; have d3' := cell_nw hS d3; have d4' := cell_nw hS d4; have d5' := cell_nw hS d5; have d6' := cell_nw hS d6; clear hS; go_simp; try with_reducible rfl); try simp only [ptl]
       refine wpAnyH_done (by kernel_rfl) ?_ _
       go_wp2_with fail
       go_roundg (n1 - (m + 1))
       case measure => omega
       case rel => exact ⟨m + 1, by omega, by omega, by go_num, by rw [HS2.out]; rfl, Lib.hid (below_trans HB2.out hHeld (Nat.le_refl _))⟩
      ·
       refine tl 11 31 hHeld rfl ?_ (by intro W hS; have c0' := cell_nw hS c0; have c1' := cell_nw hS c1; have c2' := cell_nw hS c2; have c3' := cell_nw hS c3; have c4' := cell_nw hS c4; have c5' := cell_nw hS c5; have c6' := cell_nw hS c6; have d0' := cell_nw hS d0; have d1' := cell_nw hS d1; have d2' := cell_nw hS d2; have d3' := cell_nw hS d3; have d4' := cell_nw hS d4; have d5' := cell_nw hS d5; have d6' := cell_nw hS d6; clear hS; go_simp; try with_reducible rfl); try simp only [ptl]
       refine tl 12 6 hHeld rfl ?_ (by intro W hS; have c0' := cell_nw hS c0; have c1' := cell_nw hS c1; have c2' := cell_nw hS c2; have c3' := cell_nw hS c3; have c4' := cell_nw hS c4; have c5' := cell_nw hS c5; have c6' := cell_nw hS c6; have d0' := cell_nw hS d0; have d1' := cell_nw hS d1; have d2' := cell_nw hS d2; have d3' := cell_nw hS d3; have d4' := cell_nw hS d4; have d5' := cell_nw hS d5; have d6' := cell_nw hS d6; clear hS; go_simp; try with_reducible rfl); try simp only [ptl]
       refine wpAnyH_done (by kernel_rfl) ?_ _
       go_wp2_with fail
       go_roundg (n1 - (m + 1))
       case measure => omega
       case rel => exact ⟨m + 1, by omega, by omega, by go_num, by rw [HS2.out]; rfl, Lib.hid (below_trans HB2.out hHeld (Nat.le_refl _))⟩
     ·
      go_wp2_with fail
      refine wp_region_held_drew (S := fun w' => Below wr.heap.size wr w') (by kernel_rfl) ?_ (fun hHeld => ?_)
      ·
       exact ((Below.refl _ _).drew)
      refine tl 0 20 hHeld rfl ?_ (by intro W hS; have c0' := cell_nw hS c0; have c1' := cell_nw hS c1; have c2' := cell_nw hS c2; have c3' := cell_nw hS c3; have c4' := cell_nw hS c4; have c5' := cell_nw hS c5; have c6' := cell_nw hS c6; have d0' := cell_nw hS d0; have d1' := cell_nw hS d1; have d2' := cell_nw hS d2; have d3' := cell_nw hS d3; have d4' := cell_nw hS d4; have d5' := cell_nw hS d5; have d6' := cell_nw hS d6; clear hS; go_simp; try with_reducible rfl); try simp only [ptl]
      refine tl 1 21 hHeld rfl ?_ (by intro W hS; have c0' := cell_nw hS c0; have c1' := cell_nw hS c1; have c2' := cell_nw hS c2; have c3' := cell_nw hS c3; have c4' := cell_nw hS c4; have c5' := cell_nw hS c5; have c6' := cell_nw hS c6; have d0' := cell_nw hS d0; have d1' := cell_nw hS d1; have d2' := cell_nw hS d2; have d3' := cell_nw hS d3; have d4' := cell_nw hS d4; have d5' := cell_nw hS d5; have d6' := cell_nw hS d6; clear hS; go_simp; try with_reducible rfl); try simp only [ptl]
      refine tu (i := 2) (oi := ⟨some 22, _, _, _, _, _⟩) rfl hHeld ?_; try simp only [ptl]
      refine tu (i := 3) (oi := ⟨some 23, _, _, _, _, _⟩) rfl hHeld ?_; try simp only [ptl]
      refine tu (i := 4) (oi := ⟨some 24, _, _, _, _, _⟩) rfl hHeld ?_; try simp only [ptl]
      refine tu (i := 5) (oi := ⟨some 25, _, _, _, _, _⟩) rfl hHeld ?_; try simp only [ptl]
      refine tu (i := 6) (oi := ⟨some 26, _, _, _, _, _⟩) rfl hHeld ?_; try simp only [ptl]
      refine tu (i := 7) (oi := ⟨some 27, _, _, _, _, _⟩) rfl hHeld ?_; try simp only [ptl]
      refine tu (i := 8) (oi := ⟨some 28, _, _, _, _, _⟩) rfl hHeld ?_; try simp only [ptl]
      refine tu (i := 9) (oi := ⟨some 29, _, _, _, _, _⟩) rfl hHeld ?_; try simp only [ptl]
      refine tu (i := 10) (oi := ⟨some 30, _, _, _, _, _⟩) rfl hHeld ?_; try simp only [ptl]
      refine tl 11 31 hHeld rfl ?_ (by intro W hS; have c0' := cell_nw hS c0; have c1' := cell_nw hS c1; have c2' := cell_nw hS c2; have c3' := cell_nw hS c3; have c4' := cell_nw hS c4; have c5' := cell_nw hS c5; have c6' := cell_nw hS c6; have d0' := cell_nw hS d0; have d1' := cell_nw hS d1; have d2' := cell_nw hS d2; have d3' := cell_nw hS d3; have d4' := cell_nw hS d4; have d5' := cell_nw hS d5; have d6' := cell_nw hS d6; clear hS; go_simp; try with_reducible rfl); try simp only [ptl]
      refine tl 12 6 hHeld rfl ?_ (by intro W hS; have c0' := cell_nw hS c0; have c1' := cell_nw hS c1; have c2' := cell_nw hS c2; have c3' := cell_nw hS c3; have c4' := cell_nw hS c4; have c5' := cell_nw hS c5; have c6' := cell_nw hS c6; have d0' := cell_nw hS d0; have d1' := cell_nw hS d1; have d2' := cell_nw hS d2; have d3' := cell_nw hS d3; have d4' := cell_nw hS d4; have d5' := cell_nw hS d5; have d6' := cell_nw hS d6; clear hS; go_simp; try with_reducible rfl); try simp only [ptl]
      refine wpAnyH_done (by kernel_rfl) ?_ _
      go_wp2_with fail
      go_roundg (n1 - (m + 1))
      case measure => omega
      case rel => exact ⟨m + 1, by omega, by omega, by go_num, by rw [HS2.out]; rfl, Lib.hid (below_trans HB2.out hHeld (Nat.le_refl _))⟩
    ·
     obtain rfl : m = n1 := by omega
     have HE := Lib.hid (show (l1.take m).any (mWithin x) = p x by rw [← HP.out, List.take_of_length_le (by have := HL1.out; omega)])
     have HB3 := Lib.hid (below_trans HB.out HB2.out (Nat.le_refl _))
     rw [HE.out]
     have HPx := Lib.hid (rfl : p x = p x)
     cases hq : p x
     ·
      have HF2 := Lib.hid (show l.all p = false from all_fails HZ.out hq)
      clear hq
      go_wp2_with fail
      go_ret
      exact ⟨by rw [HF2.out]; rfl, HB3.out⟩
     ·
      have HF2 := Lib.hid (all_step HF.out HZ.out hq)
      clear hq
      go_wp2_with fail
      go_roundg (n - (k + 1))
      case measure => omega
      case rel => exact ⟨k + 1, by omega, by omega, by go_num, HB3, HF2⟩
  ·
   obtain rfl : k = n := by omega
   have HE := Lib.hid (show l.all p = true by have := HF.out; rw [List.take_of_length_le (by have := HL.out; omega)] at this; exact this)
   go_wp2_with fail
   go_ret
   exact ⟨by rw [HE.out]; rfl, HB.out⟩
end Go.Proofs.YtkedacmpmancbaaGreatDoor
namespace Go.Proofs.YtkedacmpmancbaaGreatDoor
open Go Go.ChangeShapes Go.WideShapes Go.ChangeAt Go.RowKit Go.Lib
set_option linter.unusedVariables false
set_option linter.unusedSimpArgs false
set_option maxRecDepth 100000
def mWider (g0 : List TGrant) (f0 : List TFlow) (g1 : List TGrant) (f1 : List TFlow) : Bool := !(g1.all fun x => g0.any (mWithin x)) || !(f1.all (pFW f0))
set_option maxHeartbeats 16000000 in
theorem impl_IsWiderC (p0_0 : Int) (p0_1 : Int) (p0_2 : Int) (l0_3 : List TGrant) (A0_3 : Option Addr) (n0_3 c0_3 lo0_3 hi0_3 : Nat) (l0_4 : List TFlow) (A0_4 : Option Addr) (n0_4 c0_4 lo0_4 hi0_4 : Nat) (l0_5 : List TRule) (A0_5 : Option Addr) (n0_5 c0_5 lo0_5 hi0_5 : Nat) (l0_6 : List TOp) (A0_6 : Option Addr) (n0_6 c0_6 lo0_6 hi0_6 : Nat) (p0_7 : Int) (p1_0 : Int) (p1_1 : Int) (p1_2 : Int) (l1_3 : List TGrant) (A1_3 : Option Addr) (n1_3 c1_3 lo1_3 hi1_3 : Nat) (l1_4 : List TFlow) (A1_4 : Option Addr) (n1_4 c1_4 lo1_4 hi1_4 : Nat) (l1_5 : List TRule) (A1_5 : Option Addr) (n1_5 c1_5 lo1_5 hi1_5 : Nat) (l1_6 : List TOp) (A1_6 : Option Addr) (n1_6 c1_6 lo1_6 hi1_6 : Nat) (p1_7 : Int) (w : World) (h0_3 : n0_3 ≤ 1048576) (r0_3 : Rd w lo0_3 hi0_3 7 A0_3 n0_3 (cGrant l0_3)) (k0_3 : n0_3 ≤ c0_3) (b0_3 : Hid (cGrantOk l0_3)) (h0_4 : n0_4 ≤ 1048576) (r0_4 : Rd w lo0_4 hi0_4 3 A0_4 n0_4 (cFlow l0_4)) (k0_4 : n0_4 ≤ c0_4) (b0_4 : Hid (cFlowOk l0_4)) (h0_5 : n0_5 ≤ 1048576) (r0_5 : Rd w lo0_5 hi0_5 8 A0_5 n0_5 (cRule l0_5)) (k0_5 : n0_5 ≤ c0_5) (b0_5 : Hid (cRuleOk l0_5)) (h0_6 : n0_6 ≤ 1048576) (r0_6 : Rd w lo0_6 hi0_6 4 A0_6 n0_6 (cOp l0_6)) (k0_6 : n0_6 ≤ c0_6) (b0_6 : Hid (cOpOk l0_6)) (h1_3 : n1_3 ≤ 1048576) (r1_3 : Rd w lo1_3 hi1_3 7 A1_3 n1_3 (cGrant l1_3)) (k1_3 : n1_3 ≤ c1_3) (b1_3 : Hid (cGrantOk l1_3)) (h1_4 : n1_4 ≤ 1048576) (r1_4 : Rd w lo1_4 hi1_4 3 A1_4 n1_4 (cFlow l1_4)) (k1_4 : n1_4 ≤ c1_4) (b1_4 : Hid (cFlowOk l1_4)) (h1_5 : n1_5 ≤ 1048576) (r1_5 : Rd w lo1_5 hi1_5 8 A1_5 n1_5 (cRule l1_5)) (k1_5 : n1_5 ≤ c1_5) (b1_5 : Hid (cRuleOk l1_5)) (h1_6 : n1_6 ≤ 1048576) (r1_6 : Rd w lo1_6 hi1_6 4 A1_6 n1_6 (cOp l1_6)) (k1_6 : n1_6 ≤ c1_6) (b1_6 : Hid (cOpOk l1_6)) :
  Calls Tryz.prog 39 #[.agg #[.int .i64 p0_0, .int .i64 p0_1, .int .i64 p0_2, .slice A0_3 n0_3 c0_3, .slice A0_4 n0_4 c0_4, .slice A0_5 n0_5 c0_5, .slice A0_6 n0_6 c0_6, .int .i64 p0_7], .agg #[.int .i64 p1_0, .int .i64 p1_1, .int .i64 p1_2, .slice A1_3 n1_3 c1_3, .slice A1_4 n1_4 c1_4, .slice A1_5 n1_5 c1_5, .slice A1_6 n1_6 c1_6, .int .i64 p1_7]] w (Says (.bool (mWider l0_3 l0_4 l1_3 l1_4)) w) := by
 have R0_3 := Lib.hid r0_3
 clear r0_3
 have R0_4 := Lib.hid r0_4
 clear r0_4
 have R0_5 := Lib.hid r0_5
 clear r0_5
 have R0_6 := Lib.hid r0_6
 clear r0_6
 have R1_3 := Lib.hid r1_3
 clear r1_3
 have R1_4 := Lib.hid r1_4
 clear r1_4
 have R1_5 := Lib.hid r1_5
 clear r1_5
 have R1_6 := Lib.hid r1_6
 clear r1_6
 have KB0 := Lib.hid (show BoxAt ((w.alloc (.cells #[.int .i64 p0_0, .int .i64 p0_1, .int .i64 p0_2, .slice A0_3 n0_3 c0_3, .slice A0_4 n0_4 c0_4, .slice A0_5 n0_5 c0_5, .slice A0_6 n0_6 c0_6, .int .i64 p0_7] 35)).alloc (.cells #[.int .i64 p1_0, .int .i64 p1_1, .int .i64 p1_2, .slice A1_3 n1_3 c1_3, .slice A1_4 n1_4 c1_4, .slice A1_5 n1_5 c1_5, .slice A1_6 n1_6 c1_6, .int .i64 p1_7] 35)) w.heap.size 35 #[.int .i64 p0_0, .int .i64 p0_1, .int .i64 p0_2, .slice A0_3 n0_3 c0_3, .slice A0_4 n0_4 c0_4, .slice A0_5 n0_5 c0_5, .slice A0_6 n0_6 c0_6, .int .i64 p0_7] from (box_new _ _ _ : BoxAt (w.alloc (.cells #[.int .i64 p0_0, .int .i64 p0_1, .int .i64 p0_2, .slice A0_3 n0_3 c0_3, .slice A0_4 n0_4 c0_4, .slice A0_5 n0_5 c0_5, .slice A0_6 n0_6 c0_6, .int .i64 p0_7] 35)) w.heap.size 35 #[.int .i64 p0_0, .int .i64 p0_1, .int .i64 p0_2, .slice A0_3 n0_3 c0_3, .slice A0_4 n0_4 c0_4, .slice A0_5 n0_5 c0_5, .slice A0_6 n0_6 c0_6, .int .i64 p0_7]).alloc_ _)
 have KB1 := Lib.hid (show BoxAt ((w.alloc (.cells #[.int .i64 p0_0, .int .i64 p0_1, .int .i64 p0_2, .slice A0_3 n0_3 c0_3, .slice A0_4 n0_4 c0_4, .slice A0_5 n0_5 c0_5, .slice A0_6 n0_6 c0_6, .int .i64 p0_7] 35)).alloc (.cells #[.int .i64 p1_0, .int .i64 p1_1, .int .i64 p1_2, .slice A1_3 n1_3 c1_3, .slice A1_4 n1_4 c1_4, .slice A1_5 n1_5 c1_5, .slice A1_6 n1_6 c1_6, .int .i64 p1_7] 35)) (w.heap.size + 1) 35 #[.int .i64 p1_0, .int .i64 p1_1, .int .i64 p1_2, .slice A1_3 n1_3 c1_3, .slice A1_4 n1_4 c1_4, .slice A1_5 n1_5 c1_5, .slice A1_6 n1_6 c1_6, .int .i64 p1_7] from (by simpa using box_new (w.alloc (.cells #[.int .i64 p0_0, .int .i64 p0_1, .int .i64 p0_2, .slice A0_3 n0_3 c0_3, .slice A0_4 n0_4 c0_4, .slice A0_5 n0_5 c0_5, .slice A0_6 n0_6 c0_6, .int .i64 p0_7] 35)) 35 #[.int .i64 p1_0, .int .i64 p1_1, .int .i64 p1_2, .slice A1_3 n1_3 c1_3, .slice A1_4 n1_4 c1_4, .slice A1_5 n1_5 c1_5, .slice A1_6 n1_6 c1_6, .int .i64 p1_7] : BoxAt ((w.alloc (.cells #[.int .i64 p0_0, .int .i64 p0_1, .int .i64 p0_2, .slice A0_3 n0_3 c0_3, .slice A0_4 n0_4 c0_4, .slice A0_5 n0_5 c0_5, .slice A0_6 n0_6 c0_6, .int .i64 p0_7] 35)).alloc (.cells #[.int .i64 p1_0, .int .i64 p1_1, .int .i64 p1_2, .slice A1_3 n1_3 c1_3, .slice A1_4 n1_4 c1_4, .slice A1_5 n1_5 c1_5, .slice A1_6 n1_6 c1_6, .int .i64 p1_7] 35)) (w.heap.size + 1) 35 #[.int .i64 p1_0, .int .i64 p1_1, .int .i64 p1_2, .slice A1_3 n1_3 c1_3, .slice A1_4 n1_4 c1_4, .slice A1_5 n1_5 c1_5, .slice A1_6 n1_6 c1_6, .int .i64 p1_7]))
 have HB := Lib.hid (show Below w.heap.size w ((w.alloc (.cells #[.int .i64 p0_0, .int .i64 p0_1, .int .i64 p0_2, .slice A0_3 n0_3 c0_3, .slice A0_4 n0_4 c0_4, .slice A0_5 n0_5 c0_5, .slice A0_6 n0_6 c0_6, .int .i64 p0_7] 35)).alloc (.cells #[.int .i64 p1_0, .int .i64 p1_1, .int .i64 p1_2, .slice A1_3 n1_3 c1_3, .slice A1_4 n1_4 c1_4, .slice A1_5 n1_5 c1_5, .slice A1_6 n1_6 c1_6, .int .i64 p1_7] 35)) from ((Below.refl _ _).alloc (by first | exact Nat.le_refl _ | (simp; done) | (simp; omega)) _).alloc (by first | exact Nat.le_refl _ | (simp; done) | (simp; omega)) _)
 by_cases h_0 : (l1_3.all fun x => l0_3.any (mWithin x)) = true
 ·
  by_cases h_1 : (l1_4.all (pFW l0_4)) = true
  ·
   have HE := Lib.hid (show mWider l0_3 l0_4 l1_3 l1_4 = false by first | (unfold mWider; simp only [h_0, h_1, Bool.not_true, Bool.not_false, Bool.true_and, Bool.false_and, Bool.and_true, Bool.and_false, Bool.true_or, Bool.false_or, Bool.or_true, Bool.or_false]) | simp [mWider, h_0, h_1])
   have D0 := Lib.hid (show (l1_3.all fun x => l0_3.any (mWithin x)) = true from h_0)
   have D1 := Lib.hid (show (l1_4.all (pFW l0_4)) = true from h_1)
   clear h_0 h_1
   go_enter Tryz.func39, Tryz.ntmps39
   go_wp2_with fail
   refine Calls.mono (impl_IsWithinGrantsC l1_3 A1_3 n1_3 c1_3 lo1_3 hi1_3 l0_3 A0_3 n0_3 c0_3 lo0_3 hi0_3 _ h1_3 (R1_3.out.new HB.out) k1_3 b1_3 h0_3 (R0_3.out.new HB.out) k0_3 b0_3) ?_
   rw [D0.out]
   rintro e w1 ⟨rfl, hb⟩
   replace KB0 := Lib.hid (KB0.out.new hb)
   replace KB1 := Lib.hid (KB1.out.new hb)
   replace HB := Lib.hid (below_trans HB.out hb (Nat.le_refl _))
   clear hb
   obtain ⟨eb0_0, eb0_1, eb0_2, eb0_3, eb0_4, eb0_5, eb0_6, eb0_7⟩ := KB0.out.p8
   obtain ⟨eb1_0, eb1_1, eb1_2, eb1_3, eb1_4, eb1_5, eb1_6, eb1_7⟩ := KB1.out.p8
   go_wp2_with fail
   clear eb0_0 eb0_1 eb0_2 eb0_3 eb0_4 eb0_5 eb0_6 eb0_7 eb1_0 eb1_1 eb1_2 eb1_3 eb1_4 eb1_5 eb1_6 eb1_7
   refine Calls.mono (impl_FlowsWithinC l1_4 A1_4 n1_4 c1_4 lo1_4 hi1_4 l0_4 A0_4 n0_4 c0_4 lo0_4 hi0_4 _ h1_4 (R1_4.out.new HB.out) k1_4 b1_4 h0_4 (R0_4.out.new HB.out) k0_4 b0_4) ?_
   rw [D1.out]
   rintro e w2 ⟨rfl, hb⟩
   replace KB0 := Lib.hid (KB0.out.new hb)
   replace KB1 := Lib.hid (KB1.out.new hb)
   replace HB := Lib.hid (below_trans HB.out hb (Nat.le_refl _))
   clear hb
   obtain ⟨eb0_0, eb0_1, eb0_2, eb0_3, eb0_4, eb0_5, eb0_6, eb0_7⟩ := KB0.out.p8
   obtain ⟨eb1_0, eb1_1, eb1_2, eb1_3, eb1_4, eb1_5, eb1_6, eb1_7⟩ := KB1.out.p8
   go_wp2_with fail
   go_ret
   exact ⟨by rw [HE.out]; rfl, HB.out⟩
  ·
   have h_1 : (l1_4.all (pFW l0_4)) = false := by simpa using h_1
   have HE := Lib.hid (show mWider l0_3 l0_4 l1_3 l1_4 = true by first | (unfold mWider; simp only [h_0, h_1, Bool.not_true, Bool.not_false, Bool.true_and, Bool.false_and, Bool.and_true, Bool.and_false, Bool.true_or, Bool.false_or, Bool.or_true, Bool.or_false]) | simp [mWider, h_0, h_1])
   have D0 := Lib.hid (show (l1_3.all fun x => l0_3.any (mWithin x)) = true from h_0)
   have D1 := Lib.hid (show (l1_4.all (pFW l0_4)) = false from h_1)
   clear h_0 h_1
   go_enter Tryz.func39, Tryz.ntmps39
   go_wp2_with fail
   refine Calls.mono (impl_IsWithinGrantsC l1_3 A1_3 n1_3 c1_3 lo1_3 hi1_3 l0_3 A0_3 n0_3 c0_3 lo0_3 hi0_3 _ h1_3 (R1_3.out.new HB.out) k1_3 b1_3 h0_3 (R0_3.out.new HB.out) k0_3 b0_3) ?_
   rw [D0.out]
   rintro e w1 ⟨rfl, hb⟩
   replace KB0 := Lib.hid (KB0.out.new hb)
   replace KB1 := Lib.hid (KB1.out.new hb)
   replace HB := Lib.hid (below_trans HB.out hb (Nat.le_refl _))
   clear hb
   obtain ⟨eb0_0, eb0_1, eb0_2, eb0_3, eb0_4, eb0_5, eb0_6, eb0_7⟩ := KB0.out.p8
   obtain ⟨eb1_0, eb1_1, eb1_2, eb1_3, eb1_4, eb1_5, eb1_6, eb1_7⟩ := KB1.out.p8
   go_wp2_with fail
   clear eb0_0 eb0_1 eb0_2 eb0_3 eb0_4 eb0_5 eb0_6 eb0_7 eb1_0 eb1_1 eb1_2 eb1_3 eb1_4 eb1_5 eb1_6 eb1_7
   refine Calls.mono (impl_FlowsWithinC l1_4 A1_4 n1_4 c1_4 lo1_4 hi1_4 l0_4 A0_4 n0_4 c0_4 lo0_4 hi0_4 _ h1_4 (R1_4.out.new HB.out) k1_4 b1_4 h0_4 (R0_4.out.new HB.out) k0_4 b0_4) ?_
   rw [D1.out]
   rintro e w2 ⟨rfl, hb⟩
   replace KB0 := Lib.hid (KB0.out.new hb)
   replace KB1 := Lib.hid (KB1.out.new hb)
   replace HB := Lib.hid (below_trans HB.out hb (Nat.le_refl _))
   clear hb
   obtain ⟨eb0_0, eb0_1, eb0_2, eb0_3, eb0_4, eb0_5, eb0_6, eb0_7⟩ := KB0.out.p8
   obtain ⟨eb1_0, eb1_1, eb1_2, eb1_3, eb1_4, eb1_5, eb1_6, eb1_7⟩ := KB1.out.p8
   go_wp2_with fail
   go_ret
   exact ⟨by rw [HE.out]; rfl, HB.out⟩
 ·
  have h_0 : (l1_3.all fun x => l0_3.any (mWithin x)) = false := by simpa using h_0
  have HE := Lib.hid (show mWider l0_3 l0_4 l1_3 l1_4 = true by first | (unfold mWider; simp only [h_0, Bool.not_true, Bool.not_false, Bool.true_and, Bool.false_and, Bool.and_true, Bool.and_false, Bool.true_or, Bool.false_or, Bool.or_true, Bool.or_false]) | simp [mWider, h_0])
  have D0 := Lib.hid (show (l1_3.all fun x => l0_3.any (mWithin x)) = false from h_0)
  clear h_0
  go_enter Tryz.func39, Tryz.ntmps39
  go_wp2_with fail
  refine Calls.mono (impl_IsWithinGrantsC l1_3 A1_3 n1_3 c1_3 lo1_3 hi1_3 l0_3 A0_3 n0_3 c0_3 lo0_3 hi0_3 _ h1_3 (R1_3.out.new HB.out) k1_3 b1_3 h0_3 (R0_3.out.new HB.out) k0_3 b0_3) ?_
  rw [D0.out]
  rintro e w1 ⟨rfl, hb⟩
  replace KB0 := Lib.hid (KB0.out.new hb)
  replace KB1 := Lib.hid (KB1.out.new hb)
  replace HB := Lib.hid (below_trans HB.out hb (Nat.le_refl _))
  clear hb
  obtain ⟨eb0_0, eb0_1, eb0_2, eb0_3, eb0_4, eb0_5, eb0_6, eb0_7⟩ := KB0.out.p8
  obtain ⟨eb1_0, eb1_1, eb1_2, eb1_3, eb1_4, eb1_5, eb1_6, eb1_7⟩ := KB1.out.p8
  go_wp2_with fail
  go_ret
  exact ⟨by rw [HE.out]; rfl, HB.out⟩

set_option maxHeartbeats 16000000 in
theorem spec_IsWider (p0_0 : Int) (p0_1 : Int) (p0_2 : Int) (l0_3 : List TGrant) (A0_3 : Option Addr) (n0_3 c0_3 lo0_3 hi0_3 : Nat) (l0_4 : List TFlow) (A0_4 : Option Addr) (n0_4 c0_4 lo0_4 hi0_4 : Nat) (l0_5 : List TRule) (A0_5 : Option Addr) (n0_5 c0_5 lo0_5 hi0_5 : Nat) (l0_6 : List TOp) (A0_6 : Option Addr) (n0_6 c0_6 lo0_6 hi0_6 : Nat) (p0_7 : Int) (p1_0 : Int) (p1_1 : Int) (p1_2 : Int) (l1_3 : List TGrant) (A1_3 : Option Addr) (n1_3 c1_3 lo1_3 hi1_3 : Nat) (l1_4 : List TFlow) (A1_4 : Option Addr) (n1_4 c1_4 lo1_4 hi1_4 : Nat) (l1_5 : List TRule) (A1_5 : Option Addr) (n1_5 c1_5 lo1_5 hi1_5 : Nat) (l1_6 : List TOp) (A1_6 : Option Addr) (n1_6 c1_6 lo1_6 hi1_6 : Nat) (p1_7 : Int) (w : World) (h0_3 : n0_3 ≤ 1048576) (r0_3 : Rd w lo0_3 hi0_3 7 A0_3 n0_3 (cGrant l0_3)) (k0_3 : n0_3 ≤ c0_3) (b0_3 : Hid (cGrantOk l0_3)) (h0_4 : n0_4 ≤ 1048576) (r0_4 : Rd w lo0_4 hi0_4 3 A0_4 n0_4 (cFlow l0_4)) (k0_4 : n0_4 ≤ c0_4) (b0_4 : Hid (cFlowOk l0_4)) (h0_5 : n0_5 ≤ 1048576) (r0_5 : Rd w lo0_5 hi0_5 8 A0_5 n0_5 (cRule l0_5)) (k0_5 : n0_5 ≤ c0_5) (b0_5 : Hid (cRuleOk l0_5)) (h0_6 : n0_6 ≤ 1048576) (r0_6 : Rd w lo0_6 hi0_6 4 A0_6 n0_6 (cOp l0_6)) (k0_6 : n0_6 ≤ c0_6) (b0_6 : Hid (cOpOk l0_6)) (h1_3 : n1_3 ≤ 1048576) (r1_3 : Rd w lo1_3 hi1_3 7 A1_3 n1_3 (cGrant l1_3)) (k1_3 : n1_3 ≤ c1_3) (b1_3 : Hid (cGrantOk l1_3)) (h1_4 : n1_4 ≤ 1048576) (r1_4 : Rd w lo1_4 hi1_4 3 A1_4 n1_4 (cFlow l1_4)) (k1_4 : n1_4 ≤ c1_4) (b1_4 : Hid (cFlowOk l1_4)) (h1_5 : n1_5 ≤ 1048576) (r1_5 : Rd w lo1_5 hi1_5 8 A1_5 n1_5 (cRule l1_5)) (k1_5 : n1_5 ≤ c1_5) (b1_5 : Hid (cRuleOk l1_5)) (h1_6 : n1_6 ≤ 1048576) (r1_6 : Rd w lo1_6 hi1_6 4 A1_6 n1_6 (cOp l1_6)) (k1_6 : n1_6 ≤ c1_6) (b1_6 : Hid (cOpOk l1_6)) :
  Calls Tryz.prog 32 #[.agg #[.int .i64 p0_0, .int .i64 p0_1, .int .i64 p0_2, .slice A0_3 n0_3 c0_3, .slice A0_4 n0_4 c0_4, .slice A0_5 n0_5 c0_5, .slice A0_6 n0_6 c0_6, .int .i64 p0_7], .agg #[.int .i64 p1_0, .int .i64 p1_1, .int .i64 p1_2, .slice A1_3 n1_3 c1_3, .slice A1_4 n1_4 c1_4, .slice A1_5 n1_5 c1_5, .slice A1_6 n1_6 c1_6, .int .i64 p1_7]] w (Says (.bool (mWider l0_3 l0_4 l1_3 l1_4)) w) := by
 have R0_3 := Lib.hid r0_3
 clear r0_3
 have R0_4 := Lib.hid r0_4
 clear r0_4
 have R0_5 := Lib.hid r0_5
 clear r0_5
 have R0_6 := Lib.hid r0_6
 clear r0_6
 have R1_3 := Lib.hid r1_3
 clear r1_3
 have R1_4 := Lib.hid r1_4
 clear r1_4
 have R1_5 := Lib.hid r1_5
 clear r1_5
 have R1_6 := Lib.hid r1_6
 clear r1_6
 have KB0 := Lib.hid (show BoxAt ((w.alloc (.cells #[.int .i64 p0_0, .int .i64 p0_1, .int .i64 p0_2, .slice A0_3 n0_3 c0_3, .slice A0_4 n0_4 c0_4, .slice A0_5 n0_5 c0_5, .slice A0_6 n0_6 c0_6, .int .i64 p0_7] 35)).alloc (.cells #[.int .i64 p1_0, .int .i64 p1_1, .int .i64 p1_2, .slice A1_3 n1_3 c1_3, .slice A1_4 n1_4 c1_4, .slice A1_5 n1_5 c1_5, .slice A1_6 n1_6 c1_6, .int .i64 p1_7] 35)) w.heap.size 35 #[.int .i64 p0_0, .int .i64 p0_1, .int .i64 p0_2, .slice A0_3 n0_3 c0_3, .slice A0_4 n0_4 c0_4, .slice A0_5 n0_5 c0_5, .slice A0_6 n0_6 c0_6, .int .i64 p0_7] from (box_new _ _ _ : BoxAt (w.alloc (.cells #[.int .i64 p0_0, .int .i64 p0_1, .int .i64 p0_2, .slice A0_3 n0_3 c0_3, .slice A0_4 n0_4 c0_4, .slice A0_5 n0_5 c0_5, .slice A0_6 n0_6 c0_6, .int .i64 p0_7] 35)) w.heap.size 35 #[.int .i64 p0_0, .int .i64 p0_1, .int .i64 p0_2, .slice A0_3 n0_3 c0_3, .slice A0_4 n0_4 c0_4, .slice A0_5 n0_5 c0_5, .slice A0_6 n0_6 c0_6, .int .i64 p0_7]).alloc_ _)
 have KB1 := Lib.hid (show BoxAt ((w.alloc (.cells #[.int .i64 p0_0, .int .i64 p0_1, .int .i64 p0_2, .slice A0_3 n0_3 c0_3, .slice A0_4 n0_4 c0_4, .slice A0_5 n0_5 c0_5, .slice A0_6 n0_6 c0_6, .int .i64 p0_7] 35)).alloc (.cells #[.int .i64 p1_0, .int .i64 p1_1, .int .i64 p1_2, .slice A1_3 n1_3 c1_3, .slice A1_4 n1_4 c1_4, .slice A1_5 n1_5 c1_5, .slice A1_6 n1_6 c1_6, .int .i64 p1_7] 35)) (w.heap.size + 1) 35 #[.int .i64 p1_0, .int .i64 p1_1, .int .i64 p1_2, .slice A1_3 n1_3 c1_3, .slice A1_4 n1_4 c1_4, .slice A1_5 n1_5 c1_5, .slice A1_6 n1_6 c1_6, .int .i64 p1_7] from (by simpa using box_new (w.alloc (.cells #[.int .i64 p0_0, .int .i64 p0_1, .int .i64 p0_2, .slice A0_3 n0_3 c0_3, .slice A0_4 n0_4 c0_4, .slice A0_5 n0_5 c0_5, .slice A0_6 n0_6 c0_6, .int .i64 p0_7] 35)) 35 #[.int .i64 p1_0, .int .i64 p1_1, .int .i64 p1_2, .slice A1_3 n1_3 c1_3, .slice A1_4 n1_4 c1_4, .slice A1_5 n1_5 c1_5, .slice A1_6 n1_6 c1_6, .int .i64 p1_7] : BoxAt ((w.alloc (.cells #[.int .i64 p0_0, .int .i64 p0_1, .int .i64 p0_2, .slice A0_3 n0_3 c0_3, .slice A0_4 n0_4 c0_4, .slice A0_5 n0_5 c0_5, .slice A0_6 n0_6 c0_6, .int .i64 p0_7] 35)).alloc (.cells #[.int .i64 p1_0, .int .i64 p1_1, .int .i64 p1_2, .slice A1_3 n1_3 c1_3, .slice A1_4 n1_4 c1_4, .slice A1_5 n1_5 c1_5, .slice A1_6 n1_6 c1_6, .int .i64 p1_7] 35)) (w.heap.size + 1) 35 #[.int .i64 p1_0, .int .i64 p1_1, .int .i64 p1_2, .slice A1_3 n1_3 c1_3, .slice A1_4 n1_4 c1_4, .slice A1_5 n1_5 c1_5, .slice A1_6 n1_6 c1_6, .int .i64 p1_7]))
 have HB := Lib.hid (show Below w.heap.size w ((w.alloc (.cells #[.int .i64 p0_0, .int .i64 p0_1, .int .i64 p0_2, .slice A0_3 n0_3 c0_3, .slice A0_4 n0_4 c0_4, .slice A0_5 n0_5 c0_5, .slice A0_6 n0_6 c0_6, .int .i64 p0_7] 35)).alloc (.cells #[.int .i64 p1_0, .int .i64 p1_1, .int .i64 p1_2, .slice A1_3 n1_3 c1_3, .slice A1_4 n1_4 c1_4, .slice A1_5 n1_5 c1_5, .slice A1_6 n1_6 c1_6, .int .i64 p1_7] 35)) from ((Below.refl _ _).alloc (by first | exact Nat.le_refl _ | (simp; done) | (simp; omega)) _).alloc (by first | exact Nat.le_refl _ | (simp; done) | (simp; omega)) _)
 by_cases h_0 : (l1_3.all fun x => l0_3.any (mWithin x)) = true
 ·
  by_cases h_1 : (l1_4.all (pFW l0_4)) = true
  ·
   have HE := Lib.hid (show mWider l0_3 l0_4 l1_3 l1_4 = false by first | (unfold mWider; simp only [h_0, h_1, Bool.not_true, Bool.not_false, Bool.true_and, Bool.false_and, Bool.and_true, Bool.and_false, Bool.true_or, Bool.false_or, Bool.or_true, Bool.or_false]) | simp [mWider, h_0, h_1])
   have D0 := Lib.hid (show (l1_3.all fun x => l0_3.any (mWithin x)) = true from h_0)
   have D1 := Lib.hid (show (l1_4.all (pFW l0_4)) = true from h_1)
   clear h_0 h_1
   go_enter Tryz.func32, Tryz.ntmps32
   go_wp2_with fail
   refine Calls.mono (spec_IsWithinGrants l1_3 A1_3 n1_3 c1_3 lo1_3 hi1_3 l0_3 A0_3 n0_3 c0_3 lo0_3 hi0_3 _ h1_3 (R1_3.out.new HB.out) k1_3 b1_3 h0_3 (R0_3.out.new HB.out) k0_3 b0_3) ?_
   rw [D0.out]
   rintro e w1 ⟨rfl, hb⟩
   replace KB0 := Lib.hid (KB0.out.new hb)
   replace KB1 := Lib.hid (KB1.out.new hb)
   replace HB := Lib.hid (below_trans HB.out hb (Nat.le_refl _))
   clear hb
   obtain ⟨eb0_0, eb0_1, eb0_2, eb0_3, eb0_4, eb0_5, eb0_6, eb0_7⟩ := KB0.out.p8
   obtain ⟨eb1_0, eb1_1, eb1_2, eb1_3, eb1_4, eb1_5, eb1_6, eb1_7⟩ := KB1.out.p8
   go_wp2_with fail
   clear eb0_0 eb0_1 eb0_2 eb0_3 eb0_4 eb0_5 eb0_6 eb0_7 eb1_0 eb1_1 eb1_2 eb1_3 eb1_4 eb1_5 eb1_6 eb1_7
   refine Calls.mono (spec_FlowsWithin l1_4 A1_4 n1_4 c1_4 lo1_4 hi1_4 l0_4 A0_4 n0_4 c0_4 lo0_4 hi0_4 _ h1_4 (R1_4.out.new HB.out) k1_4 b1_4 h0_4 (R0_4.out.new HB.out) k0_4 b0_4) ?_
   rw [D1.out]
   rintro e w2 ⟨rfl, hb⟩
   replace KB0 := Lib.hid (KB0.out.new hb)
   replace KB1 := Lib.hid (KB1.out.new hb)
   replace HB := Lib.hid (below_trans HB.out hb (Nat.le_refl _))
   clear hb
   obtain ⟨eb0_0, eb0_1, eb0_2, eb0_3, eb0_4, eb0_5, eb0_6, eb0_7⟩ := KB0.out.p8
   obtain ⟨eb1_0, eb1_1, eb1_2, eb1_3, eb1_4, eb1_5, eb1_6, eb1_7⟩ := KB1.out.p8
   go_wp2_with fail
   go_ret
   exact ⟨by rw [HE.out]; rfl, HB.out⟩
  ·
   have h_1 : (l1_4.all (pFW l0_4)) = false := by simpa using h_1
   have HE := Lib.hid (show mWider l0_3 l0_4 l1_3 l1_4 = true by first | (unfold mWider; simp only [h_0, h_1, Bool.not_true, Bool.not_false, Bool.true_and, Bool.false_and, Bool.and_true, Bool.and_false, Bool.true_or, Bool.false_or, Bool.or_true, Bool.or_false]) | simp [mWider, h_0, h_1])
   have D0 := Lib.hid (show (l1_3.all fun x => l0_3.any (mWithin x)) = true from h_0)
   have D1 := Lib.hid (show (l1_4.all (pFW l0_4)) = false from h_1)
   clear h_0 h_1
   go_enter Tryz.func32, Tryz.ntmps32
   go_wp2_with fail
   refine Calls.mono (spec_IsWithinGrants l1_3 A1_3 n1_3 c1_3 lo1_3 hi1_3 l0_3 A0_3 n0_3 c0_3 lo0_3 hi0_3 _ h1_3 (R1_3.out.new HB.out) k1_3 b1_3 h0_3 (R0_3.out.new HB.out) k0_3 b0_3) ?_
   rw [D0.out]
   rintro e w1 ⟨rfl, hb⟩
   replace KB0 := Lib.hid (KB0.out.new hb)
   replace KB1 := Lib.hid (KB1.out.new hb)
   replace HB := Lib.hid (below_trans HB.out hb (Nat.le_refl _))
   clear hb
   obtain ⟨eb0_0, eb0_1, eb0_2, eb0_3, eb0_4, eb0_5, eb0_6, eb0_7⟩ := KB0.out.p8
   obtain ⟨eb1_0, eb1_1, eb1_2, eb1_3, eb1_4, eb1_5, eb1_6, eb1_7⟩ := KB1.out.p8
   go_wp2_with fail
   clear eb0_0 eb0_1 eb0_2 eb0_3 eb0_4 eb0_5 eb0_6 eb0_7 eb1_0 eb1_1 eb1_2 eb1_3 eb1_4 eb1_5 eb1_6 eb1_7
   refine Calls.mono (spec_FlowsWithin l1_4 A1_4 n1_4 c1_4 lo1_4 hi1_4 l0_4 A0_4 n0_4 c0_4 lo0_4 hi0_4 _ h1_4 (R1_4.out.new HB.out) k1_4 b1_4 h0_4 (R0_4.out.new HB.out) k0_4 b0_4) ?_
   rw [D1.out]
   rintro e w2 ⟨rfl, hb⟩
   replace KB0 := Lib.hid (KB0.out.new hb)
   replace KB1 := Lib.hid (KB1.out.new hb)
   replace HB := Lib.hid (below_trans HB.out hb (Nat.le_refl _))
   clear hb
   obtain ⟨eb0_0, eb0_1, eb0_2, eb0_3, eb0_4, eb0_5, eb0_6, eb0_7⟩ := KB0.out.p8
   obtain ⟨eb1_0, eb1_1, eb1_2, eb1_3, eb1_4, eb1_5, eb1_6, eb1_7⟩ := KB1.out.p8
   go_wp2_with fail
   go_ret
   exact ⟨by rw [HE.out]; rfl, HB.out⟩
 ·
  have h_0 : (l1_3.all fun x => l0_3.any (mWithin x)) = false := by simpa using h_0
  have HE := Lib.hid (show mWider l0_3 l0_4 l1_3 l1_4 = true by first | (unfold mWider; simp only [h_0, Bool.not_true, Bool.not_false, Bool.true_and, Bool.false_and, Bool.and_true, Bool.and_false, Bool.true_or, Bool.false_or, Bool.or_true, Bool.or_false]) | simp [mWider, h_0])
  have D0 := Lib.hid (show (l1_3.all fun x => l0_3.any (mWithin x)) = false from h_0)
  clear h_0
  go_enter Tryz.func32, Tryz.ntmps32
  go_wp2_with fail
  refine Calls.mono (spec_IsWithinGrants l1_3 A1_3 n1_3 c1_3 lo1_3 hi1_3 l0_3 A0_3 n0_3 c0_3 lo0_3 hi0_3 _ h1_3 (R1_3.out.new HB.out) k1_3 b1_3 h0_3 (R0_3.out.new HB.out) k0_3 b0_3) ?_
  rw [D0.out]
  rintro e w1 ⟨rfl, hb⟩
  replace KB0 := Lib.hid (KB0.out.new hb)
  replace KB1 := Lib.hid (KB1.out.new hb)
  replace HB := Lib.hid (below_trans HB.out hb (Nat.le_refl _))
  clear hb
  obtain ⟨eb0_0, eb0_1, eb0_2, eb0_3, eb0_4, eb0_5, eb0_6, eb0_7⟩ := KB0.out.p8
  obtain ⟨eb1_0, eb1_1, eb1_2, eb1_3, eb1_4, eb1_5, eb1_6, eb1_7⟩ := KB1.out.p8
  go_wp2_with fail
  go_ret
  exact ⟨by rw [HE.out]; rfl, HB.out⟩

end Go.Proofs.YtkedacmpmancbaaGreatDoor
