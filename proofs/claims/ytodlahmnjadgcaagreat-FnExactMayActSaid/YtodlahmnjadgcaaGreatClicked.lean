/- IsClicked, of the program and of the model. -/
import Derived.Test.YtodlahmnjadgcaaGreatRTab
import Derived.Test.YtodlahmnjadgcaaGreatIn
namespace Go.Proofs.YtodlahmnjadgcaaGreat
open Go Go.ChangeShapes Go.WideShapes Go.ChangeAt Go.RowKit Go.Lib
set_option linter.unusedVariables false
set_option linter.unusedSimpArgs false
set_option maxRecDepth 100000
def mClicked (c t : Int) : Bool := inR c 0 10000 && inR t c (c + 2)
set_option maxHeartbeats 16000000 in
theorem impl_IsClicked (s0_0 : TSite) (l0_1 : List TNode) (A0_1 : Option Addr) (n0_1 c0_1 lo0_1 hi0_1 : Nat) (l0_2 : List TEdit) (A0_2 : Option Addr) (n0_2 c0_2 lo0_2 hi0_2 : Nat) (l0_3 : List Int) (A0_3 : Option Addr) (n0_3 c0_3 lo0_3 hi0_3 : Nat) (p0_4 : Int) (a1 : Int) (w : World) (h0_1 : n0_1 ≤ 1048576) (r0_1 : Rd w lo0_1 hi0_1 5 A0_1 n0_1 (cNode l0_1)) (b0_1 : Hid (cNodeOk l0_1)) (h0_2 : n0_2 ≤ 1048576) (r0_2 : Rd w lo0_2 hi0_2 6 A0_2 n0_2 (cEdit l0_2)) (b0_2 : Hid (cEditOk l0_2)) (h0_3 : n0_3 ≤ 1048576) (r0_3 : Rd w lo0_3 hi0_3 1 A0_3 n0_3 (i64s l0_3)) (b0_3 : Hid (I64s l0_3)) :
    Calls Tryz.prog 96 #[.agg #[.int .i64 s0_0.f0, .int .i64 s0_0.f1, .slice A0_1 n0_1 c0_1, .slice A0_2 n0_2 c0_2, .slice A0_3 n0_3 c0_3, .int .i64 p0_4], .int .i64 a1] w (Says (.bool (mClicked p0_4 a1)) w) := by
  have R0_1 := Lib.hid r0_1
  clear r0_1
  have R0_2 := Lib.hid r0_2
  clear r0_2
  have R0_3 := Lib.hid r0_3
  clear r0_3
  have KB0 := Lib.hid (show BoxAt (w.alloc (.cells #[.int .i64 s0_0.f0, .int .i64 s0_0.f1, .slice A0_1 n0_1 c0_1, .slice A0_2 n0_2 c0_2, .slice A0_3 n0_3 c0_3, .int .i64 p0_4] 105)) w.heap.size 105 #[.int .i64 s0_0.f0, .int .i64 s0_0.f1, .slice A0_1 n0_1 c0_1, .slice A0_2 n0_2 c0_2, .slice A0_3 n0_3 c0_3, .int .i64 p0_4] from (box_new _ _ _ : BoxAt (w.alloc (.cells #[.int .i64 s0_0.f0, .int .i64 s0_0.f1, .slice A0_1 n0_1 c0_1, .slice A0_2 n0_2 c0_2, .slice A0_3 n0_3 c0_3, .int .i64 p0_4] 105)) w.heap.size 105 #[.int .i64 s0_0.f0, .int .i64 s0_0.f1, .slice A0_1 n0_1 c0_1, .slice A0_2 n0_2 c0_2, .slice A0_3 n0_3 c0_3, .int .i64 p0_4]))
  have HB := Lib.hid (show Below w.heap.size w (w.alloc (.cells #[.int .i64 s0_0.f0, .int .i64 s0_0.f1, .slice A0_1 n0_1 c0_1, .slice A0_2 n0_2 c0_2, .slice A0_3 n0_3 c0_3, .int .i64 p0_4] 105)) from (Below.refl _ _).alloc (by first | exact Nat.le_refl _ | (simp; done) | (simp; omega)) _)
  by_cases h_0 : (inR p0_4 0 10000) = true
  · skip
    have hbd := inR_true.1 h_0
    obtain ⟨hbd0, hbd1⟩ := hbd
    by_cases h_1 : (inR a1 p0_4 (p0_4 + 2)) = true
    · skip
      have HE := Lib.hid (show mClicked p0_4 a1 = true by first | (unfold mClicked; simp only [h_0, h_1, Bool.not_true, Bool.not_false, Bool.true_and, Bool.false_and, Bool.and_true, Bool.and_false, Bool.true_or, Bool.false_or, Bool.or_true, Bool.or_false]) | simp [mClicked, h_0, h_1])
      have D0 := Lib.hid (show (inR p0_4 0 10000) = true from h_0)
      have D1 := Lib.hid (show (inR a1 p0_4 (p0_4 + 2)) = true from h_1)
      clear h_0 h_1
      go_enter Tryz.func96, Tryz.ntmps96
      go_wp2_with fail
      refine Calls.mono (impl_in _ _ _ _) ?_
      rw [D0.out]
      rintro e w1 ⟨rfl, rfl⟩
      go_wp2_with fail
      refine Calls.mono (impl_in _ _ _ _) ?_
      rw [D1.out]
      rintro e w1 ⟨rfl, rfl⟩
      go_wp2_with fail
      go_ret
      exact ⟨by rw [HE.out]; rfl, HB.out⟩
    · have h_1 : (inR a1 p0_4 (p0_4 + 2)) = false := by simpa using h_1
      have HE := Lib.hid (show mClicked p0_4 a1 = false by first | (unfold mClicked; simp only [h_0, h_1, Bool.not_true, Bool.not_false, Bool.true_and, Bool.false_and, Bool.and_true, Bool.and_false, Bool.true_or, Bool.false_or, Bool.or_true, Bool.or_false]) | simp [mClicked, h_0, h_1])
      have D0 := Lib.hid (show (inR p0_4 0 10000) = true from h_0)
      have D1 := Lib.hid (show (inR a1 p0_4 (p0_4 + 2)) = false from h_1)
      clear h_0 h_1
      go_enter Tryz.func96, Tryz.ntmps96
      go_wp2_with fail
      refine Calls.mono (impl_in _ _ _ _) ?_
      rw [D0.out]
      rintro e w1 ⟨rfl, rfl⟩
      go_wp2_with fail
      refine Calls.mono (impl_in _ _ _ _) ?_
      rw [D1.out]
      rintro e w1 ⟨rfl, rfl⟩
      go_wp2_with fail
      go_ret
      exact ⟨by rw [HE.out]; rfl, HB.out⟩
  · have h_0 : (inR p0_4 0 10000) = false := by simpa using h_0
    have HE := Lib.hid (show mClicked p0_4 a1 = false by first | (unfold mClicked; simp only [h_0, Bool.not_true, Bool.not_false, Bool.true_and, Bool.false_and, Bool.and_true, Bool.and_false, Bool.true_or, Bool.false_or, Bool.or_true, Bool.or_false]) | simp [mClicked, h_0])
    have D0 := Lib.hid (show (inR p0_4 0 10000) = false from h_0)
    clear h_0
    go_enter Tryz.func96, Tryz.ntmps96
    go_wp2_with fail
    refine Calls.mono (impl_in _ _ _ _) ?_
    rw [D0.out]
    rintro e w1 ⟨rfl, rfl⟩
    go_wp2_with fail
    go_ret
    exact ⟨by rw [HE.out]; rfl, HB.out⟩

set_option maxHeartbeats 16000000 in
theorem spec_IsClicked (s0_0 : TSite) (l0_1 : List TNode) (A0_1 : Option Addr) (n0_1 c0_1 lo0_1 hi0_1 : Nat) (l0_2 : List TEdit) (A0_2 : Option Addr) (n0_2 c0_2 lo0_2 hi0_2 : Nat) (l0_3 : List Int) (A0_3 : Option Addr) (n0_3 c0_3 lo0_3 hi0_3 : Nat) (p0_4 : Int) (a1 : Int) (w : World) (h0_1 : n0_1 ≤ 1048576) (r0_1 : Rd w lo0_1 hi0_1 5 A0_1 n0_1 (cNode l0_1)) (b0_1 : Hid (cNodeOk l0_1)) (h0_2 : n0_2 ≤ 1048576) (r0_2 : Rd w lo0_2 hi0_2 6 A0_2 n0_2 (cEdit l0_2)) (b0_2 : Hid (cEditOk l0_2)) (h0_3 : n0_3 ≤ 1048576) (r0_3 : Rd w lo0_3 hi0_3 1 A0_3 n0_3 (i64s l0_3)) (b0_3 : Hid (I64s l0_3)) :
    Calls Tryz.prog 94 #[.agg #[.int .i64 s0_0.f0, .int .i64 s0_0.f1, .slice A0_1 n0_1 c0_1, .slice A0_2 n0_2 c0_2, .slice A0_3 n0_3 c0_3, .int .i64 p0_4], .int .i64 a1] w (Says (.bool (mClicked p0_4 a1)) w) := by
  have R0_1 := Lib.hid r0_1
  clear r0_1
  have R0_2 := Lib.hid r0_2
  clear r0_2
  have R0_3 := Lib.hid r0_3
  clear r0_3
  have KB0 := Lib.hid (show BoxAt (w.alloc (.cells #[.int .i64 s0_0.f0, .int .i64 s0_0.f1, .slice A0_1 n0_1 c0_1, .slice A0_2 n0_2 c0_2, .slice A0_3 n0_3 c0_3, .int .i64 p0_4] 105)) w.heap.size 105 #[.int .i64 s0_0.f0, .int .i64 s0_0.f1, .slice A0_1 n0_1 c0_1, .slice A0_2 n0_2 c0_2, .slice A0_3 n0_3 c0_3, .int .i64 p0_4] from (box_new _ _ _ : BoxAt (w.alloc (.cells #[.int .i64 s0_0.f0, .int .i64 s0_0.f1, .slice A0_1 n0_1 c0_1, .slice A0_2 n0_2 c0_2, .slice A0_3 n0_3 c0_3, .int .i64 p0_4] 105)) w.heap.size 105 #[.int .i64 s0_0.f0, .int .i64 s0_0.f1, .slice A0_1 n0_1 c0_1, .slice A0_2 n0_2 c0_2, .slice A0_3 n0_3 c0_3, .int .i64 p0_4]))
  have HB := Lib.hid (show Below w.heap.size w (w.alloc (.cells #[.int .i64 s0_0.f0, .int .i64 s0_0.f1, .slice A0_1 n0_1 c0_1, .slice A0_2 n0_2 c0_2, .slice A0_3 n0_3 c0_3, .int .i64 p0_4] 105)) from (Below.refl _ _).alloc (by first | exact Nat.le_refl _ | (simp; done) | (simp; omega)) _)
  by_cases h_0 : (inR p0_4 0 10000) = true
  · skip
    have hbd := inR_true.1 h_0
    obtain ⟨hbd0, hbd1⟩ := hbd
    by_cases h_1 : (inR a1 p0_4 (p0_4 + 2)) = true
    · skip
      have HE := Lib.hid (show mClicked p0_4 a1 = true by first | (unfold mClicked; simp only [h_0, h_1, Bool.not_true, Bool.not_false, Bool.true_and, Bool.false_and, Bool.and_true, Bool.and_false, Bool.true_or, Bool.false_or, Bool.or_true, Bool.or_false]) | simp [mClicked, h_0, h_1])
      have D0 := Lib.hid (show (inR p0_4 0 10000) = true from h_0)
      have D1 := Lib.hid (show (inR a1 p0_4 (p0_4 + 2)) = true from h_1)
      clear h_0 h_1
      go_enter Tryz.func94, Tryz.ntmps94
      go_wp2_with fail
      refine Calls.mono (spec_in _ _ _ _) ?_
      rw [D0.out]
      rintro e w1 ⟨rfl, rfl⟩
      go_wp2_with fail
      refine Calls.mono (spec_in _ _ _ _) ?_
      rw [D1.out]
      rintro e w1 ⟨rfl, rfl⟩
      go_wp2_with fail
      go_ret
      exact ⟨by rw [HE.out]; rfl, HB.out⟩
    · have h_1 : (inR a1 p0_4 (p0_4 + 2)) = false := by simpa using h_1
      have HE := Lib.hid (show mClicked p0_4 a1 = false by first | (unfold mClicked; simp only [h_0, h_1, Bool.not_true, Bool.not_false, Bool.true_and, Bool.false_and, Bool.and_true, Bool.and_false, Bool.true_or, Bool.false_or, Bool.or_true, Bool.or_false]) | simp [mClicked, h_0, h_1])
      have D0 := Lib.hid (show (inR p0_4 0 10000) = true from h_0)
      have D1 := Lib.hid (show (inR a1 p0_4 (p0_4 + 2)) = false from h_1)
      clear h_0 h_1
      go_enter Tryz.func94, Tryz.ntmps94
      go_wp2_with fail
      refine Calls.mono (spec_in _ _ _ _) ?_
      rw [D0.out]
      rintro e w1 ⟨rfl, rfl⟩
      go_wp2_with fail
      refine Calls.mono (spec_in _ _ _ _) ?_
      rw [D1.out]
      rintro e w1 ⟨rfl, rfl⟩
      go_wp2_with fail
      go_ret
      exact ⟨by rw [HE.out]; rfl, HB.out⟩
  · have h_0 : (inR p0_4 0 10000) = false := by simpa using h_0
    have HE := Lib.hid (show mClicked p0_4 a1 = false by first | (unfold mClicked; simp only [h_0, Bool.not_true, Bool.not_false, Bool.true_and, Bool.false_and, Bool.and_true, Bool.and_false, Bool.true_or, Bool.false_or, Bool.or_true, Bool.or_false]) | simp [mClicked, h_0])
    have D0 := Lib.hid (show (inR p0_4 0 10000) = false from h_0)
    clear h_0
    go_enter Tryz.func94, Tryz.ntmps94
    go_wp2_with fail
    refine Calls.mono (spec_in _ _ _ _) ?_
    rw [D0.out]
    rintro e w1 ⟨rfl, rfl⟩
    go_wp2_with fail
    go_ret
    exact ⟨by rw [HE.out]; rfl, HB.out⟩

end Go.Proofs.YtodlahmnjadgcaaGreat
