/- IsWider, of the program and of the model. -/
import Derived.Test.YthipflbjnnplaaaRPackage
import Derived.Test.YthipflbjnnplaaaWithin
import Derived.Test.YthipflbjnnplaaaFlowsWithin
namespace Go.Proofs.Ythipflbjnnplaaa
open Go Go.ChangeShapes Go.WideShapes Go.ChangeAt Go.RowKit Go.Lib
set_option linter.unusedVariables false
set_option linter.unusedSimpArgs false
set_option maxRecDepth 100000
def mWider (g0 : List TGrant) (f0 : List TFlow) (g1 : List TGrant) (f1 : List TFlow) : Bool := !(g1.all fun x => g0.any (mWithin x)) || !(f1.all (pFW f0))
set_option maxHeartbeats 16000000 in
theorem impl_IsWiderC (p0_0 : Int) (p0_1 : Int) (p0_2 : Int) (l0_3 : List TGrant) (A0_3 : Option Addr) (n0_3 c0_3 lo0_3 hi0_3 : Nat) (l0_4 : List TFlow) (A0_4 : Option Addr) (n0_4 c0_4 lo0_4 hi0_4 : Nat) (l0_5 : List TRule) (A0_5 : Option Addr) (n0_5 c0_5 lo0_5 hi0_5 : Nat) (l0_6 : List TOp) (A0_6 : Option Addr) (n0_6 c0_6 lo0_6 hi0_6 : Nat) (p0_7 : Int) (p1_0 : Int) (p1_1 : Int) (p1_2 : Int) (l1_3 : List TGrant) (A1_3 : Option Addr) (n1_3 c1_3 lo1_3 hi1_3 : Nat) (l1_4 : List TFlow) (A1_4 : Option Addr) (n1_4 c1_4 lo1_4 hi1_4 : Nat) (l1_5 : List TRule) (A1_5 : Option Addr) (n1_5 c1_5 lo1_5 hi1_5 : Nat) (l1_6 : List TOp) (A1_6 : Option Addr) (n1_6 c1_6 lo1_6 hi1_6 : Nat) (p1_7 : Int) (w : World) (h0_3 : n0_3 ≤ 1048576) (r0_3 : Rd w lo0_3 hi0_3 7 A0_3 n0_3 (cGrant l0_3)) (k0_3 : n0_3 ≤ c0_3) (b0_3 : Hid (cGrantOk l0_3)) (h0_4 : n0_4 ≤ 1048576) (r0_4 : Rd w lo0_4 hi0_4 3 A0_4 n0_4 (cFlow l0_4)) (k0_4 : n0_4 ≤ c0_4) (b0_4 : Hid (cFlowOk l0_4)) (h0_5 : n0_5 ≤ 1048576) (r0_5 : Rd w lo0_5 hi0_5 8 A0_5 n0_5 (cRule l0_5)) (k0_5 : n0_5 ≤ c0_5) (b0_5 : Hid (cRuleOk l0_5)) (h0_6 : n0_6 ≤ 1048576) (r0_6 : Rd w lo0_6 hi0_6 4 A0_6 n0_6 (cOp l0_6)) (k0_6 : n0_6 ≤ c0_6) (b0_6 : Hid (cOpOk l0_6)) (h1_3 : n1_3 ≤ 1048576) (r1_3 : Rd w lo1_3 hi1_3 7 A1_3 n1_3 (cGrant l1_3)) (k1_3 : n1_3 ≤ c1_3) (b1_3 : Hid (cGrantOk l1_3)) (h1_4 : n1_4 ≤ 1048576) (r1_4 : Rd w lo1_4 hi1_4 3 A1_4 n1_4 (cFlow l1_4)) (k1_4 : n1_4 ≤ c1_4) (b1_4 : Hid (cFlowOk l1_4)) (h1_5 : n1_5 ≤ 1048576) (r1_5 : Rd w lo1_5 hi1_5 8 A1_5 n1_5 (cRule l1_5)) (k1_5 : n1_5 ≤ c1_5) (b1_5 : Hid (cRuleOk l1_5)) (h1_6 : n1_6 ≤ 1048576) (r1_6 : Rd w lo1_6 hi1_6 4 A1_6 n1_6 (cOp l1_6)) (k1_6 : n1_6 ≤ c1_6) (b1_6 : Hid (cOpOk l1_6)) :
    Calls Try.prog 29 #[.agg #[.int .i64 p0_0, .int .i64 p0_1, .int .i64 p0_2, .slice A0_3 n0_3 c0_3, .slice A0_4 n0_4 c0_4, .slice A0_5 n0_5 c0_5, .slice A0_6 n0_6 c0_6, .int .i64 p0_7], .agg #[.int .i64 p1_0, .int .i64 p1_1, .int .i64 p1_2, .slice A1_3 n1_3 c1_3, .slice A1_4 n1_4 c1_4, .slice A1_5 n1_5 c1_5, .slice A1_6 n1_6 c1_6, .int .i64 p1_7]] w (Says (.bool (mWider l0_3 l0_4 l1_3 l1_4)) w) := by
  have R0_3 := Lib.hid r0_3
  clear r0_3
  have R0_4 := Lib.hid r0_4
  clear r0_4
  have R0_5 := Lib.hid r0_5
  clear r0_5
  have R0_6 := Lib.hid r0_6
  clear r0_6
  have R1_3 := Lib.hid r1_3
  clear r1_3
  have R1_4 := Lib.hid r1_4
  clear r1_4
  have R1_5 := Lib.hid r1_5
  clear r1_5
  have R1_6 := Lib.hid r1_6
  clear r1_6
  have KB0 := Lib.hid (show BoxAt ((w.alloc (.cells #[.int .i64 p0_0, .int .i64 p0_1, .int .i64 p0_2, .slice A0_3 n0_3 c0_3, .slice A0_4 n0_4 c0_4, .slice A0_5 n0_5 c0_5, .slice A0_6 n0_6 c0_6, .int .i64 p0_7] 35)).alloc (.cells #[.int .i64 p1_0, .int .i64 p1_1, .int .i64 p1_2, .slice A1_3 n1_3 c1_3, .slice A1_4 n1_4 c1_4, .slice A1_5 n1_5 c1_5, .slice A1_6 n1_6 c1_6, .int .i64 p1_7] 35)) w.heap.size 35 #[.int .i64 p0_0, .int .i64 p0_1, .int .i64 p0_2, .slice A0_3 n0_3 c0_3, .slice A0_4 n0_4 c0_4, .slice A0_5 n0_5 c0_5, .slice A0_6 n0_6 c0_6, .int .i64 p0_7] from (box_new _ _ _ : BoxAt (w.alloc (.cells #[.int .i64 p0_0, .int .i64 p0_1, .int .i64 p0_2, .slice A0_3 n0_3 c0_3, .slice A0_4 n0_4 c0_4, .slice A0_5 n0_5 c0_5, .slice A0_6 n0_6 c0_6, .int .i64 p0_7] 35)) w.heap.size 35 #[.int .i64 p0_0, .int .i64 p0_1, .int .i64 p0_2, .slice A0_3 n0_3 c0_3, .slice A0_4 n0_4 c0_4, .slice A0_5 n0_5 c0_5, .slice A0_6 n0_6 c0_6, .int .i64 p0_7]).alloc_ _)
  have KB1 := Lib.hid (show BoxAt ((w.alloc (.cells #[.int .i64 p0_0, .int .i64 p0_1, .int .i64 p0_2, .slice A0_3 n0_3 c0_3, .slice A0_4 n0_4 c0_4, .slice A0_5 n0_5 c0_5, .slice A0_6 n0_6 c0_6, .int .i64 p0_7] 35)).alloc (.cells #[.int .i64 p1_0, .int .i64 p1_1, .int .i64 p1_2, .slice A1_3 n1_3 c1_3, .slice A1_4 n1_4 c1_4, .slice A1_5 n1_5 c1_5, .slice A1_6 n1_6 c1_6, .int .i64 p1_7] 35)) (w.heap.size + 1) 35 #[.int .i64 p1_0, .int .i64 p1_1, .int .i64 p1_2, .slice A1_3 n1_3 c1_3, .slice A1_4 n1_4 c1_4, .slice A1_5 n1_5 c1_5, .slice A1_6 n1_6 c1_6, .int .i64 p1_7] from (by simpa using box_new (w.alloc (.cells #[.int .i64 p0_0, .int .i64 p0_1, .int .i64 p0_2, .slice A0_3 n0_3 c0_3, .slice A0_4 n0_4 c0_4, .slice A0_5 n0_5 c0_5, .slice A0_6 n0_6 c0_6, .int .i64 p0_7] 35)) 35 #[.int .i64 p1_0, .int .i64 p1_1, .int .i64 p1_2, .slice A1_3 n1_3 c1_3, .slice A1_4 n1_4 c1_4, .slice A1_5 n1_5 c1_5, .slice A1_6 n1_6 c1_6, .int .i64 p1_7] : BoxAt ((w.alloc (.cells #[.int .i64 p0_0, .int .i64 p0_1, .int .i64 p0_2, .slice A0_3 n0_3 c0_3, .slice A0_4 n0_4 c0_4, .slice A0_5 n0_5 c0_5, .slice A0_6 n0_6 c0_6, .int .i64 p0_7] 35)).alloc (.cells #[.int .i64 p1_0, .int .i64 p1_1, .int .i64 p1_2, .slice A1_3 n1_3 c1_3, .slice A1_4 n1_4 c1_4, .slice A1_5 n1_5 c1_5, .slice A1_6 n1_6 c1_6, .int .i64 p1_7] 35)) (w.heap.size + 1) 35 #[.int .i64 p1_0, .int .i64 p1_1, .int .i64 p1_2, .slice A1_3 n1_3 c1_3, .slice A1_4 n1_4 c1_4, .slice A1_5 n1_5 c1_5, .slice A1_6 n1_6 c1_6, .int .i64 p1_7]))
  have HB := Lib.hid (show Below w.heap.size w ((w.alloc (.cells #[.int .i64 p0_0, .int .i64 p0_1, .int .i64 p0_2, .slice A0_3 n0_3 c0_3, .slice A0_4 n0_4 c0_4, .slice A0_5 n0_5 c0_5, .slice A0_6 n0_6 c0_6, .int .i64 p0_7] 35)).alloc (.cells #[.int .i64 p1_0, .int .i64 p1_1, .int .i64 p1_2, .slice A1_3 n1_3 c1_3, .slice A1_4 n1_4 c1_4, .slice A1_5 n1_5 c1_5, .slice A1_6 n1_6 c1_6, .int .i64 p1_7] 35)) from ((Below.refl _ _).alloc (by first | exact Nat.le_refl _ | (simp; done) | (simp; omega)) _).alloc (by first | exact Nat.le_refl _ | (simp; done) | (simp; omega)) _)
  by_cases h_0 : (l1_3.all fun x => l0_3.any (mWithin x)) = true
  · skip
    by_cases h_1 : (l1_4.all (pFW l0_4)) = true
    · skip
      have HE := Lib.hid (show mWider l0_3 l0_4 l1_3 l1_4 = false by first | (unfold mWider; simp only [h_0, h_1, Bool.not_true, Bool.not_false, Bool.true_and, Bool.false_and, Bool.and_true, Bool.and_false, Bool.true_or, Bool.false_or, Bool.or_true, Bool.or_false]) | simp [mWider, h_0, h_1])
      have D0 := Lib.hid (show (l1_3.all fun x => l0_3.any (mWithin x)) = true from h_0)
      have D1 := Lib.hid (show (l1_4.all (pFW l0_4)) = true from h_1)
      clear h_0 h_1
      go_enter Try.func29, Try.ntmps29
      go_wp2_with fail
      refine Calls.mono (impl_IsWithinGrantsC l1_3 A1_3 n1_3 c1_3 lo1_3 hi1_3 l0_3 A0_3 n0_3 c0_3 lo0_3 hi0_3 _ h1_3 (R1_3.out.new HB.out) k1_3 b1_3 h0_3 (R0_3.out.new HB.out) k0_3 b0_3) ?_
      rw [D0.out]
      rintro e w1 ⟨rfl, hb⟩
      replace KB0 := Lib.hid (KB0.out.new hb)
      replace KB1 := Lib.hid (KB1.out.new hb)
      replace HB := Lib.hid (below_trans HB.out hb (Nat.le_refl _))
      clear hb
      have eb0_0 := KB0.out.at_ (j := 0) rfl
      have eb0_1 := KB0.out.at_ (j := 1) rfl
      have eb0_2 := KB0.out.at_ (j := 2) rfl
      have eb0_3 := KB0.out.at_ (j := 3) rfl
      have eb0_4 := KB0.out.at_ (j := 4) rfl
      have eb0_5 := KB0.out.at_ (j := 5) rfl
      have eb0_6 := KB0.out.at_ (j := 6) rfl
      have eb0_7 := KB0.out.at_ (j := 7) rfl
      have eb1_0 := KB1.out.at_ (j := 0) rfl
      have eb1_1 := KB1.out.at_ (j := 1) rfl
      have eb1_2 := KB1.out.at_ (j := 2) rfl
      have eb1_3 := KB1.out.at_ (j := 3) rfl
      have eb1_4 := KB1.out.at_ (j := 4) rfl
      have eb1_5 := KB1.out.at_ (j := 5) rfl
      have eb1_6 := KB1.out.at_ (j := 6) rfl
      have eb1_7 := KB1.out.at_ (j := 7) rfl
      go_wp2_with fail
      clear eb0_0 eb0_1 eb0_2 eb0_3 eb0_4 eb0_5 eb0_6 eb0_7 eb1_0 eb1_1 eb1_2 eb1_3 eb1_4 eb1_5 eb1_6 eb1_7
      refine Calls.mono (impl_FlowsWithinC l1_4 A1_4 n1_4 c1_4 lo1_4 hi1_4 l0_4 A0_4 n0_4 c0_4 lo0_4 hi0_4 _ h1_4 (R1_4.out.new HB.out) k1_4 b1_4 h0_4 (R0_4.out.new HB.out) k0_4 b0_4) ?_
      rw [D1.out]
      rintro e w2 ⟨rfl, hb⟩
      replace KB0 := Lib.hid (KB0.out.new hb)
      replace KB1 := Lib.hid (KB1.out.new hb)
      replace HB := Lib.hid (below_trans HB.out hb (Nat.le_refl _))
      clear hb
      have eb0_0 := KB0.out.at_ (j := 0) rfl
      have eb0_1 := KB0.out.at_ (j := 1) rfl
      have eb0_2 := KB0.out.at_ (j := 2) rfl
      have eb0_3 := KB0.out.at_ (j := 3) rfl
      have eb0_4 := KB0.out.at_ (j := 4) rfl
      have eb0_5 := KB0.out.at_ (j := 5) rfl
      have eb0_6 := KB0.out.at_ (j := 6) rfl
      have eb0_7 := KB0.out.at_ (j := 7) rfl
      have eb1_0 := KB1.out.at_ (j := 0) rfl
      have eb1_1 := KB1.out.at_ (j := 1) rfl
      have eb1_2 := KB1.out.at_ (j := 2) rfl
      have eb1_3 := KB1.out.at_ (j := 3) rfl
      have eb1_4 := KB1.out.at_ (j := 4) rfl
      have eb1_5 := KB1.out.at_ (j := 5) rfl
      have eb1_6 := KB1.out.at_ (j := 6) rfl
      have eb1_7 := KB1.out.at_ (j := 7) rfl
      go_wp2_with fail
      go_ret
      exact ⟨by rw [HE.out]; rfl, HB.out⟩
    · have h_1 : (l1_4.all (pFW l0_4)) = false := by simpa using h_1
      have HE := Lib.hid (show mWider l0_3 l0_4 l1_3 l1_4 = true by first | (unfold mWider; simp only [h_0, h_1, Bool.not_true, Bool.not_false, Bool.true_and, Bool.false_and, Bool.and_true, Bool.and_false, Bool.true_or, Bool.false_or, Bool.or_true, Bool.or_false]) | simp [mWider, h_0, h_1])
      have D0 := Lib.hid (show (l1_3.all fun x => l0_3.any (mWithin x)) = true from h_0)
      have D1 := Lib.hid (show (l1_4.all (pFW l0_4)) = false from h_1)
      clear h_0 h_1
      go_enter Try.func29, Try.ntmps29
      go_wp2_with fail
      refine Calls.mono (impl_IsWithinGrantsC l1_3 A1_3 n1_3 c1_3 lo1_3 hi1_3 l0_3 A0_3 n0_3 c0_3 lo0_3 hi0_3 _ h1_3 (R1_3.out.new HB.out) k1_3 b1_3 h0_3 (R0_3.out.new HB.out) k0_3 b0_3) ?_
      rw [D0.out]
      rintro e w1 ⟨rfl, hb⟩
      replace KB0 := Lib.hid (KB0.out.new hb)
      replace KB1 := Lib.hid (KB1.out.new hb)
      replace HB := Lib.hid (below_trans HB.out hb (Nat.le_refl _))
      clear hb
      have eb0_0 := KB0.out.at_ (j := 0) rfl
      have eb0_1 := KB0.out.at_ (j := 1) rfl
      have eb0_2 := KB0.out.at_ (j := 2) rfl
      have eb0_3 := KB0.out.at_ (j := 3) rfl
      have eb0_4 := KB0.out.at_ (j := 4) rfl
      have eb0_5 := KB0.out.at_ (j := 5) rfl
      have eb0_6 := KB0.out.at_ (j := 6) rfl
      have eb0_7 := KB0.out.at_ (j := 7) rfl
      have eb1_0 := KB1.out.at_ (j := 0) rfl
      have eb1_1 := KB1.out.at_ (j := 1) rfl
      have eb1_2 := KB1.out.at_ (j := 2) rfl
      have eb1_3 := KB1.out.at_ (j := 3) rfl
      have eb1_4 := KB1.out.at_ (j := 4) rfl
      have eb1_5 := KB1.out.at_ (j := 5) rfl
      have eb1_6 := KB1.out.at_ (j := 6) rfl
      have eb1_7 := KB1.out.at_ (j := 7) rfl
      go_wp2_with fail
      clear eb0_0 eb0_1 eb0_2 eb0_3 eb0_4 eb0_5 eb0_6 eb0_7 eb1_0 eb1_1 eb1_2 eb1_3 eb1_4 eb1_5 eb1_6 eb1_7
      refine Calls.mono (impl_FlowsWithinC l1_4 A1_4 n1_4 c1_4 lo1_4 hi1_4 l0_4 A0_4 n0_4 c0_4 lo0_4 hi0_4 _ h1_4 (R1_4.out.new HB.out) k1_4 b1_4 h0_4 (R0_4.out.new HB.out) k0_4 b0_4) ?_
      rw [D1.out]
      rintro e w2 ⟨rfl, hb⟩
      replace KB0 := Lib.hid (KB0.out.new hb)
      replace KB1 := Lib.hid (KB1.out.new hb)
      replace HB := Lib.hid (below_trans HB.out hb (Nat.le_refl _))
      clear hb
      have eb0_0 := KB0.out.at_ (j := 0) rfl
      have eb0_1 := KB0.out.at_ (j := 1) rfl
      have eb0_2 := KB0.out.at_ (j := 2) rfl
      have eb0_3 := KB0.out.at_ (j := 3) rfl
      have eb0_4 := KB0.out.at_ (j := 4) rfl
      have eb0_5 := KB0.out.at_ (j := 5) rfl
      have eb0_6 := KB0.out.at_ (j := 6) rfl
      have eb0_7 := KB0.out.at_ (j := 7) rfl
      have eb1_0 := KB1.out.at_ (j := 0) rfl
      have eb1_1 := KB1.out.at_ (j := 1) rfl
      have eb1_2 := KB1.out.at_ (j := 2) rfl
      have eb1_3 := KB1.out.at_ (j := 3) rfl
      have eb1_4 := KB1.out.at_ (j := 4) rfl
      have eb1_5 := KB1.out.at_ (j := 5) rfl
      have eb1_6 := KB1.out.at_ (j := 6) rfl
      have eb1_7 := KB1.out.at_ (j := 7) rfl
      go_wp2_with fail
      go_ret
      exact ⟨by rw [HE.out]; rfl, HB.out⟩
  · have h_0 : (l1_3.all fun x => l0_3.any (mWithin x)) = false := by simpa using h_0
    have HE := Lib.hid (show mWider l0_3 l0_4 l1_3 l1_4 = true by first | (unfold mWider; simp only [h_0, Bool.not_true, Bool.not_false, Bool.true_and, Bool.false_and, Bool.and_true, Bool.and_false, Bool.true_or, Bool.false_or, Bool.or_true, Bool.or_false]) | simp [mWider, h_0])
    have D0 := Lib.hid (show (l1_3.all fun x => l0_3.any (mWithin x)) = false from h_0)
    clear h_0
    go_enter Try.func29, Try.ntmps29
    go_wp2_with fail
    refine Calls.mono (impl_IsWithinGrantsC l1_3 A1_3 n1_3 c1_3 lo1_3 hi1_3 l0_3 A0_3 n0_3 c0_3 lo0_3 hi0_3 _ h1_3 (R1_3.out.new HB.out) k1_3 b1_3 h0_3 (R0_3.out.new HB.out) k0_3 b0_3) ?_
    rw [D0.out]
    rintro e w1 ⟨rfl, hb⟩
    replace KB0 := Lib.hid (KB0.out.new hb)
    replace KB1 := Lib.hid (KB1.out.new hb)
    replace HB := Lib.hid (below_trans HB.out hb (Nat.le_refl _))
    clear hb
    have eb0_0 := KB0.out.at_ (j := 0) rfl
    have eb0_1 := KB0.out.at_ (j := 1) rfl
    have eb0_2 := KB0.out.at_ (j := 2) rfl
    have eb0_3 := KB0.out.at_ (j := 3) rfl
    have eb0_4 := KB0.out.at_ (j := 4) rfl
    have eb0_5 := KB0.out.at_ (j := 5) rfl
    have eb0_6 := KB0.out.at_ (j := 6) rfl
    have eb0_7 := KB0.out.at_ (j := 7) rfl
    have eb1_0 := KB1.out.at_ (j := 0) rfl
    have eb1_1 := KB1.out.at_ (j := 1) rfl
    have eb1_2 := KB1.out.at_ (j := 2) rfl
    have eb1_3 := KB1.out.at_ (j := 3) rfl
    have eb1_4 := KB1.out.at_ (j := 4) rfl
    have eb1_5 := KB1.out.at_ (j := 5) rfl
    have eb1_6 := KB1.out.at_ (j := 6) rfl
    have eb1_7 := KB1.out.at_ (j := 7) rfl
    go_wp2_with fail
    go_ret
    exact ⟨by rw [HE.out]; rfl, HB.out⟩

set_option maxHeartbeats 16000000 in
theorem spec_IsWider (p0_0 : Int) (p0_1 : Int) (p0_2 : Int) (l0_3 : List TGrant) (A0_3 : Option Addr) (n0_3 c0_3 lo0_3 hi0_3 : Nat) (l0_4 : List TFlow) (A0_4 : Option Addr) (n0_4 c0_4 lo0_4 hi0_4 : Nat) (l0_5 : List TRule) (A0_5 : Option Addr) (n0_5 c0_5 lo0_5 hi0_5 : Nat) (l0_6 : List TOp) (A0_6 : Option Addr) (n0_6 c0_6 lo0_6 hi0_6 : Nat) (p0_7 : Int) (p1_0 : Int) (p1_1 : Int) (p1_2 : Int) (l1_3 : List TGrant) (A1_3 : Option Addr) (n1_3 c1_3 lo1_3 hi1_3 : Nat) (l1_4 : List TFlow) (A1_4 : Option Addr) (n1_4 c1_4 lo1_4 hi1_4 : Nat) (l1_5 : List TRule) (A1_5 : Option Addr) (n1_5 c1_5 lo1_5 hi1_5 : Nat) (l1_6 : List TOp) (A1_6 : Option Addr) (n1_6 c1_6 lo1_6 hi1_6 : Nat) (p1_7 : Int) (w : World) (h0_3 : n0_3 ≤ 1048576) (r0_3 : Rd w lo0_3 hi0_3 7 A0_3 n0_3 (cGrant l0_3)) (k0_3 : n0_3 ≤ c0_3) (b0_3 : Hid (cGrantOk l0_3)) (h0_4 : n0_4 ≤ 1048576) (r0_4 : Rd w lo0_4 hi0_4 3 A0_4 n0_4 (cFlow l0_4)) (k0_4 : n0_4 ≤ c0_4) (b0_4 : Hid (cFlowOk l0_4)) (h0_5 : n0_5 ≤ 1048576) (r0_5 : Rd w lo0_5 hi0_5 8 A0_5 n0_5 (cRule l0_5)) (k0_5 : n0_5 ≤ c0_5) (b0_5 : Hid (cRuleOk l0_5)) (h0_6 : n0_6 ≤ 1048576) (r0_6 : Rd w lo0_6 hi0_6 4 A0_6 n0_6 (cOp l0_6)) (k0_6 : n0_6 ≤ c0_6) (b0_6 : Hid (cOpOk l0_6)) (h1_3 : n1_3 ≤ 1048576) (r1_3 : Rd w lo1_3 hi1_3 7 A1_3 n1_3 (cGrant l1_3)) (k1_3 : n1_3 ≤ c1_3) (b1_3 : Hid (cGrantOk l1_3)) (h1_4 : n1_4 ≤ 1048576) (r1_4 : Rd w lo1_4 hi1_4 3 A1_4 n1_4 (cFlow l1_4)) (k1_4 : n1_4 ≤ c1_4) (b1_4 : Hid (cFlowOk l1_4)) (h1_5 : n1_5 ≤ 1048576) (r1_5 : Rd w lo1_5 hi1_5 8 A1_5 n1_5 (cRule l1_5)) (k1_5 : n1_5 ≤ c1_5) (b1_5 : Hid (cRuleOk l1_5)) (h1_6 : n1_6 ≤ 1048576) (r1_6 : Rd w lo1_6 hi1_6 4 A1_6 n1_6 (cOp l1_6)) (k1_6 : n1_6 ≤ c1_6) (b1_6 : Hid (cOpOk l1_6)) :
    Calls Try.prog 28 #[.agg #[.int .i64 p0_0, .int .i64 p0_1, .int .i64 p0_2, .slice A0_3 n0_3 c0_3, .slice A0_4 n0_4 c0_4, .slice A0_5 n0_5 c0_5, .slice A0_6 n0_6 c0_6, .int .i64 p0_7], .agg #[.int .i64 p1_0, .int .i64 p1_1, .int .i64 p1_2, .slice A1_3 n1_3 c1_3, .slice A1_4 n1_4 c1_4, .slice A1_5 n1_5 c1_5, .slice A1_6 n1_6 c1_6, .int .i64 p1_7]] w (Says (.bool (mWider l0_3 l0_4 l1_3 l1_4)) w) := by
  have R0_3 := Lib.hid r0_3
  clear r0_3
  have R0_4 := Lib.hid r0_4
  clear r0_4
  have R0_5 := Lib.hid r0_5
  clear r0_5
  have R0_6 := Lib.hid r0_6
  clear r0_6
  have R1_3 := Lib.hid r1_3
  clear r1_3
  have R1_4 := Lib.hid r1_4
  clear r1_4
  have R1_5 := Lib.hid r1_5
  clear r1_5
  have R1_6 := Lib.hid r1_6
  clear r1_6
  have KB0 := Lib.hid (show BoxAt ((w.alloc (.cells #[.int .i64 p0_0, .int .i64 p0_1, .int .i64 p0_2, .slice A0_3 n0_3 c0_3, .slice A0_4 n0_4 c0_4, .slice A0_5 n0_5 c0_5, .slice A0_6 n0_6 c0_6, .int .i64 p0_7] 35)).alloc (.cells #[.int .i64 p1_0, .int .i64 p1_1, .int .i64 p1_2, .slice A1_3 n1_3 c1_3, .slice A1_4 n1_4 c1_4, .slice A1_5 n1_5 c1_5, .slice A1_6 n1_6 c1_6, .int .i64 p1_7] 35)) w.heap.size 35 #[.int .i64 p0_0, .int .i64 p0_1, .int .i64 p0_2, .slice A0_3 n0_3 c0_3, .slice A0_4 n0_4 c0_4, .slice A0_5 n0_5 c0_5, .slice A0_6 n0_6 c0_6, .int .i64 p0_7] from (box_new _ _ _ : BoxAt (w.alloc (.cells #[.int .i64 p0_0, .int .i64 p0_1, .int .i64 p0_2, .slice A0_3 n0_3 c0_3, .slice A0_4 n0_4 c0_4, .slice A0_5 n0_5 c0_5, .slice A0_6 n0_6 c0_6, .int .i64 p0_7] 35)) w.heap.size 35 #[.int .i64 p0_0, .int .i64 p0_1, .int .i64 p0_2, .slice A0_3 n0_3 c0_3, .slice A0_4 n0_4 c0_4, .slice A0_5 n0_5 c0_5, .slice A0_6 n0_6 c0_6, .int .i64 p0_7]).alloc_ _)
  have KB1 := Lib.hid (show BoxAt ((w.alloc (.cells #[.int .i64 p0_0, .int .i64 p0_1, .int .i64 p0_2, .slice A0_3 n0_3 c0_3, .slice A0_4 n0_4 c0_4, .slice A0_5 n0_5 c0_5, .slice A0_6 n0_6 c0_6, .int .i64 p0_7] 35)).alloc (.cells #[.int .i64 p1_0, .int .i64 p1_1, .int .i64 p1_2, .slice A1_3 n1_3 c1_3, .slice A1_4 n1_4 c1_4, .slice A1_5 n1_5 c1_5, .slice A1_6 n1_6 c1_6, .int .i64 p1_7] 35)) (w.heap.size + 1) 35 #[.int .i64 p1_0, .int .i64 p1_1, .int .i64 p1_2, .slice A1_3 n1_3 c1_3, .slice A1_4 n1_4 c1_4, .slice A1_5 n1_5 c1_5, .slice A1_6 n1_6 c1_6, .int .i64 p1_7] from (by simpa using box_new (w.alloc (.cells #[.int .i64 p0_0, .int .i64 p0_1, .int .i64 p0_2, .slice A0_3 n0_3 c0_3, .slice A0_4 n0_4 c0_4, .slice A0_5 n0_5 c0_5, .slice A0_6 n0_6 c0_6, .int .i64 p0_7] 35)) 35 #[.int .i64 p1_0, .int .i64 p1_1, .int .i64 p1_2, .slice A1_3 n1_3 c1_3, .slice A1_4 n1_4 c1_4, .slice A1_5 n1_5 c1_5, .slice A1_6 n1_6 c1_6, .int .i64 p1_7] : BoxAt ((w.alloc (.cells #[.int .i64 p0_0, .int .i64 p0_1, .int .i64 p0_2, .slice A0_3 n0_3 c0_3, .slice A0_4 n0_4 c0_4, .slice A0_5 n0_5 c0_5, .slice A0_6 n0_6 c0_6, .int .i64 p0_7] 35)).alloc (.cells #[.int .i64 p1_0, .int .i64 p1_1, .int .i64 p1_2, .slice A1_3 n1_3 c1_3, .slice A1_4 n1_4 c1_4, .slice A1_5 n1_5 c1_5, .slice A1_6 n1_6 c1_6, .int .i64 p1_7] 35)) (w.heap.size + 1) 35 #[.int .i64 p1_0, .int .i64 p1_1, .int .i64 p1_2, .slice A1_3 n1_3 c1_3, .slice A1_4 n1_4 c1_4, .slice A1_5 n1_5 c1_5, .slice A1_6 n1_6 c1_6, .int .i64 p1_7]))
  have HB := Lib.hid (show Below w.heap.size w ((w.alloc (.cells #[.int .i64 p0_0, .int .i64 p0_1, .int .i64 p0_2, .slice A0_3 n0_3 c0_3, .slice A0_4 n0_4 c0_4, .slice A0_5 n0_5 c0_5, .slice A0_6 n0_6 c0_6, .int .i64 p0_7] 35)).alloc (.cells #[.int .i64 p1_0, .int .i64 p1_1, .int .i64 p1_2, .slice A1_3 n1_3 c1_3, .slice A1_4 n1_4 c1_4, .slice A1_5 n1_5 c1_5, .slice A1_6 n1_6 c1_6, .int .i64 p1_7] 35)) from ((Below.refl _ _).alloc (by first | exact Nat.le_refl _ | (simp; done) | (simp; omega)) _).alloc (by first | exact Nat.le_refl _ | (simp; done) | (simp; omega)) _)
  by_cases h_0 : (l1_3.all fun x => l0_3.any (mWithin x)) = true
  · skip
    by_cases h_1 : (l1_4.all (pFW l0_4)) = true
    · skip
      have HE := Lib.hid (show mWider l0_3 l0_4 l1_3 l1_4 = false by first | (unfold mWider; simp only [h_0, h_1, Bool.not_true, Bool.not_false, Bool.true_and, Bool.false_and, Bool.and_true, Bool.and_false, Bool.true_or, Bool.false_or, Bool.or_true, Bool.or_false]) | simp [mWider, h_0, h_1])
      have D0 := Lib.hid (show (l1_3.all fun x => l0_3.any (mWithin x)) = true from h_0)
      have D1 := Lib.hid (show (l1_4.all (pFW l0_4)) = true from h_1)
      clear h_0 h_1
      go_enter Try.func28, Try.ntmps28
      go_wp2_with fail
      refine Calls.mono (spec_IsWithinGrants l1_3 A1_3 n1_3 c1_3 lo1_3 hi1_3 l0_3 A0_3 n0_3 c0_3 lo0_3 hi0_3 _ h1_3 (R1_3.out.new HB.out) k1_3 b1_3 h0_3 (R0_3.out.new HB.out) k0_3 b0_3) ?_
      rw [D0.out]
      rintro e w1 ⟨rfl, hb⟩
      replace KB0 := Lib.hid (KB0.out.new hb)
      replace KB1 := Lib.hid (KB1.out.new hb)
      replace HB := Lib.hid (below_trans HB.out hb (Nat.le_refl _))
      clear hb
      have eb0_0 := KB0.out.at_ (j := 0) rfl
      have eb0_1 := KB0.out.at_ (j := 1) rfl
      have eb0_2 := KB0.out.at_ (j := 2) rfl
      have eb0_3 := KB0.out.at_ (j := 3) rfl
      have eb0_4 := KB0.out.at_ (j := 4) rfl
      have eb0_5 := KB0.out.at_ (j := 5) rfl
      have eb0_6 := KB0.out.at_ (j := 6) rfl
      have eb0_7 := KB0.out.at_ (j := 7) rfl
      have eb1_0 := KB1.out.at_ (j := 0) rfl
      have eb1_1 := KB1.out.at_ (j := 1) rfl
      have eb1_2 := KB1.out.at_ (j := 2) rfl
      have eb1_3 := KB1.out.at_ (j := 3) rfl
      have eb1_4 := KB1.out.at_ (j := 4) rfl
      have eb1_5 := KB1.out.at_ (j := 5) rfl
      have eb1_6 := KB1.out.at_ (j := 6) rfl
      have eb1_7 := KB1.out.at_ (j := 7) rfl
      go_wp2_with fail
      clear eb0_0 eb0_1 eb0_2 eb0_3 eb0_4 eb0_5 eb0_6 eb0_7 eb1_0 eb1_1 eb1_2 eb1_3 eb1_4 eb1_5 eb1_6 eb1_7
      refine Calls.mono (spec_FlowsWithin l1_4 A1_4 n1_4 c1_4 lo1_4 hi1_4 l0_4 A0_4 n0_4 c0_4 lo0_4 hi0_4 _ h1_4 (R1_4.out.new HB.out) k1_4 b1_4 h0_4 (R0_4.out.new HB.out) k0_4 b0_4) ?_
      rw [D1.out]
      rintro e w2 ⟨rfl, hb⟩
      replace KB0 := Lib.hid (KB0.out.new hb)
      replace KB1 := Lib.hid (KB1.out.new hb)
      replace HB := Lib.hid (below_trans HB.out hb (Nat.le_refl _))
      clear hb
      have eb0_0 := KB0.out.at_ (j := 0) rfl
      have eb0_1 := KB0.out.at_ (j := 1) rfl
      have eb0_2 := KB0.out.at_ (j := 2) rfl
      have eb0_3 := KB0.out.at_ (j := 3) rfl
      have eb0_4 := KB0.out.at_ (j := 4) rfl
      have eb0_5 := KB0.out.at_ (j := 5) rfl
      have eb0_6 := KB0.out.at_ (j := 6) rfl
      have eb0_7 := KB0.out.at_ (j := 7) rfl
      have eb1_0 := KB1.out.at_ (j := 0) rfl
      have eb1_1 := KB1.out.at_ (j := 1) rfl
      have eb1_2 := KB1.out.at_ (j := 2) rfl
      have eb1_3 := KB1.out.at_ (j := 3) rfl
      have eb1_4 := KB1.out.at_ (j := 4) rfl
      have eb1_5 := KB1.out.at_ (j := 5) rfl
      have eb1_6 := KB1.out.at_ (j := 6) rfl
      have eb1_7 := KB1.out.at_ (j := 7) rfl
      go_wp2_with fail
      go_ret
      exact ⟨by rw [HE.out]; rfl, HB.out⟩
    · have h_1 : (l1_4.all (pFW l0_4)) = false := by simpa using h_1
      have HE := Lib.hid (show mWider l0_3 l0_4 l1_3 l1_4 = true by first | (unfold mWider; simp only [h_0, h_1, Bool.not_true, Bool.not_false, Bool.true_and, Bool.false_and, Bool.and_true, Bool.and_false, Bool.true_or, Bool.false_or, Bool.or_true, Bool.or_false]) | simp [mWider, h_0, h_1])
      have D0 := Lib.hid (show (l1_3.all fun x => l0_3.any (mWithin x)) = true from h_0)
      have D1 := Lib.hid (show (l1_4.all (pFW l0_4)) = false from h_1)
      clear h_0 h_1
      go_enter Try.func28, Try.ntmps28
      go_wp2_with fail
      refine Calls.mono (spec_IsWithinGrants l1_3 A1_3 n1_3 c1_3 lo1_3 hi1_3 l0_3 A0_3 n0_3 c0_3 lo0_3 hi0_3 _ h1_3 (R1_3.out.new HB.out) k1_3 b1_3 h0_3 (R0_3.out.new HB.out) k0_3 b0_3) ?_
      rw [D0.out]
      rintro e w1 ⟨rfl, hb⟩
      replace KB0 := Lib.hid (KB0.out.new hb)
      replace KB1 := Lib.hid (KB1.out.new hb)
      replace HB := Lib.hid (below_trans HB.out hb (Nat.le_refl _))
      clear hb
      have eb0_0 := KB0.out.at_ (j := 0) rfl
      have eb0_1 := KB0.out.at_ (j := 1) rfl
      have eb0_2 := KB0.out.at_ (j := 2) rfl
      have eb0_3 := KB0.out.at_ (j := 3) rfl
      have eb0_4 := KB0.out.at_ (j := 4) rfl
      have eb0_5 := KB0.out.at_ (j := 5) rfl
      have eb0_6 := KB0.out.at_ (j := 6) rfl
      have eb0_7 := KB0.out.at_ (j := 7) rfl
      have eb1_0 := KB1.out.at_ (j := 0) rfl
      have eb1_1 := KB1.out.at_ (j := 1) rfl
      have eb1_2 := KB1.out.at_ (j := 2) rfl
      have eb1_3 := KB1.out.at_ (j := 3) rfl
      have eb1_4 := KB1.out.at_ (j := 4) rfl
      have eb1_5 := KB1.out.at_ (j := 5) rfl
      have eb1_6 := KB1.out.at_ (j := 6) rfl
      have eb1_7 := KB1.out.at_ (j := 7) rfl
      go_wp2_with fail
      clear eb0_0 eb0_1 eb0_2 eb0_3 eb0_4 eb0_5 eb0_6 eb0_7 eb1_0 eb1_1 eb1_2 eb1_3 eb1_4 eb1_5 eb1_6 eb1_7
      refine Calls.mono (spec_FlowsWithin l1_4 A1_4 n1_4 c1_4 lo1_4 hi1_4 l0_4 A0_4 n0_4 c0_4 lo0_4 hi0_4 _ h1_4 (R1_4.out.new HB.out) k1_4 b1_4 h0_4 (R0_4.out.new HB.out) k0_4 b0_4) ?_
      rw [D1.out]
      rintro e w2 ⟨rfl, hb⟩
      replace KB0 := Lib.hid (KB0.out.new hb)
      replace KB1 := Lib.hid (KB1.out.new hb)
      replace HB := Lib.hid (below_trans HB.out hb (Nat.le_refl _))
      clear hb
      have eb0_0 := KB0.out.at_ (j := 0) rfl
      have eb0_1 := KB0.out.at_ (j := 1) rfl
      have eb0_2 := KB0.out.at_ (j := 2) rfl
      have eb0_3 := KB0.out.at_ (j := 3) rfl
      have eb0_4 := KB0.out.at_ (j := 4) rfl
      have eb0_5 := KB0.out.at_ (j := 5) rfl
      have eb0_6 := KB0.out.at_ (j := 6) rfl
      have eb0_7 := KB0.out.at_ (j := 7) rfl
      have eb1_0 := KB1.out.at_ (j := 0) rfl
      have eb1_1 := KB1.out.at_ (j := 1) rfl
      have eb1_2 := KB1.out.at_ (j := 2) rfl
      have eb1_3 := KB1.out.at_ (j := 3) rfl
      have eb1_4 := KB1.out.at_ (j := 4) rfl
      have eb1_5 := KB1.out.at_ (j := 5) rfl
      have eb1_6 := KB1.out.at_ (j := 6) rfl
      have eb1_7 := KB1.out.at_ (j := 7) rfl
      go_wp2_with fail
      go_ret
      exact ⟨by rw [HE.out]; rfl, HB.out⟩
  · have h_0 : (l1_3.all fun x => l0_3.any (mWithin x)) = false := by simpa using h_0
    have HE := Lib.hid (show mWider l0_3 l0_4 l1_3 l1_4 = true by first | (unfold mWider; simp only [h_0, Bool.not_true, Bool.not_false, Bool.true_and, Bool.false_and, Bool.and_true, Bool.and_false, Bool.true_or, Bool.false_or, Bool.or_true, Bool.or_false]) | simp [mWider, h_0])
    have D0 := Lib.hid (show (l1_3.all fun x => l0_3.any (mWithin x)) = false from h_0)
    clear h_0
    go_enter Try.func28, Try.ntmps28
    go_wp2_with fail
    refine Calls.mono (spec_IsWithinGrants l1_3 A1_3 n1_3 c1_3 lo1_3 hi1_3 l0_3 A0_3 n0_3 c0_3 lo0_3 hi0_3 _ h1_3 (R1_3.out.new HB.out) k1_3 b1_3 h0_3 (R0_3.out.new HB.out) k0_3 b0_3) ?_
    rw [D0.out]
    rintro e w1 ⟨rfl, hb⟩
    replace KB0 := Lib.hid (KB0.out.new hb)
    replace KB1 := Lib.hid (KB1.out.new hb)
    replace HB := Lib.hid (below_trans HB.out hb (Nat.le_refl _))
    clear hb
    have eb0_0 := KB0.out.at_ (j := 0) rfl
    have eb0_1 := KB0.out.at_ (j := 1) rfl
    have eb0_2 := KB0.out.at_ (j := 2) rfl
    have eb0_3 := KB0.out.at_ (j := 3) rfl
    have eb0_4 := KB0.out.at_ (j := 4) rfl
    have eb0_5 := KB0.out.at_ (j := 5) rfl
    have eb0_6 := KB0.out.at_ (j := 6) rfl
    have eb0_7 := KB0.out.at_ (j := 7) rfl
    have eb1_0 := KB1.out.at_ (j := 0) rfl
    have eb1_1 := KB1.out.at_ (j := 1) rfl
    have eb1_2 := KB1.out.at_ (j := 2) rfl
    have eb1_3 := KB1.out.at_ (j := 3) rfl
    have eb1_4 := KB1.out.at_ (j := 4) rfl
    have eb1_5 := KB1.out.at_ (j := 5) rfl
    have eb1_6 := KB1.out.at_ (j := 6) rfl
    have eb1_7 := KB1.out.at_ (j := 7) rfl
    go_wp2_with fail
    go_ret
    exact ⟨by rw [HE.out]; rfl, HB.out⟩

end Go.Proofs.Ythipflbjnnplaaa
