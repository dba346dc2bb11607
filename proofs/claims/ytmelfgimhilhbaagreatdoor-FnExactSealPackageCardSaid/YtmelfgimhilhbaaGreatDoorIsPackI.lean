/- IsPackage of the program. -/
import Derived.Test.YtmelfgimhilhbaaGreatDoorRPackage
import Derived.Test.YtmelfgimhilhbaaGreatDoorOwG
import Derived.Test.YtmelfgimhilhbaaGreatDoorOwF
import Derived.Test.YtmelfgimhilhbaaGreatDoorOwR
import Derived.Test.YtmelfgimhilhbaaGreatDoorAreOps2
import Derived.Test.YtmelfgimhilhbaaGreatDoorIn
namespace Go.Proofs.YtmelfgimhilhbaaGreatDoor
open Go Go.ChangeShapes Go.WideShapes Go.ChangeAt Go.RowKit Go.Lib
set_option linter.unusedVariables false
set_option linter.unusedSimpArgs false
set_option maxRecDepth 100000
def mIsPack (p0 p1 p2 : Int) (l3 : List TGrant) (l4 : List TFlow) (l5 : List TRule) (l6 : List TOp) : Bool :=
  inR p0 1 5 && inR p1 1 9 && inR p2 1 999 && mPkG l3 p0 && mPkF l4 p0 && mPkR l5 p0 && mAreOps l6

set_option maxHeartbeats 16000000 in
theorem impl_IsPackageC (p0_0 : Int) (p0_1 : Int) (p0_2 : Int) (l0_3 : List TGrant) (A0_3 : Option Addr) (n0_3 c0_3 lo0_3 hi0_3 : Nat) (l0_4 : List TFlow) (A0_4 : Option Addr) (n0_4 c0_4 lo0_4 hi0_4 : Nat) (l0_5 : List TRule) (A0_5 : Option Addr) (n0_5 c0_5 lo0_5 hi0_5 : Nat) (l0_6 : List TOp) (A0_6 : Option Addr) (n0_6 c0_6 lo0_6 hi0_6 : Nat) (p0_7 : Int) (w : World) (h0_3 : n0_3 ≤ 1048576) (r0_3 : Rd w lo0_3 hi0_3 7 A0_3 n0_3 (cGrant l0_3)) (k0_3 : n0_3 ≤ c0_3) (b0_3 : Hid (cGrantOk l0_3)) (h0_4 : n0_4 ≤ 1048576) (r0_4 : Rd w lo0_4 hi0_4 3 A0_4 n0_4 (cFlow l0_4)) (k0_4 : n0_4 ≤ c0_4) (b0_4 : Hid (cFlowOk l0_4)) (h0_5 : n0_5 ≤ 1048576) (r0_5 : Rd w lo0_5 hi0_5 8 A0_5 n0_5 (cRule l0_5)) (k0_5 : n0_5 ≤ c0_5) (b0_5 : Hid (cRuleOk l0_5)) (h0_6 : n0_6 ≤ 1048576) (r0_6 : Rd w lo0_6 hi0_6 4 A0_6 n0_6 (cOp l0_6)) (k0_6 : n0_6 ≤ c0_6) (b0_6 : Hid (cOpOk l0_6)) :
    Calls Tryz.prog 33 #[.agg #[.int .i64 p0_0, .int .i64 p0_1, .int .i64 p0_2, .slice A0_3 n0_3 c0_3, .slice A0_4 n0_4 c0_4, .slice A0_5 n0_5 c0_5, .slice A0_6 n0_6 c0_6, .int .i64 p0_7]] w (Says (.bool (mIsPack p0_0 p0_1 p0_2 l0_3 l0_4 l0_5 l0_6)) w) := by
  have R0_3 := Lib.hid r0_3
  clear r0_3
  have R0_4 := Lib.hid r0_4
  clear r0_4
  have R0_5 := Lib.hid r0_5
  clear r0_5
  have R0_6 := Lib.hid r0_6
  clear r0_6
  have KB0 := Lib.hid (show BoxAt (w.alloc (.cells #[.int .i64 p0_0, .int .i64 p0_1, .int .i64 p0_2, .slice A0_3 n0_3 c0_3, .slice A0_4 n0_4 c0_4, .slice A0_5 n0_5 c0_5, .slice A0_6 n0_6 c0_6, .int .i64 p0_7] 39)) w.heap.size 39 #[.int .i64 p0_0, .int .i64 p0_1, .int .i64 p0_2, .slice A0_3 n0_3 c0_3, .slice A0_4 n0_4 c0_4, .slice A0_5 n0_5 c0_5, .slice A0_6 n0_6 c0_6, .int .i64 p0_7] from (box_new _ _ _ : BoxAt (w.alloc (.cells #[.int .i64 p0_0, .int .i64 p0_1, .int .i64 p0_2, .slice A0_3 n0_3 c0_3, .slice A0_4 n0_4 c0_4, .slice A0_5 n0_5 c0_5, .slice A0_6 n0_6 c0_6, .int .i64 p0_7] 39)) w.heap.size 39 #[.int .i64 p0_0, .int .i64 p0_1, .int .i64 p0_2, .slice A0_3 n0_3 c0_3, .slice A0_4 n0_4 c0_4, .slice A0_5 n0_5 c0_5, .slice A0_6 n0_6 c0_6, .int .i64 p0_7]))
  have HB := Lib.hid (show Below w.heap.size w (w.alloc (.cells #[.int .i64 p0_0, .int .i64 p0_1, .int .i64 p0_2, .slice A0_3 n0_3 c0_3, .slice A0_4 n0_4 c0_4, .slice A0_5 n0_5 c0_5, .slice A0_6 n0_6 c0_6, .int .i64 p0_7] 39)) from (Below.refl _ _).alloc (by first | exact Nat.le_refl _ | (simp; done) | (simp; omega)) _)
  by_cases h_0 : (inR p0_0 1 5) = true
  · skip
    by_cases h_1 : (inR p0_1 1 9) = true
    · skip
      by_cases h_2 : (inR p0_2 1 999) = true
      · skip
        by_cases h_3 : (mPkG l0_3 p0_0) = true
        · skip
          by_cases h_4 : (mPkF l0_4 p0_0) = true
          · skip
            by_cases h_5 : (mPkR l0_5 p0_0) = true
            · skip
              by_cases h_6 : (mAreOps l0_6) = true
              · skip
                have HE := Lib.hid (show mIsPack p0_0 p0_1 p0_2 l0_3 l0_4 l0_5 l0_6 = true by first | (unfold mIsPack; simp only [h_0, h_1, h_2, h_3, h_4, h_5, h_6, Bool.not_true, Bool.not_false, Bool.true_and, Bool.false_and, Bool.and_true, Bool.and_false, Bool.true_or, Bool.false_or, Bool.or_true, Bool.or_false]) | simp [mIsPack, h_0, h_1, h_2, h_3, h_4, h_5, h_6])
                have D0 := Lib.hid (show (inR p0_0 1 5) = true from h_0)
                have D1 := Lib.hid (show (inR p0_1 1 9) = true from h_1)
                have D2 := Lib.hid (show (inR p0_2 1 999) = true from h_2)
                have D3 := Lib.hid (show (mPkG l0_3 p0_0) = true from h_3)
                have D4 := Lib.hid (show (mPkF l0_4 p0_0) = true from h_4)
                have D5 := Lib.hid (show (mPkR l0_5 p0_0) = true from h_5)
                have D6 := Lib.hid (show (mAreOps l0_6) = true from h_6)
                clear h_0 h_1 h_2 h_3 h_4 h_5 h_6
                go_enter Tryz.func33, Tryz.ntmps33
                go_wp2_with fail
                refine Calls.mono (impl_in _ _ _ _) ?_
                rw [D0.out]
                rintro e w1 ⟨rfl, rfl⟩
                go_wp2_with fail
                refine Calls.mono (impl_in _ _ _ _) ?_
                rw [D1.out]
                rintro e w1 ⟨rfl, rfl⟩
                go_wp2_with fail
                refine Calls.mono (impl_in _ _ _ _) ?_
                rw [D2.out]
                rintro e w1 ⟨rfl, rfl⟩
                go_wp2_with fail
                refine Calls.mono (impl_areOwnGrant l0_3 A0_3 n0_3 c0_3 lo0_3 hi0_3 p0_0 _ h0_3 (R0_3.out.new HB.out) k0_3) ?_
                rw [D3.out]
                rintro e w1 ⟨rfl, hb⟩
                replace KB0 := Lib.hid (KB0.out.new hb)
                replace HB := Lib.hid (below_trans HB.out hb (Nat.le_refl _))
                clear hb
                have eb0_0 := KB0.out.at_ (j := 0) rfl
                have eb0_1 := KB0.out.at_ (j := 1) rfl
                have eb0_2 := KB0.out.at_ (j := 2) rfl
                have eb0_3 := KB0.out.at_ (j := 3) rfl
                have eb0_4 := KB0.out.at_ (j := 4) rfl
                have eb0_5 := KB0.out.at_ (j := 5) rfl
                have eb0_6 := KB0.out.at_ (j := 6) rfl
                have eb0_7 := KB0.out.at_ (j := 7) rfl
                go_wp2_with fail
                clear eb0_0 eb0_1 eb0_2 eb0_3 eb0_4 eb0_5 eb0_6 eb0_7
                refine Calls.mono (impl_areOwnFlow l0_4 A0_4 n0_4 c0_4 lo0_4 hi0_4 p0_0 _ h0_4 (R0_4.out.new HB.out) k0_4) ?_
                rw [D4.out]
                rintro e w2 ⟨rfl, hb⟩
                replace KB0 := Lib.hid (KB0.out.new hb)
                replace HB := Lib.hid (below_trans HB.out hb (Nat.le_refl _))
                clear hb
                have eb0_0 := KB0.out.at_ (j := 0) rfl
                have eb0_1 := KB0.out.at_ (j := 1) rfl
                have eb0_2 := KB0.out.at_ (j := 2) rfl
                have eb0_3 := KB0.out.at_ (j := 3) rfl
                have eb0_4 := KB0.out.at_ (j := 4) rfl
                have eb0_5 := KB0.out.at_ (j := 5) rfl
                have eb0_6 := KB0.out.at_ (j := 6) rfl
                have eb0_7 := KB0.out.at_ (j := 7) rfl
                go_wp2_with fail
                clear eb0_0 eb0_1 eb0_2 eb0_3 eb0_4 eb0_5 eb0_6 eb0_7
                refine Calls.mono (impl_areOwnRule l0_5 A0_5 n0_5 c0_5 lo0_5 hi0_5 p0_0 _ h0_5 (R0_5.out.new HB.out) k0_5) ?_
                rw [D5.out]
                rintro e w3 ⟨rfl, hb⟩
                replace KB0 := Lib.hid (KB0.out.new hb)
                replace HB := Lib.hid (below_trans HB.out hb (Nat.le_refl _))
                clear hb
                have eb0_0 := KB0.out.at_ (j := 0) rfl
                have eb0_1 := KB0.out.at_ (j := 1) rfl
                have eb0_2 := KB0.out.at_ (j := 2) rfl
                have eb0_3 := KB0.out.at_ (j := 3) rfl
                have eb0_4 := KB0.out.at_ (j := 4) rfl
                have eb0_5 := KB0.out.at_ (j := 5) rfl
                have eb0_6 := KB0.out.at_ (j := 6) rfl
                have eb0_7 := KB0.out.at_ (j := 7) rfl
                go_wp2_with fail
                clear eb0_0 eb0_1 eb0_2 eb0_3 eb0_4 eb0_5 eb0_6 eb0_7
                refine Calls.mono (impl_AreOpsC l0_6 A0_6 n0_6 c0_6 lo0_6 hi0_6 _ h0_6 (R0_6.out.new HB.out) k0_6 b0_6) ?_
                rw [D6.out]
                rintro e w4 ⟨rfl, hb⟩
                replace KB0 := Lib.hid (KB0.out.new hb)
                replace HB := Lib.hid (below_trans HB.out hb (Nat.le_refl _))
                clear hb
                have eb0_0 := KB0.out.at_ (j := 0) rfl
                have eb0_1 := KB0.out.at_ (j := 1) rfl
                have eb0_2 := KB0.out.at_ (j := 2) rfl
                have eb0_3 := KB0.out.at_ (j := 3) rfl
                have eb0_4 := KB0.out.at_ (j := 4) rfl
                have eb0_5 := KB0.out.at_ (j := 5) rfl
                have eb0_6 := KB0.out.at_ (j := 6) rfl
                have eb0_7 := KB0.out.at_ (j := 7) rfl
                go_wp2_with fail
                go_ret
                exact ⟨by rw [HE.out]; rfl, HB.out⟩
              · have h_6 : (mAreOps l0_6) = false := by simpa using h_6
                have HE := Lib.hid (show mIsPack p0_0 p0_1 p0_2 l0_3 l0_4 l0_5 l0_6 = false by first | (unfold mIsPack; simp only [h_0, h_1, h_2, h_3, h_4, h_5, h_6, Bool.not_true, Bool.not_false, Bool.true_and, Bool.false_and, Bool.and_true, Bool.and_false, Bool.true_or, Bool.false_or, Bool.or_true, Bool.or_false]) | simp [mIsPack, h_0, h_1, h_2, h_3, h_4, h_5, h_6])
                have D0 := Lib.hid (show (inR p0_0 1 5) = true from h_0)
                have D1 := Lib.hid (show (inR p0_1 1 9) = true from h_1)
                have D2 := Lib.hid (show (inR p0_2 1 999) = true from h_2)
                have D3 := Lib.hid (show (mPkG l0_3 p0_0) = true from h_3)
                have D4 := Lib.hid (show (mPkF l0_4 p0_0) = true from h_4)
                have D5 := Lib.hid (show (mPkR l0_5 p0_0) = true from h_5)
                have D6 := Lib.hid (show (mAreOps l0_6) = false from h_6)
                clear h_0 h_1 h_2 h_3 h_4 h_5 h_6
                go_enter Tryz.func33, Tryz.ntmps33
                go_wp2_with fail
                refine Calls.mono (impl_in _ _ _ _) ?_
                rw [D0.out]
                rintro e w1 ⟨rfl, rfl⟩
                go_wp2_with fail
                refine Calls.mono (impl_in _ _ _ _) ?_
                rw [D1.out]
                rintro e w1 ⟨rfl, rfl⟩
                go_wp2_with fail
                refine Calls.mono (impl_in _ _ _ _) ?_
                rw [D2.out]
                rintro e w1 ⟨rfl, rfl⟩
                go_wp2_with fail
                refine Calls.mono (impl_areOwnGrant l0_3 A0_3 n0_3 c0_3 lo0_3 hi0_3 p0_0 _ h0_3 (R0_3.out.new HB.out) k0_3) ?_
                rw [D3.out]
                rintro e w1 ⟨rfl, hb⟩
                replace KB0 := Lib.hid (KB0.out.new hb)
                replace HB := Lib.hid (below_trans HB.out hb (Nat.le_refl _))
                clear hb
                have eb0_0 := KB0.out.at_ (j := 0) rfl
                have eb0_1 := KB0.out.at_ (j := 1) rfl
                have eb0_2 := KB0.out.at_ (j := 2) rfl
                have eb0_3 := KB0.out.at_ (j := 3) rfl
                have eb0_4 := KB0.out.at_ (j := 4) rfl
                have eb0_5 := KB0.out.at_ (j := 5) rfl
                have eb0_6 := KB0.out.at_ (j := 6) rfl
                have eb0_7 := KB0.out.at_ (j := 7) rfl
                go_wp2_with fail
                clear eb0_0 eb0_1 eb0_2 eb0_3 eb0_4 eb0_5 eb0_6 eb0_7
                refine Calls.mono (impl_areOwnFlow l0_4 A0_4 n0_4 c0_4 lo0_4 hi0_4 p0_0 _ h0_4 (R0_4.out.new HB.out) k0_4) ?_
                rw [D4.out]
                rintro e w2 ⟨rfl, hb⟩
                replace KB0 := Lib.hid (KB0.out.new hb)
                replace HB := Lib.hid (below_trans HB.out hb (Nat.le_refl _))
                clear hb
                have eb0_0 := KB0.out.at_ (j := 0) rfl
                have eb0_1 := KB0.out.at_ (j := 1) rfl
                have eb0_2 := KB0.out.at_ (j := 2) rfl
                have eb0_3 := KB0.out.at_ (j := 3) rfl
                have eb0_4 := KB0.out.at_ (j := 4) rfl
                have eb0_5 := KB0.out.at_ (j := 5) rfl
                have eb0_6 := KB0.out.at_ (j := 6) rfl
                have eb0_7 := KB0.out.at_ (j := 7) rfl
                go_wp2_with fail
                clear eb0_0 eb0_1 eb0_2 eb0_3 eb0_4 eb0_5 eb0_6 eb0_7
                refine Calls.mono (impl_areOwnRule l0_5 A0_5 n0_5 c0_5 lo0_5 hi0_5 p0_0 _ h0_5 (R0_5.out.new HB.out) k0_5) ?_
                rw [D5.out]
                rintro e w3 ⟨rfl, hb⟩
                replace KB0 := Lib.hid (KB0.out.new hb)
                replace HB := Lib.hid (below_trans HB.out hb (Nat.le_refl _))
                clear hb
                have eb0_0 := KB0.out.at_ (j := 0) rfl
                have eb0_1 := KB0.out.at_ (j := 1) rfl
                have eb0_2 := KB0.out.at_ (j := 2) rfl
                have eb0_3 := KB0.out.at_ (j := 3) rfl
                have eb0_4 := KB0.out.at_ (j := 4) rfl
                have eb0_5 := KB0.out.at_ (j := 5) rfl
                have eb0_6 := KB0.out.at_ (j := 6) rfl
                have eb0_7 := KB0.out.at_ (j := 7) rfl
                go_wp2_with fail
                clear eb0_0 eb0_1 eb0_2 eb0_3 eb0_4 eb0_5 eb0_6 eb0_7
                refine Calls.mono (impl_AreOpsC l0_6 A0_6 n0_6 c0_6 lo0_6 hi0_6 _ h0_6 (R0_6.out.new HB.out) k0_6 b0_6) ?_
                rw [D6.out]
                rintro e w4 ⟨rfl, hb⟩
                replace KB0 := Lib.hid (KB0.out.new hb)
                replace HB := Lib.hid (below_trans HB.out hb (Nat.le_refl _))
                clear hb
                have eb0_0 := KB0.out.at_ (j := 0) rfl
                have eb0_1 := KB0.out.at_ (j := 1) rfl
                have eb0_2 := KB0.out.at_ (j := 2) rfl
                have eb0_3 := KB0.out.at_ (j := 3) rfl
                have eb0_4 := KB0.out.at_ (j := 4) rfl
                have eb0_5 := KB0.out.at_ (j := 5) rfl
                have eb0_6 := KB0.out.at_ (j := 6) rfl
                have eb0_7 := KB0.out.at_ (j := 7) rfl
                go_wp2_with fail
                go_ret
                exact ⟨by rw [HE.out]; rfl, HB.out⟩
            · have h_5 : (mPkR l0_5 p0_0) = false := by simpa using h_5
              have HE := Lib.hid (show mIsPack p0_0 p0_1 p0_2 l0_3 l0_4 l0_5 l0_6 = false by first | (unfold mIsPack; simp only [h_0, h_1, h_2, h_3, h_4, h_5, Bool.not_true, Bool.not_false, Bool.true_and, Bool.false_and, Bool.and_true, Bool.and_false, Bool.true_or, Bool.false_or, Bool.or_true, Bool.or_false]) | simp [mIsPack, h_0, h_1, h_2, h_3, h_4, h_5])
              have D0 := Lib.hid (show (inR p0_0 1 5) = true from h_0)
              have D1 := Lib.hid (show (inR p0_1 1 9) = true from h_1)
              have D2 := Lib.hid (show (inR p0_2 1 999) = true from h_2)
              have D3 := Lib.hid (show (mPkG l0_3 p0_0) = true from h_3)
              have D4 := Lib.hid (show (mPkF l0_4 p0_0) = true from h_4)
              have D5 := Lib.hid (show (mPkR l0_5 p0_0) = false from h_5)
              clear h_0 h_1 h_2 h_3 h_4 h_5
              go_enter Tryz.func33, Tryz.ntmps33
              go_wp2_with fail
              refine Calls.mono (impl_in _ _ _ _) ?_
              rw [D0.out]
              rintro e w1 ⟨rfl, rfl⟩
              go_wp2_with fail
              refine Calls.mono (impl_in _ _ _ _) ?_
              rw [D1.out]
              rintro e w1 ⟨rfl, rfl⟩
              go_wp2_with fail
              refine Calls.mono (impl_in _ _ _ _) ?_
              rw [D2.out]
              rintro e w1 ⟨rfl, rfl⟩
              go_wp2_with fail
              refine Calls.mono (impl_areOwnGrant l0_3 A0_3 n0_3 c0_3 lo0_3 hi0_3 p0_0 _ h0_3 (R0_3.out.new HB.out) k0_3) ?_
              rw [D3.out]
              rintro e w1 ⟨rfl, hb⟩
              replace KB0 := Lib.hid (KB0.out.new hb)
              replace HB := Lib.hid (below_trans HB.out hb (Nat.le_refl _))
              clear hb
              have eb0_0 := KB0.out.at_ (j := 0) rfl
              have eb0_1 := KB0.out.at_ (j := 1) rfl
              have eb0_2 := KB0.out.at_ (j := 2) rfl
              have eb0_3 := KB0.out.at_ (j := 3) rfl
              have eb0_4 := KB0.out.at_ (j := 4) rfl
              have eb0_5 := KB0.out.at_ (j := 5) rfl
              have eb0_6 := KB0.out.at_ (j := 6) rfl
              have eb0_7 := KB0.out.at_ (j := 7) rfl
              go_wp2_with fail
              clear eb0_0 eb0_1 eb0_2 eb0_3 eb0_4 eb0_5 eb0_6 eb0_7
              refine Calls.mono (impl_areOwnFlow l0_4 A0_4 n0_4 c0_4 lo0_4 hi0_4 p0_0 _ h0_4 (R0_4.out.new HB.out) k0_4) ?_
              rw [D4.out]
              rintro e w2 ⟨rfl, hb⟩
              replace KB0 := Lib.hid (KB0.out.new hb)
              replace HB := Lib.hid (below_trans HB.out hb (Nat.le_refl _))
              clear hb
              have eb0_0 := KB0.out.at_ (j := 0) rfl
              have eb0_1 := KB0.out.at_ (j := 1) rfl
              have eb0_2 := KB0.out.at_ (j := 2) rfl
              have eb0_3 := KB0.out.at_ (j := 3) rfl
              have eb0_4 := KB0.out.at_ (j := 4) rfl
              have eb0_5 := KB0.out.at_ (j := 5) rfl
              have eb0_6 := KB0.out.at_ (j := 6) rfl
              have eb0_7 := KB0.out.at_ (j := 7) rfl
              go_wp2_with fail
              clear eb0_0 eb0_1 eb0_2 eb0_3 eb0_4 eb0_5 eb0_6 eb0_7
              refine Calls.mono (impl_areOwnRule l0_5 A0_5 n0_5 c0_5 lo0_5 hi0_5 p0_0 _ h0_5 (R0_5.out.new HB.out) k0_5) ?_
              rw [D5.out]
              rintro e w3 ⟨rfl, hb⟩
              replace KB0 := Lib.hid (KB0.out.new hb)
              replace HB := Lib.hid (below_trans HB.out hb (Nat.le_refl _))
              clear hb
              have eb0_0 := KB0.out.at_ (j := 0) rfl
              have eb0_1 := KB0.out.at_ (j := 1) rfl
              have eb0_2 := KB0.out.at_ (j := 2) rfl
              have eb0_3 := KB0.out.at_ (j := 3) rfl
              have eb0_4 := KB0.out.at_ (j := 4) rfl
              have eb0_5 := KB0.out.at_ (j := 5) rfl
              have eb0_6 := KB0.out.at_ (j := 6) rfl
              have eb0_7 := KB0.out.at_ (j := 7) rfl
              go_wp2_with fail
              go_ret
              exact ⟨by rw [HE.out]; rfl, HB.out⟩
          · have h_4 : (mPkF l0_4 p0_0) = false := by simpa using h_4
            have HE := Lib.hid (show mIsPack p0_0 p0_1 p0_2 l0_3 l0_4 l0_5 l0_6 = false by first | (unfold mIsPack; simp only [h_0, h_1, h_2, h_3, h_4, Bool.not_true, Bool.not_false, Bool.true_and, Bool.false_and, Bool.and_true, Bool.and_false, Bool.true_or, Bool.false_or, Bool.or_true, Bool.or_false]) | simp [mIsPack, h_0, h_1, h_2, h_3, h_4])
            have D0 := Lib.hid (show (inR p0_0 1 5) = true from h_0)
            have D1 := Lib.hid (show (inR p0_1 1 9) = true from h_1)
            have D2 := Lib.hid (show (inR p0_2 1 999) = true from h_2)
            have D3 := Lib.hid (show (mPkG l0_3 p0_0) = true from h_3)
            have D4 := Lib.hid (show (mPkF l0_4 p0_0) = false from h_4)
            clear h_0 h_1 h_2 h_3 h_4
            go_enter Tryz.func33, Tryz.ntmps33
            go_wp2_with fail
            refine Calls.mono (impl_in _ _ _ _) ?_
            rw [D0.out]
            rintro e w1 ⟨rfl, rfl⟩
            go_wp2_with fail
            refine Calls.mono (impl_in _ _ _ _) ?_
            rw [D1.out]
            rintro e w1 ⟨rfl, rfl⟩
            go_wp2_with fail
            refine Calls.mono (impl_in _ _ _ _) ?_
            rw [D2.out]
            rintro e w1 ⟨rfl, rfl⟩
            go_wp2_with fail
            refine Calls.mono (impl_areOwnGrant l0_3 A0_3 n0_3 c0_3 lo0_3 hi0_3 p0_0 _ h0_3 (R0_3.out.new HB.out) k0_3) ?_
            rw [D3.out]
            rintro e w1 ⟨rfl, hb⟩
            replace KB0 := Lib.hid (KB0.out.new hb)
            replace HB := Lib.hid (below_trans HB.out hb (Nat.le_refl _))
            clear hb
            have eb0_0 := KB0.out.at_ (j := 0) rfl
            have eb0_1 := KB0.out.at_ (j := 1) rfl
            have eb0_2 := KB0.out.at_ (j := 2) rfl
            have eb0_3 := KB0.out.at_ (j := 3) rfl
            have eb0_4 := KB0.out.at_ (j := 4) rfl
            have eb0_5 := KB0.out.at_ (j := 5) rfl
            have eb0_6 := KB0.out.at_ (j := 6) rfl
            have eb0_7 := KB0.out.at_ (j := 7) rfl
            go_wp2_with fail
            clear eb0_0 eb0_1 eb0_2 eb0_3 eb0_4 eb0_5 eb0_6 eb0_7
            refine Calls.mono (impl_areOwnFlow l0_4 A0_4 n0_4 c0_4 lo0_4 hi0_4 p0_0 _ h0_4 (R0_4.out.new HB.out) k0_4) ?_
            rw [D4.out]
            rintro e w2 ⟨rfl, hb⟩
            replace KB0 := Lib.hid (KB0.out.new hb)
            replace HB := Lib.hid (below_trans HB.out hb (Nat.le_refl _))
            clear hb
            have eb0_0 := KB0.out.at_ (j := 0) rfl
            have eb0_1 := KB0.out.at_ (j := 1) rfl
            have eb0_2 := KB0.out.at_ (j := 2) rfl
            have eb0_3 := KB0.out.at_ (j := 3) rfl
            have eb0_4 := KB0.out.at_ (j := 4) rfl
            have eb0_5 := KB0.out.at_ (j := 5) rfl
            have eb0_6 := KB0.out.at_ (j := 6) rfl
            have eb0_7 := KB0.out.at_ (j := 7) rfl
            go_wp2_with fail
            go_ret
            exact ⟨by rw [HE.out]; rfl, HB.out⟩
        · have h_3 : (mPkG l0_3 p0_0) = false := by simpa using h_3
          have HE := Lib.hid (show mIsPack p0_0 p0_1 p0_2 l0_3 l0_4 l0_5 l0_6 = false by first | (unfold mIsPack; simp only [h_0, h_1, h_2, h_3, Bool.not_true, Bool.not_false, Bool.true_and, Bool.false_and, Bool.and_true, Bool.and_false, Bool.true_or, Bool.false_or, Bool.or_true, Bool.or_false]) | simp [mIsPack, h_0, h_1, h_2, h_3])
          have D0 := Lib.hid (show (inR p0_0 1 5) = true from h_0)
          have D1 := Lib.hid (show (inR p0_1 1 9) = true from h_1)
          have D2 := Lib.hid (show (inR p0_2 1 999) = true from h_2)
          have D3 := Lib.hid (show (mPkG l0_3 p0_0) = false from h_3)
          clear h_0 h_1 h_2 h_3
          go_enter Tryz.func33, Tryz.ntmps33
          go_wp2_with fail
          refine Calls.mono (impl_in _ _ _ _) ?_
          rw [D0.out]
          rintro e w1 ⟨rfl, rfl⟩
          go_wp2_with fail
          refine Calls.mono (impl_in _ _ _ _) ?_
          rw [D1.out]
          rintro e w1 ⟨rfl, rfl⟩
          go_wp2_with fail
          refine Calls.mono (impl_in _ _ _ _) ?_
          rw [D2.out]
          rintro e w1 ⟨rfl, rfl⟩
          go_wp2_with fail
          refine Calls.mono (impl_areOwnGrant l0_3 A0_3 n0_3 c0_3 lo0_3 hi0_3 p0_0 _ h0_3 (R0_3.out.new HB.out) k0_3) ?_
          rw [D3.out]
          rintro e w1 ⟨rfl, hb⟩
          replace KB0 := Lib.hid (KB0.out.new hb)
          replace HB := Lib.hid (below_trans HB.out hb (Nat.le_refl _))
          clear hb
          have eb0_0 := KB0.out.at_ (j := 0) rfl
          have eb0_1 := KB0.out.at_ (j := 1) rfl
          have eb0_2 := KB0.out.at_ (j := 2) rfl
          have eb0_3 := KB0.out.at_ (j := 3) rfl
          have eb0_4 := KB0.out.at_ (j := 4) rfl
          have eb0_5 := KB0.out.at_ (j := 5) rfl
          have eb0_6 := KB0.out.at_ (j := 6) rfl
          have eb0_7 := KB0.out.at_ (j := 7) rfl
          go_wp2_with fail
          go_ret
          exact ⟨by rw [HE.out]; rfl, HB.out⟩
      · have h_2 : (inR p0_2 1 999) = false := by simpa using h_2
        have HE := Lib.hid (show mIsPack p0_0 p0_1 p0_2 l0_3 l0_4 l0_5 l0_6 = false by first | (unfold mIsPack; simp only [h_0, h_1, h_2, Bool.not_true, Bool.not_false, Bool.true_and, Bool.false_and, Bool.and_true, Bool.and_false, Bool.true_or, Bool.false_or, Bool.or_true, Bool.or_false]) | simp [mIsPack, h_0, h_1, h_2])
        have D0 := Lib.hid (show (inR p0_0 1 5) = true from h_0)
        have D1 := Lib.hid (show (inR p0_1 1 9) = true from h_1)
        have D2 := Lib.hid (show (inR p0_2 1 999) = false from h_2)
        clear h_0 h_1 h_2
        go_enter Tryz.func33, Tryz.ntmps33
        go_wp2_with fail
        refine Calls.mono (impl_in _ _ _ _) ?_
        rw [D0.out]
        rintro e w1 ⟨rfl, rfl⟩
        go_wp2_with fail
        refine Calls.mono (impl_in _ _ _ _) ?_
        rw [D1.out]
        rintro e w1 ⟨rfl, rfl⟩
        go_wp2_with fail
        refine Calls.mono (impl_in _ _ _ _) ?_
        rw [D2.out]
        rintro e w1 ⟨rfl, rfl⟩
        go_wp2_with fail
        go_ret
        exact ⟨by rw [HE.out]; rfl, HB.out⟩
    · have h_1 : (inR p0_1 1 9) = false := by simpa using h_1
      have HE := Lib.hid (show mIsPack p0_0 p0_1 p0_2 l0_3 l0_4 l0_5 l0_6 = false by first | (unfold mIsPack; simp only [h_0, h_1, Bool.not_true, Bool.not_false, Bool.true_and, Bool.false_and, Bool.and_true, Bool.and_false, Bool.true_or, Bool.false_or, Bool.or_true, Bool.or_false]) | simp [mIsPack, h_0, h_1])
      have D0 := Lib.hid (show (inR p0_0 1 5) = true from h_0)
      have D1 := Lib.hid (show (inR p0_1 1 9) = false from h_1)
      clear h_0 h_1
      go_enter Tryz.func33, Tryz.ntmps33
      go_wp2_with fail
      refine Calls.mono (impl_in _ _ _ _) ?_
      rw [D0.out]
      rintro e w1 ⟨rfl, rfl⟩
      go_wp2_with fail
      refine Calls.mono (impl_in _ _ _ _) ?_
      rw [D1.out]
      rintro e w1 ⟨rfl, rfl⟩
      go_wp2_with fail
      go_ret
      exact ⟨by rw [HE.out]; rfl, HB.out⟩
  · have h_0 : (inR p0_0 1 5) = false := by simpa using h_0
    have HE := Lib.hid (show mIsPack p0_0 p0_1 p0_2 l0_3 l0_4 l0_5 l0_6 = false by first | (unfold mIsPack; simp only [h_0, Bool.not_true, Bool.not_false, Bool.true_and, Bool.false_and, Bool.and_true, Bool.and_false, Bool.true_or, Bool.false_or, Bool.or_true, Bool.or_false]) | simp [mIsPack, h_0])
    have D0 := Lib.hid (show (inR p0_0 1 5) = false from h_0)
    clear h_0
    go_enter Tryz.func33, Tryz.ntmps33
    go_wp2_with fail
    refine Calls.mono (impl_in _ _ _ _) ?_
    rw [D0.out]
    rintro e w1 ⟨rfl, rfl⟩
    go_wp2_with fail
    go_ret
    exact ⟨by rw [HE.out]; rfl, HB.out⟩

end Go.Proofs.YtmelfgimhilhbaaGreatDoor
