/- Crb, what is needed of it. -/
import Derived.Test.YtkedacmpmancbaaGreatDoorVRc
import Derived.Test.YtkedacmpmancbaaGreatDoorVTz
namespace Go.Proofs.YtkedacmpmancbaaGreatDoor
open Go Go.ChangeShapes Go.WideShapes Go.ChangeAt Go.RowKit Go.Lib
set_option linter.unusedVariables false
set_option linter.unusedSimpArgs false
set_option maxRecDepth 100000
def mCrb (a0 p0_0 p0_1 p0_2 : Int) (l0_3 : List TGrant) (l0_4 : List TFlow) (l0_5 : List TRule) (l0_6 : List TOp) (p0_7 p1_0 p1_1 p1_2 : Int) (l1_3 : List TGrant) (l1_4 : List TFlow) (l1_5 : List TRule) (l1_6 : List TOp) : Bool :=
 decide (mRev a0 p0_0 p0_1 p0_2 l0_3 l0_4 l0_5 l0_6 p0_7 = 0) && mIsPack p1_0 p1_1 p1_2 l1_3 l1_4 l1_5 l1_6 && decide (p1_0 = p0_0) && decide (p0_2 < p1_2)
set_option maxHeartbeats 16000000 in
theorem impl_CanRollBackC (a0 : Int) (p0_0 p0_1 p0_2 : Int) (l0_3 : List TGrant) (A0_3 : Option Addr) (n0_3 c0_3 lo0_3 hi0_3 : Nat) (l0_4 : List TFlow) (A0_4 : Option Addr) (n0_4 c0_4 lo0_4 hi0_4 : Nat) (l0_5 : List TRule) (A0_5 : Option Addr) (n0_5 c0_5 lo0_5 hi0_5 : Nat) (l0_6 : List TOp) (A0_6 : Option Addr) (n0_6 c0_6 lo0_6 hi0_6 : Nat) (p0_7 : Int) (l0_8 : List TStored) (A0_8 : Option Addr) (n0_8 c0_8 lo0_8 hi0_8 : Nat) (p1_0 p1_1 p1_2 : Int) (l1_3 : List TGrant) (A1_3 : Option Addr) (n1_3 c1_3 lo1_3 hi1_3 : Nat) (l1_4 : List TFlow) (A1_4 : Option Addr) (n1_4 c1_4 lo1_4 hi1_4 : Nat) (l1_5 : List TRule) (A1_5 : Option Addr) (n1_5 c1_5 lo1_5 hi1_5 : Nat) (l1_6 : List TOp) (A1_6 : Option Addr) (n1_6 c1_6 lo1_6 hi1_6 : Nat) (p1_7 : Int) (w : World) (hT : Pow10 w) (wf0 : (Lit.int .i64 a0).wf = true) (h0_3 : n0_3 ≤ 1048576) (r0_3 : Rd w lo0_3 hi0_3 7 A0_3 n0_3 (cGrant l0_3)) (k0_3 : n0_3 ≤ c0_3) (b0_3 : Hid (cGrantOk l0_3)) (h0_4 : n0_4 ≤ 1048576) (r0_4 : Rd w lo0_4 hi0_4 3 A0_4 n0_4 (cFlow l0_4)) (k0_4 : n0_4 ≤ c0_4) (b0_4 : Hid (cFlowOk l0_4)) (h0_5 : n0_5 ≤ 1048576) (r0_5 : Rd w lo0_5 hi0_5 8 A0_5 n0_5 (cRule l0_5)) (k0_5 : n0_5 ≤ c0_5) (b0_5 : Hid (cRuleOk l0_5)) (h0_6 : n0_6 ≤ 1048576) (r0_6 : Rd w lo0_6 hi0_6 4 A0_6 n0_6 (cOp l0_6)) (k0_6 : n0_6 ≤ c0_6) (b0_6 : Hid (cOpOk l0_6)) (h0_8 : n0_8 ≤ 1048576) (r0_8 : Rd w lo0_8 hi0_8 4 A0_8 n0_8 (cStored l0_8)) (k0_8 : n0_8 ≤ c0_8) (b0_8 : Hid (cStoredOk l0_8)) (h1_3 : n1_3 ≤ 1048576) (r1_3 : Rd w lo1_3 hi1_3 7 A1_3 n1_3 (cGrant l1_3)) (k1_3 : n1_3 ≤ c1_3) (b1_3 : Hid (cGrantOk l1_3)) (h1_4 : n1_4 ≤ 1048576) (r1_4 : Rd w lo1_4 hi1_4 3 A1_4 n1_4 (cFlow l1_4)) (k1_4 : n1_4 ≤ c1_4) (b1_4 : Hid (cFlowOk l1_4)) (h1_5 : n1_5 ≤ 1048576) (r1_5 : Rd w lo1_5 hi1_5 8 A1_5 n1_5 (cRule l1_5)) (k1_5 : n1_5 ≤ c1_5) (b1_5 : Hid (cRuleOk l1_5)) (h1_6 : n1_6 ≤ 1048576) (r1_6 : Rd w lo1_6 hi1_6 4 A1_6 n1_6 (cOp l1_6)) (k1_6 : n1_6 ≤ c1_6) (b1_6 : Hid (cOpOk l1_6)) :
 Calls Tryz.prog 15 #[.int .i64 a0, .agg #[.int .i64 p0_0, .int .i64 p0_1, .int .i64 p0_2, .slice A0_3 n0_3 c0_3, .slice A0_4 n0_4 c0_4, .slice A0_5 n0_5 c0_5, .slice A0_6 n0_6 c0_6, .int .i64 p0_7, .slice A0_8 n0_8 c0_8], .agg #[.int .i64 p1_0, .int .i64 p1_1, .int .i64 p1_2, .slice A1_3 n1_3 c1_3, .slice A1_4 n1_4 c1_4, .slice A1_5 n1_5 c1_5, .slice A1_6 n1_6 c1_6, .int .i64 p1_7]] w (Says (.bool (mCrb a0 p0_0 p0_1 p0_2 l0_3 l0_4 l0_5 l0_6 p0_7 p1_0 p1_1 p1_2 l1_3 l1_4 l1_5 l1_6)) w) := by
 have CR := Lib.hid (fun W (hb : Below w.heap.size w W) => impl_ReviewPackageC a0 p0_0 p0_1 p0_2 l0_3 A0_3 n0_3 c0_3 lo0_3 hi0_3 l0_4 A0_4 n0_4 c0_4 lo0_4 hi0_4 l0_5 A0_5 n0_5 c0_5 lo0_5 hi0_5 l0_6 A0_6 n0_6 c0_6 lo0_6 hi0_6 p0_7 W (pow10_below hT hb) wf0 h0_3 (r0_3.new hb) k0_3 b0_3 h0_4 (r0_4.new hb) k0_4 b0_4 h0_5 (r0_5.new hb) k0_5 b0_5 h0_6 (r0_6.new hb) k0_6 b0_6)
 have CP := Lib.hid (fun W (hb : Below w.heap.size w W) => impl_IsPackageC p1_0 p1_1 p1_2 l1_3 A1_3 n1_3 c1_3 lo1_3 hi1_3 l1_4 A1_4 n1_4 c1_4 lo1_4 hi1_4 l1_5 A1_5 n1_5 c1_5 lo1_5 hi1_5 l1_6 A1_6 n1_6 c1_6 lo1_6 hi1_6 p1_7 W h1_3 (r1_3.new hb) k1_3 b1_3 h1_4 (r1_4.new hb) k1_4 b1_4 h1_5 (r1_5.new hb) k1_5 b1_5 h1_6 (r1_6.new hb) k1_6 b1_6)
 have HR := Lib.hid (show mCrb a0 p0_0 p0_1 p0_2 l0_3 l0_4 l0_5 l0_6 p0_7 p1_0 p1_1 p1_2 l1_3 l1_4 l1_5 l1_6 = (decide (mRev a0 p0_0 p0_1 p0_2 l0_3 l0_4 l0_5 l0_6 p0_7 = 0) && mIsPack p1_0 p1_1 p1_2 l1_3 l1_4 l1_5 l1_6 && decide (p1_0 = p0_0) && decide (p0_2 < p1_2)) from rfl)
 generalize mCrb a0 p0_0 p0_1 p0_2 l0_3 l0_4 l0_5 l0_6 p0_7 p1_0 p1_1 p1_2 l1_3 l1_4 l1_5 l1_6 = R at HR ⊢
 generalize mIsPack p1_0 p1_1 p1_2 l1_3 l1_4 l1_5 l1_6 = q1 at CP HR
 generalize mRev a0 p0_0 p0_1 p0_2 l0_3 l0_4 l0_5 l0_6 p0_7 = q2 at CR HR
 clear r0_3 b0_3
 clear r0_4 b0_4
 clear r0_5 b0_5
 clear r0_6 b0_6
 clear r0_8 b0_8
 clear r1_3 b1_3
 clear r1_4 b1_4
 clear r1_5 b1_5
 clear r1_6 b1_6
 clear hT wf0
 have K0 := Lib.hid ((box_new w 46 #[.int .i64 p0_0, .int .i64 p0_1, .int .i64 p0_2, .slice A0_3 n0_3 c0_3, .slice A0_4 n0_4 c0_4, .slice A0_5 n0_5 c0_5, .slice A0_6 n0_6 c0_6, .int .i64 p0_7, .slice A0_8 n0_8 c0_8]).alloc_ (.cells #[.int .i64 p1_0, .int .i64 p1_1, .int .i64 p1_2, .slice A1_3 n1_3 c1_3, .slice A1_4 n1_4 c1_4, .slice A1_5 n1_5 c1_5, .slice A1_6 n1_6 c1_6, .int .i64 p1_7] 35))
 have K1 := Lib.hid (show BoxAt ((w.alloc (.cells #[.int .i64 p0_0, .int .i64 p0_1, .int .i64 p0_2, .slice A0_3 n0_3 c0_3, .slice A0_4 n0_4 c0_4, .slice A0_5 n0_5 c0_5, .slice A0_6 n0_6 c0_6, .int .i64 p0_7, .slice A0_8 n0_8 c0_8] 46)).alloc (.cells #[.int .i64 p1_0, .int .i64 p1_1, .int .i64 p1_2, .slice A1_3 n1_3 c1_3, .slice A1_4 n1_4 c1_4, .slice A1_5 n1_5 c1_5, .slice A1_6 n1_6 c1_6, .int .i64 p1_7] 35)) (w.heap.size + 1) 35 #[.int .i64 p1_0, .int .i64 p1_1, .int .i64 p1_2, .slice A1_3 n1_3 c1_3, .slice A1_4 n1_4 c1_4, .slice A1_5 n1_5 c1_5, .slice A1_6 n1_6 c1_6, .int .i64 p1_7] from by simpa using box_new (w.alloc (.cells #[.int .i64 p0_0, .int .i64 p0_1, .int .i64 p0_2, .slice A0_3 n0_3 c0_3, .slice A0_4 n0_4 c0_4, .slice A0_5 n0_5 c0_5, .slice A0_6 n0_6 c0_6, .int .i64 p0_7, .slice A0_8 n0_8 c0_8] 46)) 35 #[.int .i64 p1_0, .int .i64 p1_1, .int .i64 p1_2, .slice A1_3 n1_3 c1_3, .slice A1_4 n1_4 c1_4, .slice A1_5 n1_5 c1_5, .slice A1_6 n1_6 c1_6, .int .i64 p1_7])
 have HB := Lib.hid (((Below.refl w.heap.size w).alloc (Nat.le_refl _) (.cells #[.int .i64 p0_0, .int .i64 p0_1, .int .i64 p0_2, .slice A0_3 n0_3 c0_3, .slice A0_4 n0_4 c0_4, .slice A0_5 n0_5 c0_5, .slice A0_6 n0_6 c0_6, .int .i64 p0_7, .slice A0_8 n0_8 c0_8] 46)).alloc (by simp) (.cells #[.int .i64 p1_0, .int .i64 p1_1, .int .i64 p1_2, .slice A1_3 n1_3 c1_3, .slice A1_4 n1_4 c1_4, .slice A1_5 n1_5 c1_5, .slice A1_6 n1_6 c1_6, .int .i64 p1_7] 35))
 go_enter Tryz.func15, Tryz.ntmps15
 obtain ⟨k0_, k1_, k2_, k3_, k4_, k5_, k6_, k7_⟩ := K0.out.p8
 go_wp2_with fail
 clear k0_ k1_ k2_ k3_ k4_ k5_ k6_ k7_
 refine (CR.out _ HB.out).mono ?_
 rintro e w1 ⟨rfl, hb⟩
 replace K0 := Lib.hid (K0.out.new hb)
 replace K1 := Lib.hid (K1.out.new hb)
 replace HB := Lib.hid (below_trans HB.out hb (Nat.le_refl _))
 clear hb
 clear CR
 by_cases e2 : q2 = 0
 ·
  subst e2
  obtain ⟨k10_, k11_, k12_, k13_, k14_, k15_, k16_, k17_⟩ := K1.out.p8
  go_wp2_with fail
  clear k10_ k11_ k12_ k13_ k14_ k15_ k16_ k17_
  refine (CP.out _ HB.out).mono ?_
  rintro e w2 ⟨rfl, hb⟩
  replace K0 := Lib.hid (K0.out.new hb)
  replace K1 := Lib.hid (K1.out.new hb)
  replace HB := Lib.hid (below_trans HB.out hb (Nat.le_refl _))
  clear hb
  clear CP
  cases q1 with
  | false =>
   have HE := Lib.hid (show R = false by rw [HR.out]; simp [])
   clear HR
   go_wp2_with fail
   go_ret
   exact ⟨by rw [HE.out]; first | rfl | simp [*], HB.out⟩
  | true =>
   by_cases e3 : p1_0 = p0_0
   ·
    subst e3
    by_cases e4 : p0_2 < p1_2
    ·
     have HE := Lib.hid (show R = true by rw [HR.out]; simp [e4])
     clear HR
     obtain ⟨k0_, k1_, k2_⟩ := K0.out.p3
     obtain ⟨k10_, k11_, k12_⟩ := K1.out.p3
     go_wp2_with fail
     go_ret
     exact ⟨by rw [HE.out]; first | rfl | simp [*], HB.out⟩
    ·
     have HE := Lib.hid (show R = false by rw [HR.out]; simp [e4])
     clear HR
     obtain ⟨k0_, k1_, k2_⟩ := K0.out.p3
     obtain ⟨k10_, k11_, k12_⟩ := K1.out.p3
     go_wp2_with fail
     go_ret
     exact ⟨by rw [HE.out]; first | rfl | simp [*], HB.out⟩
   ·
    have e3' : ¬ p0_0 = p1_0 := fun h => e3 h.symm
    have HE := Lib.hid (show R = false by rw [HR.out]; simp [e3])
    clear HR
    obtain ⟨k0_, k1_, k2_⟩ := K0.out.p3
    obtain ⟨k10_, k11_, k12_⟩ := K1.out.p3
    go_wp2_with fail
    go_ret
    exact ⟨by rw [HE.out]; first | rfl | simp [*], HB.out⟩
 ·
  have HE := Lib.hid (show R = false by rw [HR.out]; simp [e2])
  clear HR
  clear CP
  go_wp2_with fail
  go_ret
  exact ⟨by rw [HE.out]; first | rfl | simp [*], HB.out⟩
set_option maxHeartbeats 16000000 in
theorem spec_CanRollBack (a0 : Int) (p0_0 p0_1 p0_2 : Int) (l0_3 : List TGrant) (A0_3 : Option Addr) (n0_3 c0_3 lo0_3 hi0_3 : Nat) (l0_4 : List TFlow) (A0_4 : Option Addr) (n0_4 c0_4 lo0_4 hi0_4 : Nat) (l0_5 : List TRule) (A0_5 : Option Addr) (n0_5 c0_5 lo0_5 hi0_5 : Nat) (l0_6 : List TOp) (A0_6 : Option Addr) (n0_6 c0_6 lo0_6 hi0_6 : Nat) (p0_7 : Int) (l0_8 : List TStored) (A0_8 : Option Addr) (n0_8 c0_8 lo0_8 hi0_8 : Nat) (p1_0 p1_1 p1_2 : Int) (l1_3 : List TGrant) (A1_3 : Option Addr) (n1_3 c1_3 lo1_3 hi1_3 : Nat) (l1_4 : List TFlow) (A1_4 : Option Addr) (n1_4 c1_4 lo1_4 hi1_4 : Nat) (l1_5 : List TRule) (A1_5 : Option Addr) (n1_5 c1_5 lo1_5 hi1_5 : Nat) (l1_6 : List TOp) (A1_6 : Option Addr) (n1_6 c1_6 lo1_6 hi1_6 : Nat) (p1_7 : Int) (w : World) (hT : Pow10 w) (wf0 : (Lit.int .i64 a0).wf = true) (h0_3 : n0_3 ≤ 1048576) (r0_3 : Rd w lo0_3 hi0_3 7 A0_3 n0_3 (cGrant l0_3)) (k0_3 : n0_3 ≤ c0_3) (b0_3 : Hid (cGrantOk l0_3)) (h0_4 : n0_4 ≤ 1048576) (r0_4 : Rd w lo0_4 hi0_4 3 A0_4 n0_4 (cFlow l0_4)) (k0_4 : n0_4 ≤ c0_4) (b0_4 : Hid (cFlowOk l0_4)) (h0_5 : n0_5 ≤ 1048576) (r0_5 : Rd w lo0_5 hi0_5 8 A0_5 n0_5 (cRule l0_5)) (k0_5 : n0_5 ≤ c0_5) (b0_5 : Hid (cRuleOk l0_5)) (h0_6 : n0_6 ≤ 1048576) (r0_6 : Rd w lo0_6 hi0_6 4 A0_6 n0_6 (cOp l0_6)) (k0_6 : n0_6 ≤ c0_6) (b0_6 : Hid (cOpOk l0_6)) (h0_8 : n0_8 ≤ 1048576) (r0_8 : Rd w lo0_8 hi0_8 4 A0_8 n0_8 (cStored l0_8)) (k0_8 : n0_8 ≤ c0_8) (b0_8 : Hid (cStoredOk l0_8)) (h1_3 : n1_3 ≤ 1048576) (r1_3 : Rd w lo1_3 hi1_3 7 A1_3 n1_3 (cGrant l1_3)) (k1_3 : n1_3 ≤ c1_3) (b1_3 : Hid (cGrantOk l1_3)) (h1_4 : n1_4 ≤ 1048576) (r1_4 : Rd w lo1_4 hi1_4 3 A1_4 n1_4 (cFlow l1_4)) (k1_4 : n1_4 ≤ c1_4) (b1_4 : Hid (cFlowOk l1_4)) (h1_5 : n1_5 ≤ 1048576) (r1_5 : Rd w lo1_5 hi1_5 8 A1_5 n1_5 (cRule l1_5)) (k1_5 : n1_5 ≤ c1_5) (b1_5 : Hid (cRuleOk l1_5)) (h1_6 : n1_6 ≤ 1048576) (r1_6 : Rd w lo1_6 hi1_6 4 A1_6 n1_6 (cOp l1_6)) (k1_6 : n1_6 ≤ c1_6) (b1_6 : Hid (cOpOk l1_6)) :
 Calls Tryz.prog 13 #[.int .i64 a0, .agg #[.int .i64 p0_0, .int .i64 p0_1, .int .i64 p0_2, .slice A0_3 n0_3 c0_3, .slice A0_4 n0_4 c0_4, .slice A0_5 n0_5 c0_5, .slice A0_6 n0_6 c0_6, .int .i64 p0_7, .slice A0_8 n0_8 c0_8], .agg #[.int .i64 p1_0, .int .i64 p1_1, .int .i64 p1_2, .slice A1_3 n1_3 c1_3, .slice A1_4 n1_4 c1_4, .slice A1_5 n1_5 c1_5, .slice A1_6 n1_6 c1_6, .int .i64 p1_7]] w (Says (.bool (mCrb a0 p0_0 p0_1 p0_2 l0_3 l0_4 l0_5 l0_6 p0_7 p1_0 p1_1 p1_2 l1_3 l1_4 l1_5 l1_6)) w) := by
 have CR := Lib.hid (fun W (hb : Below w.heap.size w W) => spec_ReviewPackage a0 p0_0 p0_1 p0_2 l0_3 A0_3 n0_3 c0_3 lo0_3 hi0_3 l0_4 A0_4 n0_4 c0_4 lo0_4 hi0_4 l0_5 A0_5 n0_5 c0_5 lo0_5 hi0_5 l0_6 A0_6 n0_6 c0_6 lo0_6 hi0_6 p0_7 W (pow10_below hT hb) wf0 h0_3 (r0_3.new hb) k0_3 b0_3 h0_4 (r0_4.new hb) k0_4 b0_4 h0_5 (r0_5.new hb) k0_5 b0_5 h0_6 (r0_6.new hb) k0_6 b0_6)
 have CP := Lib.hid (fun W (hb : Below w.heap.size w W) => spec_IsPackage p1_0 p1_1 p1_2 l1_3 A1_3 n1_3 c1_3 lo1_3 hi1_3 l1_4 A1_4 n1_4 c1_4 lo1_4 hi1_4 l1_5 A1_5 n1_5 c1_5 lo1_5 hi1_5 l1_6 A1_6 n1_6 c1_6 lo1_6 hi1_6 p1_7 W h1_3 (r1_3.new hb) k1_3 b1_3 h1_4 (r1_4.new hb) k1_4 b1_4 h1_5 (r1_5.new hb) k1_5 b1_5 h1_6 (r1_6.new hb) k1_6 b1_6)
 have HR := Lib.hid (show mCrb a0 p0_0 p0_1 p0_2 l0_3 l0_4 l0_5 l0_6 p0_7 p1_0 p1_1 p1_2 l1_3 l1_4 l1_5 l1_6 = (decide (mRev a0 p0_0 p0_1 p0_2 l0_3 l0_4 l0_5 l0_6 p0_7 = 0) && mIsPack p1_0 p1_1 p1_2 l1_3 l1_4 l1_5 l1_6 && decide (p1_0 = p0_0) && decide (p0_2 < p1_2)) from rfl)
 generalize mCrb a0 p0_0 p0_1 p0_2 l0_3 l0_4 l0_5 l0_6 p0_7 p1_0 p1_1 p1_2 l1_3 l1_4 l1_5 l1_6 = R at HR ⊢
 generalize mIsPack p1_0 p1_1 p1_2 l1_3 l1_4 l1_5 l1_6 = q1 at CP HR
 generalize mRev a0 p0_0 p0_1 p0_2 l0_3 l0_4 l0_5 l0_6 p0_7 = q2 at CR HR
 clear r0_3 b0_3
 clear r0_4 b0_4
 clear r0_5 b0_5
 clear r0_6 b0_6
 clear r0_8 b0_8
 clear r1_3 b1_3
 clear r1_4 b1_4
 clear r1_5 b1_5
 clear r1_6 b1_6
 clear hT wf0
 have K0 := Lib.hid ((box_new w 46 #[.int .i64 p0_0, .int .i64 p0_1, .int .i64 p0_2, .slice A0_3 n0_3 c0_3, .slice A0_4 n0_4 c0_4, .slice A0_5 n0_5 c0_5, .slice A0_6 n0_6 c0_6, .int .i64 p0_7, .slice A0_8 n0_8 c0_8]).alloc_ (.cells #[.int .i64 p1_0, .int .i64 p1_1, .int .i64 p1_2, .slice A1_3 n1_3 c1_3, .slice A1_4 n1_4 c1_4, .slice A1_5 n1_5 c1_5, .slice A1_6 n1_6 c1_6, .int .i64 p1_7] 35))
 have K1 := Lib.hid (show BoxAt ((w.alloc (.cells #[.int .i64 p0_0, .int .i64 p0_1, .int .i64 p0_2, .slice A0_3 n0_3 c0_3, .slice A0_4 n0_4 c0_4, .slice A0_5 n0_5 c0_5, .slice A0_6 n0_6 c0_6, .int .i64 p0_7, .slice A0_8 n0_8 c0_8] 46)).alloc (.cells #[.int .i64 p1_0, .int .i64 p1_1, .int .i64 p1_2, .slice A1_3 n1_3 c1_3, .slice A1_4 n1_4 c1_4, .slice A1_5 n1_5 c1_5, .slice A1_6 n1_6 c1_6, .int .i64 p1_7] 35)) (w.heap.size + 1) 35 #[.int .i64 p1_0, .int .i64 p1_1, .int .i64 p1_2, .slice A1_3 n1_3 c1_3, .slice A1_4 n1_4 c1_4, .slice A1_5 n1_5 c1_5, .slice A1_6 n1_6 c1_6, .int .i64 p1_7] from by simpa using box_new (w.alloc (.cells #[.int .i64 p0_0, .int .i64 p0_1, .int .i64 p0_2, .slice A0_3 n0_3 c0_3, .slice A0_4 n0_4 c0_4, .slice A0_5 n0_5 c0_5, .slice A0_6 n0_6 c0_6, .int .i64 p0_7, .slice A0_8 n0_8 c0_8] 46)) 35 #[.int .i64 p1_0, .int .i64 p1_1, .int .i64 p1_2, .slice A1_3 n1_3 c1_3, .slice A1_4 n1_4 c1_4, .slice A1_5 n1_5 c1_5, .slice A1_6 n1_6 c1_6, .int .i64 p1_7])
 have HB := Lib.hid (((Below.refl w.heap.size w).alloc (Nat.le_refl _) (.cells #[.int .i64 p0_0, .int .i64 p0_1, .int .i64 p0_2, .slice A0_3 n0_3 c0_3, .slice A0_4 n0_4 c0_4, .slice A0_5 n0_5 c0_5, .slice A0_6 n0_6 c0_6, .int .i64 p0_7, .slice A0_8 n0_8 c0_8] 46)).alloc (by simp) (.cells #[.int .i64 p1_0, .int .i64 p1_1, .int .i64 p1_2, .slice A1_3 n1_3 c1_3, .slice A1_4 n1_4 c1_4, .slice A1_5 n1_5 c1_5, .slice A1_6 n1_6 c1_6, .int .i64 p1_7] 35))
 go_enter Tryz.func13, Tryz.ntmps13
 obtain ⟨k0_, k1_, k2_, k3_, k4_, k5_, k6_, k7_⟩ := K0.out.p8
 go_wp2_with fail
 clear k0_ k1_ k2_ k3_ k4_ k5_ k6_ k7_
 refine (CR.out _ HB.out).mono ?_
 rintro e w1 ⟨rfl, hb⟩
 replace K0 := Lib.hid (K0.out.new hb)
 replace K1 := Lib.hid (K1.out.new hb)
 replace HB := Lib.hid (below_trans HB.out hb (Nat.le_refl _))
 clear hb
 clear CR
 by_cases e2 : q2 = 0
 ·
  subst e2
  obtain ⟨k10_, k11_, k12_, k13_, k14_, k15_, k16_, k17_⟩ := K1.out.p8
  go_wp2_with fail
  clear k10_ k11_ k12_ k13_ k14_ k15_ k16_ k17_
  refine (CP.out _ HB.out).mono ?_
  rintro e w2 ⟨rfl, hb⟩
  replace K0 := Lib.hid (K0.out.new hb)
  replace K1 := Lib.hid (K1.out.new hb)
  replace HB := Lib.hid (below_trans HB.out hb (Nat.le_refl _))
  clear hb
  clear CP
  cases q1 with
  | false =>
   have HE := Lib.hid (show R = false by rw [HR.out]; simp [])
   clear HR
   go_wp2_with fail
   go_ret
   exact ⟨by rw [HE.out]; first | rfl | simp [*], HB.out⟩
  | true =>
   by_cases e3 : p1_0 = p0_0
   ·
    subst e3
    by_cases e4 : p0_2 < p1_2
    ·
     have HE := Lib.hid (show R = true by rw [HR.out]; simp [e4])
     clear HR
     obtain ⟨k0_, k1_, k2_⟩ := K0.out.p3
     obtain ⟨k10_, k11_, k12_⟩ := K1.out.p3
     go_wp2_with fail
     go_ret
     exact ⟨by rw [HE.out]; first | rfl | simp [*], HB.out⟩
    ·
     have HE := Lib.hid (show R = false by rw [HR.out]; simp [e4])
     clear HR
     obtain ⟨k0_, k1_, k2_⟩ := K0.out.p3
     obtain ⟨k10_, k11_, k12_⟩ := K1.out.p3
     go_wp2_with fail
     go_ret
     exact ⟨by rw [HE.out]; first | rfl | simp [*], HB.out⟩
   ·
    have e3' : ¬ p0_0 = p1_0 := fun h => e3 h.symm
    have HE := Lib.hid (show R = false by rw [HR.out]; simp [e3])
    clear HR
    obtain ⟨k0_, k1_, k2_⟩ := K0.out.p3
    obtain ⟨k10_, k11_, k12_⟩ := K1.out.p3
    go_wp2_with fail
    go_ret
    exact ⟨by rw [HE.out]; first | rfl | simp [*], HB.out⟩
 ·
  have HE := Lib.hid (show R = false by rw [HR.out]; simp [e2])
  clear HR
  clear CP
  go_wp2_with fail
  go_ret
  exact ⟨by rw [HE.out]; first | rfl | simp [*], HB.out⟩
end Go.Proofs.YtkedacmpmancbaaGreatDoor
