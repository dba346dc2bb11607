/- The law FnExactRunOps answers true for every argument, and leaves each argument as it was. No condition. -/
import Derived.Test.YtcankpiidjhhpaaFacts
import Derived.Test.YtcankpiidjhhpaaSlI
import Derived.Test.YtcankpiidjhhpaaTFlow
import Derived.Test.YtcankpiidjhhpaaTOp
import Derived.Test.YtcankpiidjhhpaaTSent
import Derived.Test.YtcankpiidjhhpaaRnS
namespace Go.Proofs.Ytcankpiidjhhpaa.fnExactRunOps
open Go Go.ChangeShapes Go.WideShapes Go.ChangeAt Go.RowKit Go.Lib
open Go.ChangeMaps (open_string)
set_option linter.unusedVariables false
set_option linter.unusedSimpArgs false
set_option maxRecDepth 100000

theorem drw_size {W w' : World} (hb : Below W.drew.heap.size W.drew w') : W.heap.size ≤ w'.heap.size := hb.size
set_option maxRecDepth 100000 in
set_option maxHeartbeats 20000000 in
theorem walk (l0 : List TOp) (A0 : Option Addr) (n0 c0 : Nat) (l1 : List Int) (A1 : Option Addr) (n1 c1 : Nat) (l2 : List TFlow) (A2 : Option Addr) (n2 c2 : Nat) (a3 : Int) (w : World) (hm0 : n0 ≤ maxLen) (R0 : Rd w 0 w.heap.size 4 A0 n0 (cOp l0)) (H0 : Hid (cOpOk l0)) (hm1 : n1 ≤ maxLen) (R1 : Rd w 0 w.heap.size 1 A1 n1 (i64s l1)) (H1 : Hid (I64s l1)) (hm2 : n2 ≤ maxLen) (R2 : Rd w 0 w.heap.size 3 A2 n2 (cFlow l2)) (H2 : Hid (cFlowOk l2)) (wf3 : (Lit.int .i64 a3).wf = true) :
    Calls Try.prog 5 #[.slice A0 n0 c0, .slice A1 n1 c1, .slice A2 n2 c2, .int .i64 a3] w fun e w' => e = .returned (.bool true) ∧ Below w.heap.size w w' := by
  have hm1 : n1 ≤ 9223372036854775807 := hm1
  have hm0 : n0 ≤ 9223372036854775807 := hm0
  have hm2 : n2 ≤ 9223372036854775807 := hm2
  have Wf3 := Lib.hid wf3
  clear wf3
  by_cases hn1 : n1 ≤ 1048576
  · skip
    by_cases hz0 : n0 ≤ 1048576
    · skip
      by_cases hz2 : n0 + n2 ≤ 1048576
      · skip
        have hl0 : (mRunO l0 l1 l2 a3).length ≤ 17179869184 := by (have := mRunO_len l0 l1 l2 a3; omega)
        go_enter Try.func5, Try.ntmps5
        go_wp2_with fail
        refine (sz_op A0 n0 c0 (1048576) _ hm0 (by omega) (by omega)).mono ?_
        rintro e w1 hq
        obtain ⟨rfl, B1⟩ := hq.says
        replace R0 := R0.new B1
        replace R1 := R1.new B1
        replace R2 := R2.new B1
        have G := B1
        have S1 := Lib.hid B1.size
        clear B1
        go_wp2_with fail
        refine (sz_flow A2 n2 c2 (1048576 - (n0 : Int)) _ hm2 (by omega) (by omega)).mono ?_
        rintro e w2 hq
        obtain ⟨rfl, B2⟩ := hq.says
        replace R0 := R0.new B2
        replace R1 := R1.new B2
        replace R2 := R2.new B2
        replace G := below_trans G B2 (Nat.le_refl _)
        have S2 := Lib.hid B2.size
        clear B2
        go_wp2_with fail
        refine (to_op l0 A0 n0 c0 _ _ _ (by omega) R0).mono ?_
        rintro e w3 ⟨T3, tc3, rfl, FT3, B3⟩
        replace R0 := R0.new B3
        replace R1 := R1.new B3
        replace R2 := R2.new B3
        replace G := below_trans G B3 (Nat.le_refl _)
        have S3 := Lib.hid B3.size
        clear B3
        go_wp2_with fail
        refine (to_int l1 A1 n1 c1 _ _ _ (by omega) R1).mono ?_
        rintro e w4 ⟨T4, tc4, rfl, FT4, B4⟩
        replace R0 := R0.new B4
        replace R1 := R1.new B4
        replace R2 := R2.new B4
        replace FT3 := FT3.new B4
        replace G := below_trans G B4 (Nat.le_refl _)
        have S4 := Lib.hid B4.size
        clear B4
        go_wp2_with fail
        refine (to_flow l2 A2 n2 c2 _ _ _ (by omega) R2).mono ?_
        rintro e w5 ⟨T5, tc5, rfl, FT5, B5⟩
        replace R0 := R0.new B5
        replace R1 := R1.new B5
        replace R2 := R2.new B5
        replace FT3 := FT3.new B5
        replace FT4 := FT4.new B5
        replace G := below_trans G B5 (Nat.le_refl _)
        have S5 := Lib.hid B5.size
        clear B5
        go_wp2_with fail
        refine (spec_RunOps l0 T3 n0 tc3 _ _ l1 T4 n1 tc4 _ _ l2 T5 n2 tc5 _ _ a3 _ (by omega) FT3.rd FT3.cap H0 (by omega) FT4.rd FT4.cap H1 (by omega) FT5.rd FT5.cap H2 Wf3.out).mono ?_
        rintro e w6 ⟨P6_0, pc6_0, rfl, FP6_0, B6⟩
        replace R0 := R0.new B6
        replace R1 := R1.new B6
        replace R2 := R2.new B6
        replace FT3 := FT3.new B6
        replace FT4 := FT4.new B6
        replace FT5 := FT5.new B6
        replace G := below_trans G B6 (Nat.le_refl _)
        have S6 := Lib.hid B6.size
        clear B6
        clear FT3
        clear FT4
        clear FT5
        go_wp2_with fail
        refine (to_op l0 A0 n0 c0 _ _ _ (by omega) R0).mono ?_
        rintro e w7 ⟨T7, tc7, rfl, FT7, B7⟩
        replace R0 := R0.new B7
        replace R1 := R1.new B7
        replace R2 := R2.new B7
        replace FP6_0 := FP6_0.new B7
        replace G := below_trans G B7 (Nat.le_refl _)
        have S7 := Lib.hid B7.size
        clear B7
        go_wp2_with fail
        refine (to_int l1 A1 n1 c1 _ _ _ (by omega) R1).mono ?_
        rintro e w8 ⟨T8, tc8, rfl, FT8, B8⟩
        replace R0 := R0.new B8
        replace R1 := R1.new B8
        replace R2 := R2.new B8
        replace FP6_0 := FP6_0.new B8
        replace FT7 := FT7.new B8
        replace G := below_trans G B8 (Nat.le_refl _)
        have S8 := Lib.hid B8.size
        clear B8
        go_wp2_with fail
        refine (to_flow l2 A2 n2 c2 _ _ _ (by omega) R2).mono ?_
        rintro e w9 ⟨T9, tc9, rfl, FT9, B9⟩
        replace R0 := R0.new B9
        replace R1 := R1.new B9
        replace R2 := R2.new B9
        replace FP6_0 := FP6_0.new B9
        replace FT7 := FT7.new B9
        replace FT8 := FT8.new B9
        replace G := below_trans G B9 (Nat.le_refl _)
        have S9 := Lib.hid B9.size
        clear B9
        go_wp2_with fail
        refine (impl_RunOpsC l0 T7 n0 tc7 _ _ l1 T8 n1 tc8 _ _ l2 T9 n2 tc9 _ _ a3 _ (by omega) FT7.rd FT7.cap H0 (by omega) FT8.rd FT8.cap H1 (by omega) FT9.rd FT9.cap H2 Wf3.out).mono ?_
        rintro e w10 ⟨P10_0, pc10_0, rfl, FP10_0, B10⟩
        replace R0 := R0.new B10
        replace R1 := R1.new B10
        replace R2 := R2.new B10
        replace FP6_0 := FP6_0.new B10
        replace FT7 := FT7.new B10
        replace FT8 := FT8.new B10
        replace FT9 := FT9.new B10
        replace G := below_trans G B10 (Nat.le_refl _)
        have S10 := Lib.hid B10.size
        clear B10
        go_wp2_with fail
        refine (eq_sent_same (mRunO l0 l1 l2 a3) P10_0 P6_0 _ _ pc10_0 pc6_0 _ _ _ _ _ (by omega) (by omega) FP10_0.rd FP6_0.rd).mono ?_
        rintro e w11 ⟨rfl, B11⟩
        replace R0 := R0.new B11
        replace R1 := R1.new B11
        replace R2 := R2.new B11
        replace FP6_0 := FP6_0.new B11
        replace FT7 := FT7.new B11
        replace FT8 := FT8.new B11
        replace FT9 := FT9.new B11
        replace FP10_0 := FP10_0.new B11
        replace G := below_trans G B11 (Nat.le_refl _)
        have S11 := Lib.hid B11.size
        clear B11
        go_wp2_with fail
        refine (to_op l0 A0 n0 c0 _ _ _ (by omega) R0).mono ?_
        rintro e w12 ⟨T12, tc12, rfl, FT12, B12⟩
        replace R0 := R0.new B12
        replace R1 := R1.new B12
        replace R2 := R2.new B12
        replace FP6_0 := FP6_0.new B12
        replace FT7 := FT7.new B12
        replace FT8 := FT8.new B12
        replace FT9 := FT9.new B12
        replace FP10_0 := FP10_0.new B12
        replace G := below_trans G B12 (Nat.le_refl _)
        have S12 := Lib.hid B12.size
        clear B12
        go_wp2_with fail
        refine (eq_op_same l0 T7 T12 n0 n0 tc7 tc12 _ _ _ _ _ (by omega) (by omega) FT7.rd FT12.rd).mono ?_
        rintro e w13 ⟨rfl, B13⟩
        replace R0 := R0.new B13
        replace R1 := R1.new B13
        replace R2 := R2.new B13
        replace FP6_0 := FP6_0.new B13
        replace FT7 := FT7.new B13
        replace FT8 := FT8.new B13
        replace FT9 := FT9.new B13
        replace FP10_0 := FP10_0.new B13
        replace FT12 := FT12.new B13
        replace G := below_trans G B13 (Nat.le_refl _)
        have S13 := Lib.hid B13.size
        clear B13
        clear FT12
        go_wp2_with fail
        refine (to_int l1 A1 n1 c1 _ _ _ (by omega) R1).mono ?_
        rintro e w14 ⟨T14, tc14, rfl, FT14, B14⟩
        replace R0 := R0.new B14
        replace R1 := R1.new B14
        replace R2 := R2.new B14
        replace FP6_0 := FP6_0.new B14
        replace FT7 := FT7.new B14
        replace FT8 := FT8.new B14
        replace FT9 := FT9.new B14
        replace FP10_0 := FP10_0.new B14
        replace G := below_trans G B14 (Nat.le_refl _)
        have S14 := Lib.hid B14.size
        clear B14
        go_wp2_with fail
        refine (eq_int_same l1 T8 T14 n1 n1 tc8 tc14 _ _ _ _ _ (by omega) (by omega) FT8.rd FT14.rd).mono ?_
        rintro e w15 hq
        obtain ⟨rfl, B15⟩ := hq.says
        replace R0 := R0.new B15
        replace R1 := R1.new B15
        replace R2 := R2.new B15
        replace FP6_0 := FP6_0.new B15
        replace FT7 := FT7.new B15
        replace FT8 := FT8.new B15
        replace FT9 := FT9.new B15
        replace FP10_0 := FP10_0.new B15
        replace FT14 := FT14.new B15
        replace G := below_trans G B15 (Nat.le_refl _)
        have S15 := Lib.hid B15.size
        clear B15
        clear FT14
        go_wp2_with fail
        refine (to_flow l2 A2 n2 c2 _ _ _ (by omega) R2).mono ?_
        rintro e w16 ⟨T16, tc16, rfl, FT16, B16⟩
        replace R0 := R0.new B16
        replace R1 := R1.new B16
        replace R2 := R2.new B16
        replace FP6_0 := FP6_0.new B16
        replace FT7 := FT7.new B16
        replace FT8 := FT8.new B16
        replace FT9 := FT9.new B16
        replace FP10_0 := FP10_0.new B16
        replace G := below_trans G B16 (Nat.le_refl _)
        have S16 := Lib.hid B16.size
        clear B16
        go_wp2_with fail
        refine (eq_flow_same l2 T9 T16 n2 n2 tc9 tc16 _ _ _ _ _ (by omega) (by omega) FT9.rd FT16.rd).mono ?_
        rintro e w17 ⟨rfl, B17⟩
        replace R0 := R0.new B17
        replace R1 := R1.new B17
        replace R2 := R2.new B17
        replace FP6_0 := FP6_0.new B17
        replace FT7 := FT7.new B17
        replace FT8 := FT8.new B17
        replace FT9 := FT9.new B17
        replace FP10_0 := FP10_0.new B17
        replace FT16 := FT16.new B17
        replace G := below_trans G B17 (Nat.le_refl _)
        have S17 := Lib.hid B17.size
        clear B17
        clear FT16
        go_wp2_with fail
        refine (mark_op _ T7 n0 tc7 _ _ (1) _ (by omega) (by omega) FT7).mono ?_
        rintro e w18 ⟨rfl, FM18, C18, E18⟩
        replace R0 := R0.chg C18 (by have := S1.out; have := S2.out; have := S3.out; have := S4.out; have := S5.out; have := S6.out; have := S7.out; have := S8.out; have := S9.out; have := S10.out; have := S11.out; have := S12.out; have := S13.out; have := S14.out; have := S15.out; have := S16.out; have := S17.out; omega)
        replace R1 := R1.chg C18 (by have := S1.out; have := S2.out; have := S3.out; have := S4.out; have := S5.out; have := S6.out; have := S7.out; have := S8.out; have := S9.out; have := S10.out; have := S11.out; have := S12.out; have := S13.out; have := S14.out; have := S15.out; have := S16.out; have := S17.out; omega)
        replace R2 := R2.chg C18 (by have := S1.out; have := S2.out; have := S3.out; have := S4.out; have := S5.out; have := S6.out; have := S7.out; have := S8.out; have := S9.out; have := S10.out; have := S11.out; have := S12.out; have := S13.out; have := S14.out; have := S15.out; have := S16.out; have := S17.out; omega)
        replace FP6_0 := FP6_0.chg C18 (by have := S1.out; have := S2.out; have := S3.out; have := S4.out; have := S5.out; have := S6.out; have := S7.out; have := S8.out; have := S9.out; have := S10.out; have := S11.out; have := S12.out; have := S13.out; have := S14.out; have := S15.out; have := S16.out; have := S17.out; omega)
        replace FT8 := FT8.chg C18 (by have := S1.out; have := S2.out; have := S3.out; have := S4.out; have := S5.out; have := S6.out; have := S7.out; have := S8.out; have := S9.out; have := S10.out; have := S11.out; have := S12.out; have := S13.out; have := S14.out; have := S15.out; have := S16.out; have := S17.out; omega)
        replace FT9 := FT9.chg C18 (by have := S1.out; have := S2.out; have := S3.out; have := S4.out; have := S5.out; have := S6.out; have := S7.out; have := S8.out; have := S9.out; have := S10.out; have := S11.out; have := S12.out; have := S13.out; have := S14.out; have := S15.out; have := S16.out; have := S17.out; omega)
        replace FP10_0 := FP10_0.chg C18 (by have := S1.out; have := S2.out; have := S3.out; have := S4.out; have := S5.out; have := S6.out; have := S7.out; have := S8.out; have := S9.out; have := S10.out; have := S11.out; have := S12.out; have := S13.out; have := S14.out; have := S15.out; have := S16.out; have := S17.out; omega)
        replace G := G.trans (C18.below (.inl (by have := S1.out; have := S2.out; have := S3.out; have := S4.out; have := S5.out; have := S6.out; have := S7.out; have := S8.out; have := S9.out; have := S10.out; have := S11.out; have := S12.out; have := S13.out; have := S14.out; have := S15.out; have := S16.out; have := S17.out; omega)) (by have := S1.out; have := S2.out; have := S3.out; have := S4.out; have := S5.out; have := S6.out; have := S7.out; have := S8.out; have := S9.out; have := S10.out; have := S11.out; have := S12.out; have := S13.out; have := S14.out; have := S15.out; have := S16.out; have := S17.out; omega))
        clear FT7
        have S18 := Lib.hid (show w18.heap.size = w17.heap.size from E18)
        clear E18
        clear C18
        go_wp2_with fail
        refine (mark_int _ T8 n1 tc8 _ _ (1 + n0 * 4) _ (by omega) (by omega) FT8).mono ?_
        rintro e w19 ⟨rfl, FM19, C19, E19⟩
        replace R0 := R0.chg C19 (by have := S1.out; have := S2.out; have := S3.out; have := S4.out; have := S5.out; have := S6.out; have := S7.out; have := S8.out; have := S9.out; have := S10.out; have := S11.out; have := S12.out; have := S13.out; have := S14.out; have := S15.out; have := S16.out; have := S17.out; have := S18.out; omega)
        replace R1 := R1.chg C19 (by have := S1.out; have := S2.out; have := S3.out; have := S4.out; have := S5.out; have := S6.out; have := S7.out; have := S8.out; have := S9.out; have := S10.out; have := S11.out; have := S12.out; have := S13.out; have := S14.out; have := S15.out; have := S16.out; have := S17.out; have := S18.out; omega)
        replace R2 := R2.chg C19 (by have := S1.out; have := S2.out; have := S3.out; have := S4.out; have := S5.out; have := S6.out; have := S7.out; have := S8.out; have := S9.out; have := S10.out; have := S11.out; have := S12.out; have := S13.out; have := S14.out; have := S15.out; have := S16.out; have := S17.out; have := S18.out; omega)
        replace FP6_0 := FP6_0.chg C19 (by have := S1.out; have := S2.out; have := S3.out; have := S4.out; have := S5.out; have := S6.out; have := S7.out; have := S8.out; have := S9.out; have := S10.out; have := S11.out; have := S12.out; have := S13.out; have := S14.out; have := S15.out; have := S16.out; have := S17.out; have := S18.out; omega)
        replace FT9 := FT9.chg C19 (by have := S1.out; have := S2.out; have := S3.out; have := S4.out; have := S5.out; have := S6.out; have := S7.out; have := S8.out; have := S9.out; have := S10.out; have := S11.out; have := S12.out; have := S13.out; have := S14.out; have := S15.out; have := S16.out; have := S17.out; have := S18.out; omega)
        replace FP10_0 := FP10_0.chg C19 (by have := S1.out; have := S2.out; have := S3.out; have := S4.out; have := S5.out; have := S6.out; have := S7.out; have := S8.out; have := S9.out; have := S10.out; have := S11.out; have := S12.out; have := S13.out; have := S14.out; have := S15.out; have := S16.out; have := S17.out; have := S18.out; omega)
        replace FM18 := FM18.chg C19 (by have := S1.out; have := S2.out; have := S3.out; have := S4.out; have := S5.out; have := S6.out; have := S7.out; have := S8.out; have := S9.out; have := S10.out; have := S11.out; have := S12.out; have := S13.out; have := S14.out; have := S15.out; have := S16.out; have := S17.out; have := S18.out; omega)
        replace G := G.trans (C19.below (.inl (by have := S1.out; have := S2.out; have := S3.out; have := S4.out; have := S5.out; have := S6.out; have := S7.out; have := S8.out; have := S9.out; have := S10.out; have := S11.out; have := S12.out; have := S13.out; have := S14.out; have := S15.out; have := S16.out; have := S17.out; have := S18.out; omega)) (by have := S1.out; have := S2.out; have := S3.out; have := S4.out; have := S5.out; have := S6.out; have := S7.out; have := S8.out; have := S9.out; have := S10.out; have := S11.out; have := S12.out; have := S13.out; have := S14.out; have := S15.out; have := S16.out; have := S17.out; have := S18.out; omega))
        clear FT8
        have S19 := Lib.hid (show w19.heap.size = w18.heap.size from E19)
        clear E19
        clear C19
        go_wp2_with fail
        refine (mark_flow _ T9 n2 tc9 _ _ (1 + n0 * 4 + n1) _ (by omega) (by omega) FT9).mono ?_
        rintro e w20 ⟨rfl, FM20, C20, E20⟩
        replace R0 := R0.chg C20 (by have := S1.out; have := S2.out; have := S3.out; have := S4.out; have := S5.out; have := S6.out; have := S7.out; have := S8.out; have := S9.out; have := S10.out; have := S11.out; have := S12.out; have := S13.out; have := S14.out; have := S15.out; have := S16.out; have := S17.out; have := S18.out; have := S19.out; omega)
        replace R1 := R1.chg C20 (by have := S1.out; have := S2.out; have := S3.out; have := S4.out; have := S5.out; have := S6.out; have := S7.out; have := S8.out; have := S9.out; have := S10.out; have := S11.out; have := S12.out; have := S13.out; have := S14.out; have := S15.out; have := S16.out; have := S17.out; have := S18.out; have := S19.out; omega)
        replace R2 := R2.chg C20 (by have := S1.out; have := S2.out; have := S3.out; have := S4.out; have := S5.out; have := S6.out; have := S7.out; have := S8.out; have := S9.out; have := S10.out; have := S11.out; have := S12.out; have := S13.out; have := S14.out; have := S15.out; have := S16.out; have := S17.out; have := S18.out; have := S19.out; omega)
        replace FP6_0 := FP6_0.chg C20 (by have := S1.out; have := S2.out; have := S3.out; have := S4.out; have := S5.out; have := S6.out; have := S7.out; have := S8.out; have := S9.out; have := S10.out; have := S11.out; have := S12.out; have := S13.out; have := S14.out; have := S15.out; have := S16.out; have := S17.out; have := S18.out; have := S19.out; omega)
        replace FP10_0 := FP10_0.chg C20 (by have := S1.out; have := S2.out; have := S3.out; have := S4.out; have := S5.out; have := S6.out; have := S7.out; have := S8.out; have := S9.out; have := S10.out; have := S11.out; have := S12.out; have := S13.out; have := S14.out; have := S15.out; have := S16.out; have := S17.out; have := S18.out; have := S19.out; omega)
        replace FM18 := FM18.chg C20 (by have := S1.out; have := S2.out; have := S3.out; have := S4.out; have := S5.out; have := S6.out; have := S7.out; have := S8.out; have := S9.out; have := S10.out; have := S11.out; have := S12.out; have := S13.out; have := S14.out; have := S15.out; have := S16.out; have := S17.out; have := S18.out; have := S19.out; omega)
        replace FM19 := FM19.chg C20 (by have := S1.out; have := S2.out; have := S3.out; have := S4.out; have := S5.out; have := S6.out; have := S7.out; have := S8.out; have := S9.out; have := S10.out; have := S11.out; have := S12.out; have := S13.out; have := S14.out; have := S15.out; have := S16.out; have := S17.out; have := S18.out; have := S19.out; omega)
        replace G := G.trans (C20.below (.inl (by have := S1.out; have := S2.out; have := S3.out; have := S4.out; have := S5.out; have := S6.out; have := S7.out; have := S8.out; have := S9.out; have := S10.out; have := S11.out; have := S12.out; have := S13.out; have := S14.out; have := S15.out; have := S16.out; have := S17.out; have := S18.out; have := S19.out; omega)) (by have := S1.out; have := S2.out; have := S3.out; have := S4.out; have := S5.out; have := S6.out; have := S7.out; have := S8.out; have := S9.out; have := S10.out; have := S11.out; have := S12.out; have := S13.out; have := S14.out; have := S15.out; have := S16.out; have := S17.out; have := S18.out; have := S19.out; omega))
        clear FT9
        have S20 := Lib.hid (show w20.heap.size = w19.heap.size from E20)
        clear E20
        clear C20
        clear FM18
        clear FM19
        clear FM20
        go_wp2_with fail
        refine (eq_sent_same (mRunO l0 l1 l2 a3) P10_0 P6_0 _ _ pc10_0 pc6_0 _ _ _ _ _ (by omega) (by omega) FP10_0.rd FP6_0.rd).mono ?_
        rintro e w21 ⟨rfl, B21⟩
        replace R0 := R0.new B21
        replace R1 := R1.new B21
        replace R2 := R2.new B21
        replace FP6_0 := FP6_0.new B21
        replace FP10_0 := FP10_0.new B21
        replace G := below_trans G B21 (Nat.le_refl _)
        have S21 := Lib.hid B21.size
        clear B21
        go_wp2_with fail
        refine (mark_sent _ P10_0 _ pc10_0 _ _ (1) _ (by omega) (by omega) FP10_0).mono ?_
        rintro e w22 ⟨rfl, FM22, C22, E22⟩
        replace R0 := R0.chg C22 (by have := S1.out; have := S2.out; have := S3.out; have := S4.out; have := S5.out; have := S6.out; have := S7.out; have := S8.out; have := S9.out; have := S10.out; have := S11.out; have := S12.out; have := S13.out; have := S14.out; have := S15.out; have := S16.out; have := S17.out; have := S18.out; have := S19.out; have := S20.out; have := S21.out; omega)
        replace R1 := R1.chg C22 (by have := S1.out; have := S2.out; have := S3.out; have := S4.out; have := S5.out; have := S6.out; have := S7.out; have := S8.out; have := S9.out; have := S10.out; have := S11.out; have := S12.out; have := S13.out; have := S14.out; have := S15.out; have := S16.out; have := S17.out; have := S18.out; have := S19.out; have := S20.out; have := S21.out; omega)
        replace R2 := R2.chg C22 (by have := S1.out; have := S2.out; have := S3.out; have := S4.out; have := S5.out; have := S6.out; have := S7.out; have := S8.out; have := S9.out; have := S10.out; have := S11.out; have := S12.out; have := S13.out; have := S14.out; have := S15.out; have := S16.out; have := S17.out; have := S18.out; have := S19.out; have := S20.out; have := S21.out; omega)
        replace FP6_0 := FP6_0.chg C22 (by have := S1.out; have := S2.out; have := S3.out; have := S4.out; have := S5.out; have := S6.out; have := S7.out; have := S8.out; have := S9.out; have := S10.out; have := S11.out; have := S12.out; have := S13.out; have := S14.out; have := S15.out; have := S16.out; have := S17.out; have := S18.out; have := S19.out; have := S20.out; have := S21.out; omega)
        replace G := G.trans (C22.below (.inl (by have := S1.out; have := S2.out; have := S3.out; have := S4.out; have := S5.out; have := S6.out; have := S7.out; have := S8.out; have := S9.out; have := S10.out; have := S11.out; have := S12.out; have := S13.out; have := S14.out; have := S15.out; have := S16.out; have := S17.out; have := S18.out; have := S19.out; have := S20.out; have := S21.out; omega)) (by have := S1.out; have := S2.out; have := S3.out; have := S4.out; have := S5.out; have := S6.out; have := S7.out; have := S8.out; have := S9.out; have := S10.out; have := S11.out; have := S12.out; have := S13.out; have := S14.out; have := S15.out; have := S16.out; have := S17.out; have := S18.out; have := S19.out; have := S20.out; have := S21.out; omega))
        clear FP10_0
        have S22 := Lib.hid (show w22.heap.size = w21.heap.size from E22)
        clear E22
        clear C22
        go_wp2_with fail
        refine (held_sent P10_0 _ pc10_0 _ _ (1) _ (by omega) (by omega) FM22.rd).mono ?_
        rintro e w23 hq
        obtain ⟨rfl, B23⟩ := hq.says
        replace R0 := R0.new B23
        replace R1 := R1.new B23
        replace R2 := R2.new B23
        replace FP6_0 := FP6_0.new B23
        replace FM22 := FM22.new B23
        replace G := below_trans G B23 (Nat.le_refl _)
        have S23 := Lib.hid B23.size
        clear B23
        go_wp2_with fail
        refine (to_op l0 A0 n0 c0 _ _ _ (by omega) R0).mono ?_
        rintro e w24 ⟨T24, tc24, rfl, FT24, B24⟩
        replace R0 := R0.new B24
        replace R1 := R1.new B24
        replace R2 := R2.new B24
        replace FP6_0 := FP6_0.new B24
        replace FM22 := FM22.new B24
        replace G := below_trans G B24 (Nat.le_refl _)
        have S24 := Lib.hid B24.size
        clear B24
        go_wp2_with fail
        refine (to_int l1 A1 n1 c1 _ _ _ (by omega) R1).mono ?_
        rintro e w25 ⟨T25, tc25, rfl, FT25, B25⟩
        replace R0 := R0.new B25
        replace R1 := R1.new B25
        replace R2 := R2.new B25
        replace FP6_0 := FP6_0.new B25
        replace FM22 := FM22.new B25
        replace FT24 := FT24.new B25
        replace G := below_trans G B25 (Nat.le_refl _)
        have S25 := Lib.hid B25.size
        clear B25
        go_wp2_with fail
        refine (to_flow l2 A2 n2 c2 _ _ _ (by omega) R2).mono ?_
        rintro e w26 ⟨T26, tc26, rfl, FT26, B26⟩
        replace R0 := R0.new B26
        replace R1 := R1.new B26
        replace R2 := R2.new B26
        replace FP6_0 := FP6_0.new B26
        replace FM22 := FM22.new B26
        replace FT24 := FT24.new B26
        replace FT25 := FT25.new B26
        replace G := below_trans G B26 (Nat.le_refl _)
        have S26 := Lib.hid B26.size
        clear B26
        go_wp2_with fail
        refine (impl_RunOpsC l0 T24 n0 tc24 _ _ l1 T25 n1 tc25 _ _ l2 T26 n2 tc26 _ _ a3 _ (by omega) FT24.rd FT24.cap H0 (by omega) FT25.rd FT25.cap H1 (by omega) FT26.rd FT26.cap H2 Wf3.out).mono ?_
        rintro e w27 ⟨P27_0, pc27_0, rfl, FP27_0, B27⟩
        replace R0 := R0.new B27
        replace R1 := R1.new B27
        replace R2 := R2.new B27
        replace FP6_0 := FP6_0.new B27
        replace FM22 := FM22.new B27
        replace FT24 := FT24.new B27
        replace FT25 := FT25.new B27
        replace FT26 := FT26.new B27
        replace G := below_trans G B27 (Nat.le_refl _)
        have S27 := Lib.hid B27.size
        clear B27
        clear FT24
        clear FT25
        clear FT26
        go_wp2_with fail
        refine (eq_sent_same (mRunO l0 l1 l2 a3) P27_0 P6_0 _ _ pc27_0 pc6_0 _ _ _ _ _ (by omega) (by omega) FP27_0.rd FP6_0.rd).mono ?_
        rintro e w28 ⟨rfl, B28⟩
        replace R0 := R0.new B28
        replace R1 := R1.new B28
        replace R2 := R2.new B28
        replace FP6_0 := FP6_0.new B28
        replace FM22 := FM22.new B28
        replace FP27_0 := FP27_0.new B28
        replace G := below_trans G B28 (Nat.le_refl _)
        have S28 := Lib.hid B28.size
        clear B28
        go_wp2_with fail
        refine (held_sent P10_0 _ pc10_0 _ _ (1) _ (by omega) (by omega) FM22.rd).mono ?_
        rintro e w29 hq
        obtain ⟨rfl, B29⟩ := hq.says
        replace R0 := R0.new B29
        replace R1 := R1.new B29
        replace R2 := R2.new B29
        replace FP6_0 := FP6_0.new B29
        replace FM22 := FM22.new B29
        replace FP27_0 := FP27_0.new B29
        replace G := below_trans G B29 (Nat.le_refl _)
        have S29 := Lib.hid B29.size
        clear B29
        go_wp2_with fail
        go_ret
        exact ⟨rfl, G⟩
      · skip
        go_enter Try.func5, Try.ntmps5
        go_wp2_with fail
        refine (sz_op A0 n0 c0 (1048576) _ hm0 (by omega) (by omega)).mono ?_
        rintro e w1 hq
        obtain ⟨rfl, B30⟩ := hq.says
        have G := B30
        have S1 := Lib.hid B30.size
        clear B30
        go_wp2_with fail
        refine (szno_flow A2 n2 c2 (1048576 - (n0 : Int)) _ hm2 (by omega) (by omega) (by omega)).mono ?_
        rintro e w2 hq
        obtain ⟨rfl, B31⟩ := hq.says
        replace G := below_trans G B31 (Nat.le_refl _)
        have S2 := Lib.hid B31.size
        clear B31
        go_wp2_with fail
        go_ret
        exact ⟨rfl, G⟩
    · skip
      go_enter Try.func5, Try.ntmps5
      go_wp2_with fail
      refine (szno_op A0 n0 c0 (1048576) _ hm0 (by omega) (by omega) (by omega)).mono ?_
      rintro e w1 hq
      obtain ⟨rfl, B32⟩ := hq.says
      have G := B32
      have S1 := Lib.hid B32.size
      clear B32
      go_wp2_with fail
      go_ret
      exact ⟨rfl, G⟩
  · go_enter Try.func5, Try.ntmps5
    go_wp2_with fail
    go_ret
    exact ⟨rfl, by repeat (first | exact Below.refl _ _ | (refine Below.alloc ?_ (by simp <;> omega) _))⟩

set_option maxRecDepth 100000 in
theorem lifted (os : Os) (started : os.Started) (H : Type) (enc : TypeId × Value → H) :
    ReturnsInHanded {} Try.checked os 5 .any (Rows.fnExactRunOpsSpec.pre6 enc Try.prog Try.f5 Rows.fnExactRunOpsRow.domain false) (Rows.fnExactRunOpsSpec.post enc Try.prog Try.f5 false true false false) := by
  refine law_lifted Try.func5 (by kernel_rfl) rfl rfl (by kernel_rfl) os started
    (ChangeSpec.witness6 (enc := enc) (C := Try.checked) false ⟨#[], #[.slice none 0 0, .slice none 0 0, .slice none 0 0, .int .i64 0], []⟩ 8 (by kernel_rfl) (by kernel_rfl) (by kernel_rfl) (by kernel_rfl)) ?_
  intro W base args ds p hval hA hlt
  rw [Try.params5] at hA hval
  obtain ⟨v0, vs0, d0, ds0, p0, q0, hargs, rfl, rfl, h0, r0⟩ := trodAll_cons hA
  obtain ⟨v1, vs1, d1, ds1, p1, q1, rfl, rfl, rfl, h1, r1⟩ := trodAll_cons r0
  obtain ⟨v2, vs2, d2, ds2, p2, q2, rfl, rfl, rfl, h2, r2⟩ := trodAll_cons r1
  obtain ⟨v3, vs3, d3, ds3, p3, q3, rfl, rfl, rfl, h3, r3⟩ := trodAll_cons r2
  obtain ⟨rfl, rfl, rfl⟩ := trodAll_nil r3
  obtain rfl : args = #[v0, v1, v2, v3] := by cases args; simp_all
  obtain ⟨A0, n0, c0, l0, rfl, m0, R0, H0⟩ := open_op_list (hval 0 51 v0 rfl rfl) h0 (fun x hx => hlt x (by simp [hx]))
  obtain ⟨A1, n1, c1, l1, rfl, m1, R1, H1⟩ := open_int_list (hval 1 29 v1 rfl rfl) h1 (fun x hx => hlt x (by simp [hx]))
  obtain ⟨A2, n2, c2, l2, rfl, m2, R2, H2⟩ := open_flow_list (hval 2 52 v2 rfl rfl) h2 (fun x hx => hlt x (by simp [hx]))
  obtain ⟨a3, rfl, rfl, rfl, wf3⟩ := open_int Try.underlying3 (hval 3 3 v3 rfl rfl) h3
  exact ⟨⟨rfl, rfl, rfl⟩, walk l0 A0 n0 c0 l1 A1 n1 c1 l2 A2 n2 c2 a3 W m0 R0 H0 m1 R1 H1 m2 R2 H2 wf3⟩

set_option maxRecDepth 100000 in
set_option maxHeartbeats 8000000 in
theorem closed : joinedFacts Try.pinned.checked.prog 5 Try.f5 Rows.fnExactRunOpsSpec Rows.fnExactRunOpsRow = true :=
  (and_i (and_i (and_i (and_i (and_i (and_i (and_i (and_i (and_i (and_i (and_i (and_i (and_i (and_i (and_i (and_i (and_i (and_i (and_i (and_i (and_i (and_i (and_i (and_i (and_i (and_i (and_i (and_i (and_i (and_i (and_i (by as_aux_lemma => kernel_rfl) seatLaid) sf_maps) (by as_aux_lemma => kernel_rfl)) (by as_aux_lemma => kernel_rfl)) (by as_aux_lemma => kernel_rfl)) (by as_aux_lemma => kernel_rfl)) (by as_aux_lemma => kernel_rfl)) (by as_aux_lemma => kernel_rfl)) (by as_aux_lemma => kernel_rfl)) (by as_aux_lemma => kernel_rfl)) (by as_aux_lemma => kernel_rfl)) (by as_aux_lemma => kernel_rfl)) (by as_aux_lemma => kernel_rfl)) (by as_aux_lemma => kernel_rfl)) (by as_aux_lemma => kernel_rfl)) (by as_aux_lemma => kernel_rfl)) (by as_aux_lemma => kernel_rfl)) (by as_aux_lemma => kernel_rfl)) (by as_aux_lemma => kernel_rfl)) (by as_aux_lemma => kernel_rfl)) (by as_aux_lemma => kernel_rfl)) sf_plain) (by as_aux_lemma => kernel_rfl)) sf_heard) sf_enter) sf_lifts) sf_make) (by as_aux_lemma => kernel_rfl)) (by as_aux_lemma => kernel_rfl)) (by as_aux_lemma => kernel_rfl)) (by as_aux_lemma => kernel_rfl))

theorem over : Rows.fnExactRunOpsRow.holds Try.pinned (OpenSpec.ofChange Rows.fnExactRunOpsSpec) :=
  OpenClaim.holds_of_wide 5 Try.f5 rfl rfl rfl rfl rfl rfl rfl ⟨rfl, rfl, rfl, rfl, rfl⟩ rfl rfl rfl rfl rfl (by kernel_rfl) Try.func5 closed
    (of_decide_eq_true (by kernel_rfl)) (by unfold Func.isWrapper; first | (rw [if_pos (by decide +kernel)]; kernel_rfl) | (rw [if_neg (by decide +kernel)]; exact ⟨rfl, rfl⟩))
    (fun os started H enc _ => lifted os started H enc)

theorem proved : Rows.FnExactRunOpsSaid := over
#print axioms proved
end Go.Proofs.Ytcankpiidjhhpaa.fnExactRunOps
