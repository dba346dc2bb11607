/- The law FnExactPackageInts answers true for every argument, and leaves each argument as it was. No condition. -/
import Derived.Deep.RegionHeld3
import Derived.Deep.DeepCutAuto
import Derived.Test.YtejcioenoofjlaaFacts
import Derived.Test.YtejcioenoofjlaaRPackage
import Derived.Test.YtejcioenoofjlaaSlI
import Derived.Test.YtejcioenoofjlaaPkS
namespace Go.Proofs.Ytejcioenoofjlaa.fnExactPackageInts
open Go Go.ChangeShapes Go.WideShapes Go.ChangeAt Go.RowKit Go.Lib
open Go.ChangeMaps (open_string)
set_option linter.unusedVariables false
set_option linter.unusedSimpArgs false
set_option maxRecDepth 100000

set_option maxRecDepth 100000 in
set_option maxHeartbeats 20000000 in
theorem walk (p0_0 : Int) (p0_1 : Int) (p0_2 : Int) (l0_3 : List TGrant) (A0_3 : Option Addr) (n0_3 c0_3 : Nat) (l0_4 : List TFlow) (A0_4 : Option Addr) (n0_4 c0_4 : Nat) (l0_5 : List TRule) (A0_5 : Option Addr) (n0_5 c0_5 : Nat) (l0_6 : List TOp) (A0_6 : Option Addr) (n0_6 c0_6 : Nat) (p0_7 : Int) (w : World) (wf0_0 : (Lit.int .i64 p0_0).wf = true) (wf0_1 : (Lit.int .i64 p0_1).wf = true) (wf0_2 : (Lit.int .i64 p0_2).wf = true) (hm0_3 : n0_3 ≤ maxLen) (R0_3 : Rd w 0 w.heap.size 7 A0_3 n0_3 (cGrant l0_3)) (H0_3 : Hid (cGrantOk l0_3)) (hm0_4 : n0_4 ≤ maxLen) (R0_4 : Rd w 0 w.heap.size 3 A0_4 n0_4 (cFlow l0_4)) (H0_4 : Hid (cFlowOk l0_4)) (hm0_5 : n0_5 ≤ maxLen) (R0_5 : Rd w 0 w.heap.size 8 A0_5 n0_5 (cRule l0_5)) (H0_5 : Hid (cRuleOk l0_5)) (hm0_6 : n0_6 ≤ maxLen) (R0_6 : Rd w 0 w.heap.size 4 A0_6 n0_6 (cOp l0_6)) (H0_6 : Hid (cOpOk l0_6)) (wf0_7 : (Lit.int .i64 p0_7).wf = true) :
    Calls Try.prog 5 #[.agg #[.int .i64 p0_0, .int .i64 p0_1, .int .i64 p0_2, .slice A0_3 n0_3 c0_3, .slice A0_4 n0_4 c0_4, .slice A0_5 n0_5 c0_5, .slice A0_6 n0_6 c0_6, .int .i64 p0_7]] w fun e w' => e = .returned (.bool true) ∧ Below w.heap.size w w' := by
  have hm0_3 : n0_3 ≤ 9223372036854775807 := hm0_3
  have hm0_4 : n0_4 ≤ 9223372036854775807 := hm0_4
  have hm0_5 : n0_5 ≤ 9223372036854775807 := hm0_5
  have hm0_6 : n0_6 ≤ 9223372036854775807 := hm0_6
  have Wf0_0 := Lib.hid wf0_0
  clear wf0_0
  have Wf0_1 := Lib.hid wf0_1
  clear wf0_1
  have Wf0_2 := Lib.hid wf0_2
  clear wf0_2
  have Wf0_7 := Lib.hid wf0_7
  clear wf0_7
  by_cases hz0 : n0_3 + n0_4 + n0_5 + n0_6 ≤ 1048576
  · skip
    have hl0 : (mPInts p0_0 p0_1 p0_2 l0_3 l0_4 l0_5 l0_6).length ≤ 1073741823 := by (have := rd_len TGrant.len R0_3 (by decide); have := rd_len TFlow.len R0_4 (by decide); have := rd_len TRule.len R0_5 (by decide); have := rd_len TOp.len R0_6 (by decide); have := mPInts_len p0_0 p0_1 p0_2 l0_3 l0_4 l0_5 l0_6; omega)
    have hqn0_3 : n0_3 ≤ 17179869184 := by omega
    have hqn0_4 : n0_4 ≤ 17179869184 := by omega
    have hqn0_5 : n0_5 ≤ 17179869184 := by omega
    have hqn0_6 : n0_6 ≤ 17179869184 := by omega
    have G : Below w.heap.size w (w.alloc (.cells #[.int .i64 p0_0, .int .i64 p0_1, .int .i64 p0_2, .slice A0_3 n0_3 c0_3, .slice A0_4 n0_4 c0_4, .slice A0_5 n0_5 c0_5, .slice A0_6 n0_6 c0_6, .int .i64 p0_7] 39)) := (Below.refl _ _).alloc (by simp) _
    have S0 := Lib.hid (show (w.alloc (.cells #[.int .i64 p0_0, .int .i64 p0_1, .int .i64 p0_2, .slice A0_3 n0_3 c0_3, .slice A0_4 n0_4 c0_4, .slice A0_5 n0_5 c0_5, .slice A0_6 n0_6 c0_6, .int .i64 p0_7] 39)).heap.size = w.heap.size + 1 by simp)
    replace R0_3 := R0_3.alloc (.cells #[.int .i64 p0_0, .int .i64 p0_1, .int .i64 p0_2, .slice A0_3 n0_3 c0_3, .slice A0_4 n0_4 c0_4, .slice A0_5 n0_5 c0_5, .slice A0_6 n0_6 c0_6, .int .i64 p0_7] 39)
    replace R0_4 := R0_4.alloc (.cells #[.int .i64 p0_0, .int .i64 p0_1, .int .i64 p0_2, .slice A0_3 n0_3 c0_3, .slice A0_4 n0_4 c0_4, .slice A0_5 n0_5 c0_5, .slice A0_6 n0_6 c0_6, .int .i64 p0_7] 39)
    replace R0_5 := R0_5.alloc (.cells #[.int .i64 p0_0, .int .i64 p0_1, .int .i64 p0_2, .slice A0_3 n0_3 c0_3, .slice A0_4 n0_4 c0_4, .slice A0_5 n0_5 c0_5, .slice A0_6 n0_6 c0_6, .int .i64 p0_7] 39)
    replace R0_6 := R0_6.alloc (.cells #[.int .i64 p0_0, .int .i64 p0_1, .int .i64 p0_2, .slice A0_3 n0_3 c0_3, .slice A0_4 n0_4 c0_4, .slice A0_5 n0_5 c0_5, .slice A0_6 n0_6 c0_6, .int .i64 p0_7] 39)
    have KB0 : BoxAt (w.alloc (.cells #[.int .i64 p0_0, .int .i64 p0_1, .int .i64 p0_2, .slice A0_3 n0_3 c0_3, .slice A0_4 n0_4 c0_4, .slice A0_5 n0_5 c0_5, .slice A0_6 n0_6 c0_6, .int .i64 p0_7] 39)) (w.heap.size) 39 #[.int .i64 p0_0, .int .i64 p0_1, .int .i64 p0_2, .slice A0_3 n0_3 c0_3, .slice A0_4 n0_4 c0_4, .slice A0_5 n0_5 c0_5, .slice A0_6 n0_6 c0_6, .int .i64 p0_7] := box_new _ _ _
    go_enter Try.func5, Try.ntmps5
    have xKB0_0 : (w.alloc (.cells #[.int .i64 p0_0, .int .i64 p0_1, .int .i64 p0_2, .slice A0_3 n0_3 c0_3, .slice A0_4 n0_4 c0_4, .slice A0_5 n0_5 c0_5, .slice A0_6 n0_6 c0_6, .int .i64 p0_7] 39)).cell? ⟨w.heap.size, 0, none⟩ = some (.int .i64 p0_0) := KB0.at_ rfl
    have xKB0_1 : (w.alloc (.cells #[.int .i64 p0_0, .int .i64 p0_1, .int .i64 p0_2, .slice A0_3 n0_3 c0_3, .slice A0_4 n0_4 c0_4, .slice A0_5 n0_5 c0_5, .slice A0_6 n0_6 c0_6, .int .i64 p0_7] 39)).cell? ⟨w.heap.size, 1, none⟩ = some (.int .i64 p0_1) := KB0.at_ rfl
    have xKB0_2 : (w.alloc (.cells #[.int .i64 p0_0, .int .i64 p0_1, .int .i64 p0_2, .slice A0_3 n0_3 c0_3, .slice A0_4 n0_4 c0_4, .slice A0_5 n0_5 c0_5, .slice A0_6 n0_6 c0_6, .int .i64 p0_7] 39)).cell? ⟨w.heap.size, 2, none⟩ = some (.int .i64 p0_2) := KB0.at_ rfl
    have xKB0_3 : (w.alloc (.cells #[.int .i64 p0_0, .int .i64 p0_1, .int .i64 p0_2, .slice A0_3 n0_3 c0_3, .slice A0_4 n0_4 c0_4, .slice A0_5 n0_5 c0_5, .slice A0_6 n0_6 c0_6, .int .i64 p0_7] 39)).cell? ⟨w.heap.size, 3, none⟩ = some (.slice A0_3 n0_3 c0_3) := KB0.at_ rfl
    have xKB0_4 : (w.alloc (.cells #[.int .i64 p0_0, .int .i64 p0_1, .int .i64 p0_2, .slice A0_3 n0_3 c0_3, .slice A0_4 n0_4 c0_4, .slice A0_5 n0_5 c0_5, .slice A0_6 n0_6 c0_6, .int .i64 p0_7] 39)).cell? ⟨w.heap.size, 4, none⟩ = some (.slice A0_4 n0_4 c0_4) := KB0.at_ rfl
    have xKB0_5 : (w.alloc (.cells #[.int .i64 p0_0, .int .i64 p0_1, .int .i64 p0_2, .slice A0_3 n0_3 c0_3, .slice A0_4 n0_4 c0_4, .slice A0_5 n0_5 c0_5, .slice A0_6 n0_6 c0_6, .int .i64 p0_7] 39)).cell? ⟨w.heap.size, 5, none⟩ = some (.slice A0_5 n0_5 c0_5) := KB0.at_ rfl
    have xKB0_6 : (w.alloc (.cells #[.int .i64 p0_0, .int .i64 p0_1, .int .i64 p0_2, .slice A0_3 n0_3 c0_3, .slice A0_4 n0_4 c0_4, .slice A0_5 n0_5 c0_5, .slice A0_6 n0_6 c0_6, .int .i64 p0_7] 39)).cell? ⟨w.heap.size, 6, none⟩ = some (.slice A0_6 n0_6 c0_6) := KB0.at_ rfl
    have xKB0_7 : (w.alloc (.cells #[.int .i64 p0_0, .int .i64 p0_1, .int .i64 p0_2, .slice A0_3 n0_3 c0_3, .slice A0_4 n0_4 c0_4, .slice A0_5 n0_5 c0_5, .slice A0_6 n0_6 c0_6, .int .i64 p0_7] 39)).cell? ⟨w.heap.size, 7, none⟩ = some (.int .i64 p0_7) := KB0.at_ rfl
    go_wp2_with fail
    refine Calls.mono (sz_package p0_0 p0_1 p0_2 A0_3 n0_3 c0_3 A0_4 n0_4 c0_4 A0_5 n0_5 c0_5 A0_6 n0_6 c0_6 p0_7 (1048576) _ hm0_3 hm0_4 hm0_5 hm0_6 (by omega) (by omega)) ?_
    rintro e w1 ⟨rfl, B1⟩
    replace R0_3 := (R0_3).new B1
    replace R0_4 := (R0_4).new B1
    replace R0_5 := (R0_5).new B1
    replace R0_6 := (R0_6).new B1
    replace KB0 := (KB0).new B1
    replace G := below_trans G B1 (Nat.le_refl _)
    have S1 := Lib.hid (show (w.alloc (.cells #[.int .i64 p0_0, .int .i64 p0_1, .int .i64 p0_2, .slice A0_3 n0_3 c0_3, .slice A0_4 n0_4 c0_4, .slice A0_5 n0_5 c0_5, .slice A0_6 n0_6 c0_6, .int .i64 p0_7] 39)).heap.size + 0 ≤ w1.heap.size by have := B1.size; first | (simpa using this) | ((try simp at this); omega))
    clear B1
    clear xKB0_0 xKB0_1 xKB0_2 xKB0_3 xKB0_4 xKB0_5 xKB0_6 xKB0_7
    have xKB0_0 : w1.cell? ⟨w.heap.size, 0, none⟩ = some (.int .i64 p0_0) := KB0.at_ rfl
    have xKB0_1 : w1.cell? ⟨w.heap.size, 1, none⟩ = some (.int .i64 p0_1) := KB0.at_ rfl
    have xKB0_2 : w1.cell? ⟨w.heap.size, 2, none⟩ = some (.int .i64 p0_2) := KB0.at_ rfl
    have xKB0_3 : w1.cell? ⟨w.heap.size, 3, none⟩ = some (.slice A0_3 n0_3 c0_3) := KB0.at_ rfl
    have xKB0_4 : w1.cell? ⟨w.heap.size, 4, none⟩ = some (.slice A0_4 n0_4 c0_4) := KB0.at_ rfl
    have xKB0_5 : w1.cell? ⟨w.heap.size, 5, none⟩ = some (.slice A0_5 n0_5 c0_5) := KB0.at_ rfl
    have xKB0_6 : w1.cell? ⟨w.heap.size, 6, none⟩ = some (.slice A0_6 n0_6 c0_6) := KB0.at_ rfl
    have xKB0_7 : w1.cell? ⟨w.heap.size, 7, none⟩ = some (.int .i64 p0_7) := KB0.at_ rfl
    go_wp2_with fail
    refine Calls.mono (to_package p0_0 p0_1 p0_2 l0_3 A0_3 n0_3 c0_3 _ _ l0_4 A0_4 n0_4 c0_4 _ _ l0_5 A0_5 n0_5 c0_5 _ _ l0_6 A0_6 n0_6 c0_6 _ _ p0_7 _ hqn0_3 R0_3 hqn0_4 R0_4 hqn0_5 R0_5 hqn0_6 R0_6) ?_
    rintro e w2 ⟨T2_3, T2_4, T2_5, T2_6, tc2_3, tlo2_3, thi2_3, tc2_4, tlo2_4, thi2_4, tc2_5, tlo2_5, thi2_5, tc2_6, tlo2_6, thi2_6, rfl, FT2_3, FT2_4, FT2_5, FT2_6, MT2, B2⟩
    replace R0_3 := (R0_3).new B2
    replace R0_4 := (R0_4).new B2
    replace R0_5 := (R0_5).new B2
    replace R0_6 := (R0_6).new B2
    replace KB0 := (KB0).new B2
    replace G := below_trans G B2 (Nat.le_refl _)
    have S2 := Lib.hid (show w1.heap.size + 0 ≤ w2.heap.size by have := B2.size; first | (simpa using this) | ((try simp at this); omega))
    clear B2
    clear xKB0_0 xKB0_1 xKB0_2 xKB0_3 xKB0_4 xKB0_5 xKB0_6 xKB0_7
    go_wp2_with fail
    refine Calls.mono (spec_PackageInts p0_0 p0_1 p0_2 l0_3 T2_3 n0_3 tc2_3 _ _ l0_4 T2_4 n0_4 tc2_4 _ _ l0_5 T2_5 n0_5 tc2_5 _ _ l0_6 T2_6 n0_6 tc2_6 _ _ p0_7 _ (by omega) FT2_3.rd FT2_3.cap H0_3 (by omega) FT2_4.rd FT2_4.cap H0_4 (by omega) FT2_5.rd FT2_5.cap H0_5 (by omega) FT2_6.rd FT2_6.cap H0_6) ?_
    rintro e w3 ⟨P3_0, pc3_0, rfl, FP3_0, B3⟩
    replace R0_3 := (R0_3).new B3
    replace R0_4 := (R0_4).new B3
    replace R0_5 := (R0_5).new B3
    replace R0_6 := (R0_6).new B3
    replace KB0 := (KB0).new B3
    replace FT2_3 := (FT2_3).new B3
    replace FT2_4 := (FT2_4).new B3
    replace FT2_5 := (FT2_5).new B3
    replace FT2_6 := (FT2_6).new B3
    replace G := below_trans G B3 (Nat.le_refl _)
    have S3 := Lib.hid (show w2.heap.size + 0 ≤ w3.heap.size by have := B3.size; first | (simpa using this) | ((try simp at this); omega))
    clear B3
    clear FT2_3
    clear FT2_4
    clear FT2_5
    clear FT2_6
    have xKB0_0 : w3.cell? ⟨w.heap.size, 0, none⟩ = some (.int .i64 p0_0) := KB0.at_ rfl
    have xKB0_1 : w3.cell? ⟨w.heap.size, 1, none⟩ = some (.int .i64 p0_1) := KB0.at_ rfl
    have xKB0_2 : w3.cell? ⟨w.heap.size, 2, none⟩ = some (.int .i64 p0_2) := KB0.at_ rfl
    have xKB0_3 : w3.cell? ⟨w.heap.size, 3, none⟩ = some (.slice A0_3 n0_3 c0_3) := KB0.at_ rfl
    have xKB0_4 : w3.cell? ⟨w.heap.size, 4, none⟩ = some (.slice A0_4 n0_4 c0_4) := KB0.at_ rfl
    have xKB0_5 : w3.cell? ⟨w.heap.size, 5, none⟩ = some (.slice A0_5 n0_5 c0_5) := KB0.at_ rfl
    have xKB0_6 : w3.cell? ⟨w.heap.size, 6, none⟩ = some (.slice A0_6 n0_6 c0_6) := KB0.at_ rfl
    have xKB0_7 : w3.cell? ⟨w.heap.size, 7, none⟩ = some (.int .i64 p0_7) := KB0.at_ rfl
    go_wp2_with fail
    refine Calls.mono (to_package p0_0 p0_1 p0_2 l0_3 A0_3 n0_3 c0_3 _ _ l0_4 A0_4 n0_4 c0_4 _ _ l0_5 A0_5 n0_5 c0_5 _ _ l0_6 A0_6 n0_6 c0_6 _ _ p0_7 _ hqn0_3 R0_3 hqn0_4 R0_4 hqn0_5 R0_5 hqn0_6 R0_6) ?_
    rintro e w4 ⟨T4_3, T4_4, T4_5, T4_6, tc4_3, tlo4_3, thi4_3, tc4_4, tlo4_4, thi4_4, tc4_5, tlo4_5, thi4_5, tc4_6, tlo4_6, thi4_6, rfl, FT4_3, FT4_4, FT4_5, FT4_6, MT4, B4⟩
    replace R0_3 := (R0_3).new B4
    replace R0_4 := (R0_4).new B4
    replace R0_5 := (R0_5).new B4
    replace R0_6 := (R0_6).new B4
    replace KB0 := (KB0).new B4
    replace FP3_0 := (FP3_0).new B4
    replace G := below_trans G B4 (Nat.le_refl _)
    have S4 := Lib.hid (show w3.heap.size + 0 ≤ w4.heap.size by have := B4.size; first | (simpa using this) | ((try simp at this); omega))
    clear B4
    clear xKB0_0 xKB0_1 xKB0_2 xKB0_3 xKB0_4 xKB0_5 xKB0_6 xKB0_7
    have SA6 := Lib.hid (show (w4.alloc (.cells #[.int .i64 p0_0, .int .i64 p0_1, .int .i64 p0_2, .slice T4_3 n0_3 tc4_3, .slice T4_4 n0_4 tc4_4, .slice T4_5 n0_5 tc4_5, .slice T4_6 n0_6 tc4_6, .int .i64 p0_7] 46)).heap.size = w4.heap.size + 1 by simp)
    replace R0_3 := R0_3.alloc (.cells #[.int .i64 p0_0, .int .i64 p0_1, .int .i64 p0_2, .slice T4_3 n0_3 tc4_3, .slice T4_4 n0_4 tc4_4, .slice T4_5 n0_5 tc4_5, .slice T4_6 n0_6 tc4_6, .int .i64 p0_7] 46)
    replace R0_4 := R0_4.alloc (.cells #[.int .i64 p0_0, .int .i64 p0_1, .int .i64 p0_2, .slice T4_3 n0_3 tc4_3, .slice T4_4 n0_4 tc4_4, .slice T4_5 n0_5 tc4_5, .slice T4_6 n0_6 tc4_6, .int .i64 p0_7] 46)
    replace R0_5 := R0_5.alloc (.cells #[.int .i64 p0_0, .int .i64 p0_1, .int .i64 p0_2, .slice T4_3 n0_3 tc4_3, .slice T4_4 n0_4 tc4_4, .slice T4_5 n0_5 tc4_5, .slice T4_6 n0_6 tc4_6, .int .i64 p0_7] 46)
    replace R0_6 := R0_6.alloc (.cells #[.int .i64 p0_0, .int .i64 p0_1, .int .i64 p0_2, .slice T4_3 n0_3 tc4_3, .slice T4_4 n0_4 tc4_4, .slice T4_5 n0_5 tc4_5, .slice T4_6 n0_6 tc4_6, .int .i64 p0_7] 46)
    replace KB0 := KB0.alloc_ (.cells #[.int .i64 p0_0, .int .i64 p0_1, .int .i64 p0_2, .slice T4_3 n0_3 tc4_3, .slice T4_4 n0_4 tc4_4, .slice T4_5 n0_5 tc4_5, .slice T4_6 n0_6 tc4_6, .int .i64 p0_7] 46)
    replace FP3_0 := FP3_0.alloc (.cells #[.int .i64 p0_0, .int .i64 p0_1, .int .i64 p0_2, .slice T4_3 n0_3 tc4_3, .slice T4_4 n0_4 tc4_4, .slice T4_5 n0_5 tc4_5, .slice T4_6 n0_6 tc4_6, .int .i64 p0_7] 46)
    replace FT4_3 := FT4_3.alloc (.cells #[.int .i64 p0_0, .int .i64 p0_1, .int .i64 p0_2, .slice T4_3 n0_3 tc4_3, .slice T4_4 n0_4 tc4_4, .slice T4_5 n0_5 tc4_5, .slice T4_6 n0_6 tc4_6, .int .i64 p0_7] 46)
    replace FT4_4 := FT4_4.alloc (.cells #[.int .i64 p0_0, .int .i64 p0_1, .int .i64 p0_2, .slice T4_3 n0_3 tc4_3, .slice T4_4 n0_4 tc4_4, .slice T4_5 n0_5 tc4_5, .slice T4_6 n0_6 tc4_6, .int .i64 p0_7] 46)
    replace FT4_5 := FT4_5.alloc (.cells #[.int .i64 p0_0, .int .i64 p0_1, .int .i64 p0_2, .slice T4_3 n0_3 tc4_3, .slice T4_4 n0_4 tc4_4, .slice T4_5 n0_5 tc4_5, .slice T4_6 n0_6 tc4_6, .int .i64 p0_7] 46)
    replace FT4_6 := FT4_6.alloc (.cells #[.int .i64 p0_0, .int .i64 p0_1, .int .i64 p0_2, .slice T4_3 n0_3 tc4_3, .slice T4_4 n0_4 tc4_4, .slice T4_5 n0_5 tc4_5, .slice T4_6 n0_6 tc4_6, .int .i64 p0_7] 46)
    have KX5 : BoxAt (w4.alloc (.cells #[.int .i64 p0_0, .int .i64 p0_1, .int .i64 p0_2, .slice T4_3 n0_3 tc4_3, .slice T4_4 n0_4 tc4_4, .slice T4_5 n0_5 tc4_5, .slice T4_6 n0_6 tc4_6, .int .i64 p0_7] 46)) (w4.heap.size) 46 #[.int .i64 p0_0, .int .i64 p0_1, .int .i64 p0_2, .slice T4_3 n0_3 tc4_3, .slice T4_4 n0_4 tc4_4, .slice T4_5 n0_5 tc4_5, .slice T4_6 n0_6 tc4_6, .int .i64 p0_7] := box_new _ _ _
    replace G := G.alloc (by have := S0.out; have := S1.out; have := S2.out; have := S3.out; have := S4.out; have := SA6.out; have := SepPackage_bd MT2.out; have := SepPackage_bd MT4.out; first | omega | (simp; omega)) (.cells #[.int .i64 p0_0, .int .i64 p0_1, .int .i64 p0_2, .slice T4_3 n0_3 tc4_3, .slice T4_4 n0_4 tc4_4, .slice T4_5 n0_5 tc4_5, .slice T4_6 n0_6 tc4_6, .int .i64 p0_7] 46)
    have xKX5_0 : (w4.alloc (.cells #[.int .i64 p0_0, .int .i64 p0_1, .int .i64 p0_2, .slice T4_3 n0_3 tc4_3, .slice T4_4 n0_4 tc4_4, .slice T4_5 n0_5 tc4_5, .slice T4_6 n0_6 tc4_6, .int .i64 p0_7] 46)).cell? ⟨w4.heap.size, 0, none⟩ = some (.int .i64 p0_0) := KX5.at_ rfl
    have xKX5_1 : (w4.alloc (.cells #[.int .i64 p0_0, .int .i64 p0_1, .int .i64 p0_2, .slice T4_3 n0_3 tc4_3, .slice T4_4 n0_4 tc4_4, .slice T4_5 n0_5 tc4_5, .slice T4_6 n0_6 tc4_6, .int .i64 p0_7] 46)).cell? ⟨w4.heap.size, 1, none⟩ = some (.int .i64 p0_1) := KX5.at_ rfl
    have xKX5_2 : (w4.alloc (.cells #[.int .i64 p0_0, .int .i64 p0_1, .int .i64 p0_2, .slice T4_3 n0_3 tc4_3, .slice T4_4 n0_4 tc4_4, .slice T4_5 n0_5 tc4_5, .slice T4_6 n0_6 tc4_6, .int .i64 p0_7] 46)).cell? ⟨w4.heap.size, 2, none⟩ = some (.int .i64 p0_2) := KX5.at_ rfl
    have xKX5_3 : (w4.alloc (.cells #[.int .i64 p0_0, .int .i64 p0_1, .int .i64 p0_2, .slice T4_3 n0_3 tc4_3, .slice T4_4 n0_4 tc4_4, .slice T4_5 n0_5 tc4_5, .slice T4_6 n0_6 tc4_6, .int .i64 p0_7] 46)).cell? ⟨w4.heap.size, 3, none⟩ = some (.slice T4_3 n0_3 tc4_3) := KX5.at_ rfl
    have xKX5_4 : (w4.alloc (.cells #[.int .i64 p0_0, .int .i64 p0_1, .int .i64 p0_2, .slice T4_3 n0_3 tc4_3, .slice T4_4 n0_4 tc4_4, .slice T4_5 n0_5 tc4_5, .slice T4_6 n0_6 tc4_6, .int .i64 p0_7] 46)).cell? ⟨w4.heap.size, 4, none⟩ = some (.slice T4_4 n0_4 tc4_4) := KX5.at_ rfl
    have xKX5_5 : (w4.alloc (.cells #[.int .i64 p0_0, .int .i64 p0_1, .int .i64 p0_2, .slice T4_3 n0_3 tc4_3, .slice T4_4 n0_4 tc4_4, .slice T4_5 n0_5 tc4_5, .slice T4_6 n0_6 tc4_6, .int .i64 p0_7] 46)).cell? ⟨w4.heap.size, 5, none⟩ = some (.slice T4_5 n0_5 tc4_5) := KX5.at_ rfl
    have xKX5_6 : (w4.alloc (.cells #[.int .i64 p0_0, .int .i64 p0_1, .int .i64 p0_2, .slice T4_3 n0_3 tc4_3, .slice T4_4 n0_4 tc4_4, .slice T4_5 n0_5 tc4_5, .slice T4_6 n0_6 tc4_6, .int .i64 p0_7] 46)).cell? ⟨w4.heap.size, 6, none⟩ = some (.slice T4_6 n0_6 tc4_6) := KX5.at_ rfl
    have xKX5_7 : (w4.alloc (.cells #[.int .i64 p0_0, .int .i64 p0_1, .int .i64 p0_2, .slice T4_3 n0_3 tc4_3, .slice T4_4 n0_4 tc4_4, .slice T4_5 n0_5 tc4_5, .slice T4_6 n0_6 tc4_6, .int .i64 p0_7] 46)).cell? ⟨w4.heap.size, 7, none⟩ = some (.int .i64 p0_7) := KX5.at_ rfl
    go_wp2_with fail
    refine Calls.mono (impl_PackageIntsC p0_0 p0_1 p0_2 l0_3 T4_3 n0_3 tc4_3 _ _ l0_4 T4_4 n0_4 tc4_4 _ _ l0_5 T4_5 n0_5 tc4_5 _ _ l0_6 T4_6 n0_6 tc4_6 _ _ p0_7 _ (by omega) FT4_3.rd FT4_3.cap H0_3 (by omega) FT4_4.rd FT4_4.cap H0_4 (by omega) FT4_5.rd FT4_5.cap H0_5 (by omega) FT4_6.rd FT4_6.cap H0_6) ?_
    rintro e w5 ⟨P7_0, pc7_0, rfl, FP7_0, B7⟩
    replace R0_3 := (R0_3).new B7
    replace R0_4 := (R0_4).new B7
    replace R0_5 := (R0_5).new B7
    replace R0_6 := (R0_6).new B7
    replace KB0 := (KB0).new B7
    replace FP3_0 := (FP3_0).new B7
    replace FT4_3 := (FT4_3).new B7
    replace FT4_4 := (FT4_4).new B7
    replace FT4_5 := (FT4_5).new B7
    replace FT4_6 := (FT4_6).new B7
    replace KX5 := (KX5).new B7
    replace G := below_trans G B7 (Nat.le_refl _)
    have S5 := Lib.hid (show (w4.alloc (.cells #[.int .i64 p0_0, .int .i64 p0_1, .int .i64 p0_2, .slice T4_3 n0_3 tc4_3, .slice T4_4 n0_4 tc4_4, .slice T4_5 n0_5 tc4_5, .slice T4_6 n0_6 tc4_6, .int .i64 p0_7] 46)).heap.size + 0 ≤ w5.heap.size by have := B7.size; first | (simpa using this) | ((try simp at this); omega))
    clear B7
    clear xKX5_0 xKX5_1 xKX5_2 xKX5_3 xKX5_4 xKX5_5 xKX5_6 xKX5_7
    go_wp2_with fail
    refine Calls.mono (eq_int_same (mPInts p0_0 p0_1 p0_2 l0_3 l0_4 l0_5 l0_6) P7_0 P3_0 ((mPInts p0_0 p0_1 p0_2 l0_3 l0_4 l0_5 l0_6).length) ((mPInts p0_0 p0_1 p0_2 l0_3 l0_4 l0_5 l0_6).length) pc7_0 pc3_0 _ _ _ _ _ (by omega) (by omega) FP7_0.rd FP3_0.rd) ?_
    rintro e w6 hq
    obtain ⟨rfl, B8⟩ := hq.says
    replace R0_3 := (R0_3).new B8
    replace R0_4 := (R0_4).new B8
    replace R0_5 := (R0_5).new B8
    replace R0_6 := (R0_6).new B8
    replace KB0 := (KB0).new B8
    replace FP3_0 := (FP3_0).new B8
    replace FT4_3 := (FT4_3).new B8
    replace FT4_4 := (FT4_4).new B8
    replace FT4_5 := (FT4_5).new B8
    replace FT4_6 := (FT4_6).new B8
    replace KX5 := (KX5).new B8
    replace FP7_0 := (FP7_0).new B8
    replace G := below_trans G B8 (Nat.le_refl _)
    have S6 := Lib.hid (show w5.heap.size + 0 ≤ w6.heap.size by have := B8.size; first | (simpa using this) | ((try simp at this); omega))
    clear B8
    go_wp2_with fail
    replace G := G.drew
    replace R0_3 := R0_3.drw
    replace R0_4 := R0_4.drw
    replace R0_5 := R0_5.drw
    replace R0_6 := R0_6.drw
    replace KB0 := KB0.drw
    replace FP3_0 := FP3_0.drw
    replace FT4_3 := FT4_3.drw
    replace FT4_4 := FT4_4.drw
    replace FT4_5 := FT4_5.drw
    replace FT4_6 := FT4_6.drw
    replace KX5 := KX5.drw
    replace FP7_0 := FP7_0.drw
    go_region_held3 (fun w' => w'.cell? ⟨w4.heap.size, 0, none⟩ = some (.int .i64 p0_0) ∧ w'.cell? ⟨w4.heap.size, 1, none⟩ = some (.int .i64 p0_1) ∧ w'.cell? ⟨w4.heap.size, 2, none⟩ = some (.int .i64 p0_2) ∧ w'.cell? ⟨w4.heap.size, 3, none⟩ = some (.slice T4_3 n0_3 tc4_3) ∧ w'.cell? ⟨w4.heap.size, 4, none⟩ = some (.slice T4_4 n0_4 tc4_4) ∧ w'.cell? ⟨w4.heap.size, 5, none⟩ = some (.slice T4_5 n0_5 tc4_5) ∧ w'.cell? ⟨w4.heap.size, 6, none⟩ = some (.slice T4_6 n0_6 tc4_6) ∧ w'.cell? ⟨w4.heap.size, 7, none⟩ = some (.int .i64 p0_7) ∧ w'.cell? ⟨w.heap.size, 0, none⟩ = some (.int .i64 p0_0) ∧ w'.cell? ⟨w.heap.size, 1, none⟩ = some (.int .i64 p0_1) ∧ w'.cell? ⟨w.heap.size, 2, none⟩ = some (.int .i64 p0_2) ∧ w'.cell? ⟨w.heap.size, 3, none⟩ = some (.slice A0_3 n0_3 c0_3) ∧ w'.cell? ⟨w.heap.size, 4, none⟩ = some (.slice A0_4 n0_4 c0_4) ∧ w'.cell? ⟨w.heap.size, 5, none⟩ = some (.slice A0_5 n0_5 c0_5) ∧ w'.cell? ⟨w.heap.size, 6, none⟩ = some (.slice A0_6 n0_6 c0_6) ∧ w'.cell? ⟨w.heap.size, 7, none⟩ = some (.int .i64 p0_7))
      (exact ⟨KX5.at_ rfl, KX5.at_ rfl, KX5.at_ rfl, KX5.at_ rfl, KX5.at_ rfl, KX5.at_ rfl, KX5.at_ rfl, KX5.at_ rfl, KB0.at_ rfl, KB0.at_ rfl, KB0.at_ rfl, KB0.at_ rfl, KB0.at_ rfl, KB0.at_ rfl, KB0.at_ rfl, KB0.at_ rfl⟩)
      (first
        | (go_at_call 27; (fail_if_success (have hx := B9)); refine Calls.mono (to_package p0_0 p0_1 p0_2 l0_3 A0_3 n0_3 c0_3 _ _ l0_4 A0_4 n0_4 c0_4 _ _ l0_5 A0_5 n0_5 c0_5 _ _ l0_6 A0_6 n0_6 c0_6 _ _ p0_7 _ hqn0_3 R0_3 hqn0_4 R0_4 hqn0_5 R0_5 hqn0_6 R0_6) ?_; rintro e w7 ⟨T9_3, T9_4, T9_5, T9_6, tc9_3, tlo9_3, thi9_3, tc9_4, tlo9_4, thi9_4, tc9_5, tlo9_5, thi9_5, tc9_6, tlo9_6, thi9_6, rfl, FT9_3, FT9_4, FT9_5, FT9_6, MT9, B9⟩; (replace R0_3 := rd_nw B9 R0_3); (replace R0_4 := rd_nw B9 R0_4); (replace R0_5 := rd_nw B9 R0_5); (replace R0_6 := rd_nw B9 R0_6); (replace KB0 := box_nw B9 KB0); (replace FP3_0 := fr_nw B9 FP3_0); (replace FT4_3 := fr_nw B9 FT4_3); (replace FT4_4 := fr_nw B9 FT4_4); (replace FT4_5 := fr_nw B9 FT4_5); (replace FT4_6 := fr_nw B9 FT4_6); (replace KX5 := box_nw B9 KX5); (replace FP7_0 := fr_nw B9 FP7_0); (replace G := (by first | exact below_trans G B9 (Nat.le_refl _) | exact below_trans G.drew B9 (Nat.le_refl _) | exact below_trans (below_dN G _) B9 (Nat.le_refl _))); (have S7 := Lib.hid (show w6.heap.size ≤ w7.heap.size from B9.size)))
        | (go_at_call 29; (fail_if_success (have hx := B10)); refine Calls.mono (eq_package_same p0_0 p0_1 p0_2 l0_3 n0_3 T4_3 T9_3 tc4_3 tc9_3 _ _ _ _ l0_4 n0_4 T4_4 T9_4 tc4_4 tc9_4 _ _ _ _ l0_5 n0_5 T4_5 T9_5 tc4_5 tc9_5 _ _ _ _ l0_6 n0_6 T4_6 T9_6 tc4_6 tc9_6 _ _ _ _ p0_7 _ (by omega) (by omega) (by omega) (by omega) FT4_3.rd FT4_4.rd FT4_5.rd FT4_6.rd FT9_3.rd FT9_4.rd FT9_5.rd FT9_6.rd) ?_; rintro e w8 ⟨rfl, B10⟩; (replace R0_3 := rd_nw B10 R0_3); (replace R0_4 := rd_nw B10 R0_4); (replace R0_5 := rd_nw B10 R0_5); (replace R0_6 := rd_nw B10 R0_6); (replace KB0 := box_nw B10 KB0); (replace FP3_0 := fr_nw B10 FP3_0); (replace FT4_3 := fr_nw B10 FT4_3); (replace FT4_4 := fr_nw B10 FT4_4); (replace FT4_5 := fr_nw B10 FT4_5); (replace FT4_6 := fr_nw B10 FT4_6); (replace KX5 := box_nw B10 KX5); (replace FP7_0 := fr_nw B10 FP7_0); (replace FT9_3 := fr_nw B10 FT9_3); (replace FT9_4 := fr_nw B10 FT9_4); (replace FT9_5 := fr_nw B10 FT9_5); (replace FT9_6 := fr_nw B10 FT9_6); (replace G := (by first | exact below_trans G B10 (Nat.le_refl _) | exact below_trans G.drew B10 (Nat.le_refl _) | exact below_trans (below_dN G _) B10 (Nat.le_refl _))); (have S8 := Lib.hid (show w7.heap.size ≤ w8.heap.size from B10.size))))
    clear B9
    clear B10
    clear FT9_3
    clear FT9_4
    clear FT9_5
    clear FT9_6
    have xKX5_0 : w8.cell? ⟨w4.heap.size, 0, none⟩ = some (.int .i64 p0_0) := KX5.at_ rfl
    have xKX5_1 : w8.cell? ⟨w4.heap.size, 1, none⟩ = some (.int .i64 p0_1) := KX5.at_ rfl
    have xKX5_2 : w8.cell? ⟨w4.heap.size, 2, none⟩ = some (.int .i64 p0_2) := KX5.at_ rfl
    have xKX5_3 : w8.cell? ⟨w4.heap.size, 3, none⟩ = some (.slice T4_3 n0_3 tc4_3) := KX5.at_ rfl
    have xKX5_4 : w8.cell? ⟨w4.heap.size, 4, none⟩ = some (.slice T4_4 n0_4 tc4_4) := KX5.at_ rfl
    have xKX5_5 : w8.cell? ⟨w4.heap.size, 5, none⟩ = some (.slice T4_5 n0_5 tc4_5) := KX5.at_ rfl
    have xKX5_6 : w8.cell? ⟨w4.heap.size, 6, none⟩ = some (.slice T4_6 n0_6 tc4_6) := KX5.at_ rfl
    have xKX5_7 : w8.cell? ⟨w4.heap.size, 7, none⟩ = some (.int .i64 p0_7) := KX5.at_ rfl
    go_wp2_with fail
    refine Calls.mono (mark_package p0_0 p0_1 p0_2 _ T4_3 n0_3 tc4_3 _ _ _ T4_4 n0_4 tc4_4 _ _ _ T4_5 n0_5 tc4_5 _ _ _ T4_6 n0_6 tc4_6 _ _ p0_7 (1) w3.heap.size w4.heap.size _ (by omega) (by omega) (by omega) (by omega) (by omega) (by have := S0.out; have := S1.out; have := S2.out; have := S3.out; have := S4.out; have := SA6.out; have := S5.out; have := S6.out; have := S7.out; have := S8.out; have := SepPackage_bd MT2.out; have := SepPackage_bd MT4.out; have := SepPackage_bd MT9.out; omega) MT4 FT4_3 FT4_4 FT4_5 FT4_6) ?_
    rintro e w9 ⟨rfl, FM11_3, FM11_4, FM11_5, FM11_6, B11⟩
    replace R0_3 := (R0_3).chg B11 (by have := S0.out; have := S1.out; have := S2.out; have := S3.out; have := S4.out; have := SA6.out; have := S5.out; have := S6.out; have := S7.out; have := S8.out; have := SepPackage_bd MT2.out; have := SepPackage_bd MT4.out; have := SepPackage_bd MT9.out; omega)
    replace R0_4 := (R0_4).chg B11 (by have := S0.out; have := S1.out; have := S2.out; have := S3.out; have := S4.out; have := SA6.out; have := S5.out; have := S6.out; have := S7.out; have := S8.out; have := SepPackage_bd MT2.out; have := SepPackage_bd MT4.out; have := SepPackage_bd MT9.out; omega)
    replace R0_5 := (R0_5).chg B11 (by have := S0.out; have := S1.out; have := S2.out; have := S3.out; have := S4.out; have := SA6.out; have := S5.out; have := S6.out; have := S7.out; have := S8.out; have := SepPackage_bd MT2.out; have := SepPackage_bd MT4.out; have := SepPackage_bd MT9.out; omega)
    replace R0_6 := (R0_6).chg B11 (by have := S0.out; have := S1.out; have := S2.out; have := S3.out; have := S4.out; have := SA6.out; have := S5.out; have := S6.out; have := S7.out; have := S8.out; have := SepPackage_bd MT2.out; have := SepPackage_bd MT4.out; have := SepPackage_bd MT9.out; omega)
    replace KB0 := (KB0).chg B11 (by have := S0.out; have := S1.out; have := S2.out; have := S3.out; have := S4.out; have := SA6.out; have := S5.out; have := S6.out; have := S7.out; have := S8.out; have := SepPackage_bd MT2.out; have := SepPackage_bd MT4.out; have := SepPackage_bd MT9.out; omega)
    replace FP3_0 := (FP3_0).chg B11 (by have := S0.out; have := S1.out; have := S2.out; have := S3.out; have := S4.out; have := SA6.out; have := S5.out; have := S6.out; have := S7.out; have := S8.out; have := SepPackage_bd MT2.out; have := SepPackage_bd MT4.out; have := SepPackage_bd MT9.out; omega)
    replace KX5 := (KX5).chg B11 (by have := S0.out; have := S1.out; have := S2.out; have := S3.out; have := S4.out; have := SA6.out; have := S5.out; have := S6.out; have := S7.out; have := S8.out; have := SepPackage_bd MT2.out; have := SepPackage_bd MT4.out; have := SepPackage_bd MT9.out; omega)
    replace FP7_0 := (FP7_0).chg B11 (by have := S0.out; have := S1.out; have := S2.out; have := S3.out; have := S4.out; have := SA6.out; have := S5.out; have := S6.out; have := S7.out; have := S8.out; have := SepPackage_bd MT2.out; have := SepPackage_bd MT4.out; have := SepPackage_bd MT9.out; omega)
    replace G := G.trans (B11.below (.inl (by have := S0.out; have := S1.out; have := S2.out; have := S3.out; have := S4.out; have := SA6.out; have := S5.out; have := S6.out; have := S7.out; have := S8.out; have := SepPackage_bd MT2.out; have := SepPackage_bd MT4.out; have := SepPackage_bd MT9.out; omega)) (by have := S0.out; have := S1.out; have := S2.out; have := S3.out; have := S4.out; have := SA6.out; have := S5.out; have := S6.out; have := S7.out; have := S8.out; have := SepPackage_bd MT2.out; have := SepPackage_bd MT4.out; have := SepPackage_bd MT9.out; first | omega | (simp; omega)))
    have S9 := Lib.hid (show w8.heap.size + 0 ≤ w9.heap.size by have := B11.size; first | (simpa using this) | ((try simp at this); omega))
    clear FT4_3
    clear FT4_4
    clear FT4_5
    clear FT4_6
    clear B11
    clear xKX5_0 xKX5_1 xKX5_2 xKX5_3 xKX5_4 xKX5_5 xKX5_6 xKX5_7
    go_wp2_with fail
    refine Calls.mono (eq_int_same (mPInts p0_0 p0_1 p0_2 l0_3 l0_4 l0_5 l0_6) P7_0 P3_0 ((mPInts p0_0 p0_1 p0_2 l0_3 l0_4 l0_5 l0_6).length) ((mPInts p0_0 p0_1 p0_2 l0_3 l0_4 l0_5 l0_6).length) pc7_0 pc3_0 _ _ _ _ _ (by omega) (by omega) FP7_0.rd FP3_0.rd) ?_
    rintro e w10 hq
    obtain ⟨rfl, B12⟩ := hq.says
    replace R0_3 := (R0_3).new B12
    replace R0_4 := (R0_4).new B12
    replace R0_5 := (R0_5).new B12
    replace R0_6 := (R0_6).new B12
    replace KB0 := (KB0).new B12
    replace FP3_0 := (FP3_0).new B12
    replace KX5 := (KX5).new B12
    replace FP7_0 := (FP7_0).new B12
    replace FM11_3 := (FM11_3).new B12
    replace FM11_4 := (FM11_4).new B12
    replace FM11_5 := (FM11_5).new B12
    replace FM11_6 := (FM11_6).new B12
    replace G := below_trans G B12 (Nat.le_refl _)
    have S10 := Lib.hid (show w9.heap.size + 0 ≤ w10.heap.size by have := B12.size; first | (simpa using this) | ((try simp at this); omega))
    clear B12
    go_wp2_with fail
    refine Calls.mono (mark_int _ P7_0 ((mPInts p0_0 p0_1 p0_2 l0_3 l0_4 l0_5 l0_6).length) pc7_0 _ _ (1) _ (by omega) (by omega) FP7_0) ?_
    rintro e w11 ⟨rfl, FM13, B13, E13⟩
    replace R0_3 := (R0_3).chg B13 (by have := S0.out; have := S1.out; have := S2.out; have := S3.out; have := S4.out; have := SA6.out; have := S5.out; have := S6.out; have := S7.out; have := S8.out; have := S9.out; have := S10.out; have := SepPackage_bd MT2.out; have := SepPackage_bd MT4.out; have := SepPackage_bd MT9.out; omega)
    replace R0_4 := (R0_4).chg B13 (by have := S0.out; have := S1.out; have := S2.out; have := S3.out; have := S4.out; have := SA6.out; have := S5.out; have := S6.out; have := S7.out; have := S8.out; have := S9.out; have := S10.out; have := SepPackage_bd MT2.out; have := SepPackage_bd MT4.out; have := SepPackage_bd MT9.out; omega)
    replace R0_5 := (R0_5).chg B13 (by have := S0.out; have := S1.out; have := S2.out; have := S3.out; have := S4.out; have := SA6.out; have := S5.out; have := S6.out; have := S7.out; have := S8.out; have := S9.out; have := S10.out; have := SepPackage_bd MT2.out; have := SepPackage_bd MT4.out; have := SepPackage_bd MT9.out; omega)
    replace R0_6 := (R0_6).chg B13 (by have := S0.out; have := S1.out; have := S2.out; have := S3.out; have := S4.out; have := SA6.out; have := S5.out; have := S6.out; have := S7.out; have := S8.out; have := S9.out; have := S10.out; have := SepPackage_bd MT2.out; have := SepPackage_bd MT4.out; have := SepPackage_bd MT9.out; omega)
    replace KB0 := (KB0).chg B13 (by have := S0.out; have := S1.out; have := S2.out; have := S3.out; have := S4.out; have := SA6.out; have := S5.out; have := S6.out; have := S7.out; have := S8.out; have := S9.out; have := S10.out; have := SepPackage_bd MT2.out; have := SepPackage_bd MT4.out; have := SepPackage_bd MT9.out; omega)
    replace FP3_0 := (FP3_0).chg B13 (by have := S0.out; have := S1.out; have := S2.out; have := S3.out; have := S4.out; have := SA6.out; have := S5.out; have := S6.out; have := S7.out; have := S8.out; have := S9.out; have := S10.out; have := SepPackage_bd MT2.out; have := SepPackage_bd MT4.out; have := SepPackage_bd MT9.out; omega)
    replace KX5 := (KX5).chg B13 (by have := S0.out; have := S1.out; have := S2.out; have := S3.out; have := S4.out; have := SA6.out; have := S5.out; have := S6.out; have := S7.out; have := S8.out; have := S9.out; have := S10.out; have := SepPackage_bd MT2.out; have := SepPackage_bd MT4.out; have := SepPackage_bd MT9.out; omega)
    replace FM11_3 := (FM11_3).chg B13 (by have := S0.out; have := S1.out; have := S2.out; have := S3.out; have := S4.out; have := SA6.out; have := S5.out; have := S6.out; have := S7.out; have := S8.out; have := S9.out; have := S10.out; have := SepPackage_bd MT2.out; have := SepPackage_bd MT4.out; have := SepPackage_bd MT9.out; omega)
    replace FM11_4 := (FM11_4).chg B13 (by have := S0.out; have := S1.out; have := S2.out; have := S3.out; have := S4.out; have := SA6.out; have := S5.out; have := S6.out; have := S7.out; have := S8.out; have := S9.out; have := S10.out; have := SepPackage_bd MT2.out; have := SepPackage_bd MT4.out; have := SepPackage_bd MT9.out; omega)
    replace FM11_5 := (FM11_5).chg B13 (by have := S0.out; have := S1.out; have := S2.out; have := S3.out; have := S4.out; have := SA6.out; have := S5.out; have := S6.out; have := S7.out; have := S8.out; have := S9.out; have := S10.out; have := SepPackage_bd MT2.out; have := SepPackage_bd MT4.out; have := SepPackage_bd MT9.out; omega)
    replace FM11_6 := (FM11_6).chg B13 (by have := S0.out; have := S1.out; have := S2.out; have := S3.out; have := S4.out; have := SA6.out; have := S5.out; have := S6.out; have := S7.out; have := S8.out; have := S9.out; have := S10.out; have := SepPackage_bd MT2.out; have := SepPackage_bd MT4.out; have := SepPackage_bd MT9.out; omega)
    replace G := G.trans (B13.below (.inl (by have := S0.out; have := S1.out; have := S2.out; have := S3.out; have := S4.out; have := SA6.out; have := S5.out; have := S6.out; have := S7.out; have := S8.out; have := S9.out; have := S10.out; have := SepPackage_bd MT2.out; have := SepPackage_bd MT4.out; have := SepPackage_bd MT9.out; omega)) (by have := S0.out; have := S1.out; have := S2.out; have := S3.out; have := S4.out; have := SA6.out; have := S5.out; have := S6.out; have := S7.out; have := S8.out; have := S9.out; have := S10.out; have := SepPackage_bd MT2.out; have := SepPackage_bd MT4.out; have := SepPackage_bd MT9.out; first | omega | (simp; omega)))
    have S11 := Lib.hid (show w10.heap.size + 0 ≤ w11.heap.size by have := B13.size; first | (simpa using this) | ((try simp at this); omega))
    clear FP7_0
    clear E13
    clear B13
    go_wp2_with fail
    refine Calls.mono (held_int P7_0 ((mPInts p0_0 p0_1 p0_2 l0_3 l0_4 l0_5 l0_6).length) pc7_0 _ _ (1) _ (by omega) (by omega) FM13.rd) ?_
    rintro e w12 hq
    obtain ⟨rfl, B14⟩ := hq.says
    replace R0_3 := (R0_3).new B14
    replace R0_4 := (R0_4).new B14
    replace R0_5 := (R0_5).new B14
    replace R0_6 := (R0_6).new B14
    replace KB0 := (KB0).new B14
    replace FP3_0 := (FP3_0).new B14
    replace KX5 := (KX5).new B14
    replace FM11_3 := (FM11_3).new B14
    replace FM11_4 := (FM11_4).new B14
    replace FM11_5 := (FM11_5).new B14
    replace FM11_6 := (FM11_6).new B14
    replace FM13 := (FM13).new B14
    replace G := below_trans G B14 (Nat.le_refl _)
    have S12 := Lib.hid (show w11.heap.size + 0 ≤ w12.heap.size by have := B14.size; first | (simpa using this) | ((try simp at this); omega))
    clear B14
    have xKB0_0 : w12.cell? ⟨w.heap.size, 0, none⟩ = some (.int .i64 p0_0) := KB0.at_ rfl
    have xKB0_1 : w12.cell? ⟨w.heap.size, 1, none⟩ = some (.int .i64 p0_1) := KB0.at_ rfl
    have xKB0_2 : w12.cell? ⟨w.heap.size, 2, none⟩ = some (.int .i64 p0_2) := KB0.at_ rfl
    have xKB0_3 : w12.cell? ⟨w.heap.size, 3, none⟩ = some (.slice A0_3 n0_3 c0_3) := KB0.at_ rfl
    have xKB0_4 : w12.cell? ⟨w.heap.size, 4, none⟩ = some (.slice A0_4 n0_4 c0_4) := KB0.at_ rfl
    have xKB0_5 : w12.cell? ⟨w.heap.size, 5, none⟩ = some (.slice A0_5 n0_5 c0_5) := KB0.at_ rfl
    have xKB0_6 : w12.cell? ⟨w.heap.size, 6, none⟩ = some (.slice A0_6 n0_6 c0_6) := KB0.at_ rfl
    have xKB0_7 : w12.cell? ⟨w.heap.size, 7, none⟩ = some (.int .i64 p0_7) := KB0.at_ rfl
    go_wp2_with fail
    refine Calls.mono (to_package p0_0 p0_1 p0_2 l0_3 A0_3 n0_3 c0_3 _ _ l0_4 A0_4 n0_4 c0_4 _ _ l0_5 A0_5 n0_5 c0_5 _ _ l0_6 A0_6 n0_6 c0_6 _ _ p0_7 _ hqn0_3 R0_3 hqn0_4 R0_4 hqn0_5 R0_5 hqn0_6 R0_6) ?_
    rintro e w13 ⟨T15_3, T15_4, T15_5, T15_6, tc15_3, tlo15_3, thi15_3, tc15_4, tlo15_4, thi15_4, tc15_5, tlo15_5, thi15_5, tc15_6, tlo15_6, thi15_6, rfl, FT15_3, FT15_4, FT15_5, FT15_6, MT15, B15⟩
    replace R0_3 := (R0_3).new B15
    replace R0_4 := (R0_4).new B15
    replace R0_5 := (R0_5).new B15
    replace R0_6 := (R0_6).new B15
    replace KB0 := (KB0).new B15
    replace FP3_0 := (FP3_0).new B15
    replace KX5 := (KX5).new B15
    replace FM11_3 := (FM11_3).new B15
    replace FM11_4 := (FM11_4).new B15
    replace FM11_5 := (FM11_5).new B15
    replace FM11_6 := (FM11_6).new B15
    replace FM13 := (FM13).new B15
    replace G := below_trans G B15 (Nat.le_refl _)
    have S13 := Lib.hid (show w12.heap.size + 0 ≤ w13.heap.size by have := B15.size; first | (simpa using this) | ((try simp at this); omega))
    clear B15
    clear xKB0_0 xKB0_1 xKB0_2 xKB0_3 xKB0_4 xKB0_5 xKB0_6 xKB0_7
    go_wp2_with fail
    refine Calls.mono (impl_PackageIntsC p0_0 p0_1 p0_2 l0_3 T15_3 n0_3 tc15_3 _ _ l0_4 T15_4 n0_4 tc15_4 _ _ l0_5 T15_5 n0_5 tc15_5 _ _ l0_6 T15_6 n0_6 tc15_6 _ _ p0_7 _ (by omega) FT15_3.rd FT15_3.cap H0_3 (by omega) FT15_4.rd FT15_4.cap H0_4 (by omega) FT15_5.rd FT15_5.cap H0_5 (by omega) FT15_6.rd FT15_6.cap H0_6) ?_
    rintro e w14 ⟨P16_0, pc16_0, rfl, FP16_0, B16⟩
    replace R0_3 := (R0_3).new B16
    replace R0_4 := (R0_4).new B16
    replace R0_5 := (R0_5).new B16
    replace R0_6 := (R0_6).new B16
    replace KB0 := (KB0).new B16
    replace FP3_0 := (FP3_0).new B16
    replace KX5 := (KX5).new B16
    replace FM11_3 := (FM11_3).new B16
    replace FM11_4 := (FM11_4).new B16
    replace FM11_5 := (FM11_5).new B16
    replace FM11_6 := (FM11_6).new B16
    replace FM13 := (FM13).new B16
    replace FT15_3 := (FT15_3).new B16
    replace FT15_4 := (FT15_4).new B16
    replace FT15_5 := (FT15_5).new B16
    replace FT15_6 := (FT15_6).new B16
    replace G := below_trans G B16 (Nat.le_refl _)
    have S14 := Lib.hid (show w13.heap.size + 0 ≤ w14.heap.size by have := B16.size; first | (simpa using this) | ((try simp at this); omega))
    clear B16
    go_wp2_with fail
    refine Calls.mono (eq_int_same (mPInts p0_0 p0_1 p0_2 l0_3 l0_4 l0_5 l0_6) P16_0 P3_0 ((mPInts p0_0 p0_1 p0_2 l0_3 l0_4 l0_5 l0_6).length) ((mPInts p0_0 p0_1 p0_2 l0_3 l0_4 l0_5 l0_6).length) pc16_0 pc3_0 _ _ _ _ _ (by omega) (by omega) FP16_0.rd FP3_0.rd) ?_
    rintro e w15 hq
    obtain ⟨rfl, B17⟩ := hq.says
    replace R0_3 := (R0_3).new B17
    replace R0_4 := (R0_4).new B17
    replace R0_5 := (R0_5).new B17
    replace R0_6 := (R0_6).new B17
    replace KB0 := (KB0).new B17
    replace FP3_0 := (FP3_0).new B17
    replace KX5 := (KX5).new B17
    replace FM11_3 := (FM11_3).new B17
    replace FM11_4 := (FM11_4).new B17
    replace FM11_5 := (FM11_5).new B17
    replace FM11_6 := (FM11_6).new B17
    replace FM13 := (FM13).new B17
    replace FT15_3 := (FT15_3).new B17
    replace FT15_4 := (FT15_4).new B17
    replace FT15_5 := (FT15_5).new B17
    replace FT15_6 := (FT15_6).new B17
    replace FP16_0 := (FP16_0).new B17
    replace G := below_trans G B17 (Nat.le_refl _)
    have S15 := Lib.hid (show w14.heap.size + 0 ≤ w15.heap.size by have := B17.size; first | (simpa using this) | ((try simp at this); omega))
    clear B17
    go_wp2_with fail
    refine Calls.mono (held_int P7_0 ((mPInts p0_0 p0_1 p0_2 l0_3 l0_4 l0_5 l0_6).length) pc7_0 _ _ (1) _ (by omega) (by omega) FM13.rd) ?_
    rintro e w16 hq
    obtain ⟨rfl, B18⟩ := hq.says
    replace R0_3 := (R0_3).new B18
    replace R0_4 := (R0_4).new B18
    replace R0_5 := (R0_5).new B18
    replace R0_6 := (R0_6).new B18
    replace KB0 := (KB0).new B18
    replace FP3_0 := (FP3_0).new B18
    replace KX5 := (KX5).new B18
    replace FM11_3 := (FM11_3).new B18
    replace FM11_4 := (FM11_4).new B18
    replace FM11_5 := (FM11_5).new B18
    replace FM11_6 := (FM11_6).new B18
    replace FM13 := (FM13).new B18
    replace FT15_3 := (FT15_3).new B18
    replace FT15_4 := (FT15_4).new B18
    replace FT15_5 := (FT15_5).new B18
    replace FT15_6 := (FT15_6).new B18
    replace FP16_0 := (FP16_0).new B18
    replace G := below_trans G B18 (Nat.le_refl _)
    have S16 := Lib.hid (show w15.heap.size + 0 ≤ w16.heap.size by have := B18.size; first | (simpa using this) | ((try simp at this); omega))
    clear B18
    go_wp2_with fail
    go_ret
    exact ⟨rfl, G⟩
  · skip
    have G : Below w.heap.size w (w.alloc (.cells #[.int .i64 p0_0, .int .i64 p0_1, .int .i64 p0_2, .slice A0_3 n0_3 c0_3, .slice A0_4 n0_4 c0_4, .slice A0_5 n0_5 c0_5, .slice A0_6 n0_6 c0_6, .int .i64 p0_7] 39)) := (Below.refl _ _).alloc (by simp) _
    have S0 := Lib.hid (show (w.alloc (.cells #[.int .i64 p0_0, .int .i64 p0_1, .int .i64 p0_2, .slice A0_3 n0_3 c0_3, .slice A0_4 n0_4 c0_4, .slice A0_5 n0_5 c0_5, .slice A0_6 n0_6 c0_6, .int .i64 p0_7] 39)).heap.size = w.heap.size + 1 by simp)
    replace R0_3 := R0_3.alloc (.cells #[.int .i64 p0_0, .int .i64 p0_1, .int .i64 p0_2, .slice A0_3 n0_3 c0_3, .slice A0_4 n0_4 c0_4, .slice A0_5 n0_5 c0_5, .slice A0_6 n0_6 c0_6, .int .i64 p0_7] 39)
    replace R0_4 := R0_4.alloc (.cells #[.int .i64 p0_0, .int .i64 p0_1, .int .i64 p0_2, .slice A0_3 n0_3 c0_3, .slice A0_4 n0_4 c0_4, .slice A0_5 n0_5 c0_5, .slice A0_6 n0_6 c0_6, .int .i64 p0_7] 39)
    replace R0_5 := R0_5.alloc (.cells #[.int .i64 p0_0, .int .i64 p0_1, .int .i64 p0_2, .slice A0_3 n0_3 c0_3, .slice A0_4 n0_4 c0_4, .slice A0_5 n0_5 c0_5, .slice A0_6 n0_6 c0_6, .int .i64 p0_7] 39)
    replace R0_6 := R0_6.alloc (.cells #[.int .i64 p0_0, .int .i64 p0_1, .int .i64 p0_2, .slice A0_3 n0_3 c0_3, .slice A0_4 n0_4 c0_4, .slice A0_5 n0_5 c0_5, .slice A0_6 n0_6 c0_6, .int .i64 p0_7] 39)
    have KB0 : BoxAt (w.alloc (.cells #[.int .i64 p0_0, .int .i64 p0_1, .int .i64 p0_2, .slice A0_3 n0_3 c0_3, .slice A0_4 n0_4 c0_4, .slice A0_5 n0_5 c0_5, .slice A0_6 n0_6 c0_6, .int .i64 p0_7] 39)) (w.heap.size) 39 #[.int .i64 p0_0, .int .i64 p0_1, .int .i64 p0_2, .slice A0_3 n0_3 c0_3, .slice A0_4 n0_4 c0_4, .slice A0_5 n0_5 c0_5, .slice A0_6 n0_6 c0_6, .int .i64 p0_7] := box_new _ _ _
    go_enter Try.func5, Try.ntmps5
    have xKB0_0 : (w.alloc (.cells #[.int .i64 p0_0, .int .i64 p0_1, .int .i64 p0_2, .slice A0_3 n0_3 c0_3, .slice A0_4 n0_4 c0_4, .slice A0_5 n0_5 c0_5, .slice A0_6 n0_6 c0_6, .int .i64 p0_7] 39)).cell? ⟨w.heap.size, 0, none⟩ = some (.int .i64 p0_0) := KB0.at_ rfl
    have xKB0_1 : (w.alloc (.cells #[.int .i64 p0_0, .int .i64 p0_1, .int .i64 p0_2, .slice A0_3 n0_3 c0_3, .slice A0_4 n0_4 c0_4, .slice A0_5 n0_5 c0_5, .slice A0_6 n0_6 c0_6, .int .i64 p0_7] 39)).cell? ⟨w.heap.size, 1, none⟩ = some (.int .i64 p0_1) := KB0.at_ rfl
    have xKB0_2 : (w.alloc (.cells #[.int .i64 p0_0, .int .i64 p0_1, .int .i64 p0_2, .slice A0_3 n0_3 c0_3, .slice A0_4 n0_4 c0_4, .slice A0_5 n0_5 c0_5, .slice A0_6 n0_6 c0_6, .int .i64 p0_7] 39)).cell? ⟨w.heap.size, 2, none⟩ = some (.int .i64 p0_2) := KB0.at_ rfl
    have xKB0_3 : (w.alloc (.cells #[.int .i64 p0_0, .int .i64 p0_1, .int .i64 p0_2, .slice A0_3 n0_3 c0_3, .slice A0_4 n0_4 c0_4, .slice A0_5 n0_5 c0_5, .slice A0_6 n0_6 c0_6, .int .i64 p0_7] 39)).cell? ⟨w.heap.size, 3, none⟩ = some (.slice A0_3 n0_3 c0_3) := KB0.at_ rfl
    have xKB0_4 : (w.alloc (.cells #[.int .i64 p0_0, .int .i64 p0_1, .int .i64 p0_2, .slice A0_3 n0_3 c0_3, .slice A0_4 n0_4 c0_4, .slice A0_5 n0_5 c0_5, .slice A0_6 n0_6 c0_6, .int .i64 p0_7] 39)).cell? ⟨w.heap.size, 4, none⟩ = some (.slice A0_4 n0_4 c0_4) := KB0.at_ rfl
    have xKB0_5 : (w.alloc (.cells #[.int .i64 p0_0, .int .i64 p0_1, .int .i64 p0_2, .slice A0_3 n0_3 c0_3, .slice A0_4 n0_4 c0_4, .slice A0_5 n0_5 c0_5, .slice A0_6 n0_6 c0_6, .int .i64 p0_7] 39)).cell? ⟨w.heap.size, 5, none⟩ = some (.slice A0_5 n0_5 c0_5) := KB0.at_ rfl
    have xKB0_6 : (w.alloc (.cells #[.int .i64 p0_0, .int .i64 p0_1, .int .i64 p0_2, .slice A0_3 n0_3 c0_3, .slice A0_4 n0_4 c0_4, .slice A0_5 n0_5 c0_5, .slice A0_6 n0_6 c0_6, .int .i64 p0_7] 39)).cell? ⟨w.heap.size, 6, none⟩ = some (.slice A0_6 n0_6 c0_6) := KB0.at_ rfl
    have xKB0_7 : (w.alloc (.cells #[.int .i64 p0_0, .int .i64 p0_1, .int .i64 p0_2, .slice A0_3 n0_3 c0_3, .slice A0_4 n0_4 c0_4, .slice A0_5 n0_5 c0_5, .slice A0_6 n0_6 c0_6, .int .i64 p0_7] 39)).cell? ⟨w.heap.size, 7, none⟩ = some (.int .i64 p0_7) := KB0.at_ rfl
    go_wp2_with fail
    refine Calls.mono (szno_package p0_0 p0_1 p0_2 A0_3 n0_3 c0_3 A0_4 n0_4 c0_4 A0_5 n0_5 c0_5 A0_6 n0_6 c0_6 p0_7 (1048576) _ hm0_3 hm0_4 hm0_5 hm0_6 (by omega) (by omega) (by omega)) ?_
    rintro e w1 ⟨rfl, B19⟩
    clear xKB0_0 xKB0_1 xKB0_2 xKB0_3 xKB0_4 xKB0_5 xKB0_6 xKB0_7
    go_wp2_with fail
    go_ret
    exact ⟨rfl, below_trans G B19 (Nat.le_refl _)⟩

set_option maxRecDepth 100000 in
theorem lifted (os : Os) (started : os.Started) (H : Type) (enc : TypeId × Value → H) :
    ReturnsInHanded {} Try.checked os 5 .any (Rows.fnExactPackageIntsSpec.pre6 enc Try.prog Try.f5 Rows.fnExactPackageIntsRow.domain false) (Rows.fnExactPackageIntsSpec.post enc Try.prog Try.f5 false true false false) := by
  refine law_lifted Try.func5 (by kernel_rfl) rfl rfl (by kernel_rfl) os started
    (ChangeSpec.witness6 (enc := enc) (C := Try.checked) false ⟨#[], #[.agg #[.int .i64 0, .int .i64 0, .int .i64 0, .slice none 0 0, .slice none 0 0, .slice none 0 0, .slice none 0 0, .int .i64 0]], []⟩ 8 (by kernel_rfl) (by kernel_rfl) (by kernel_rfl) (by kernel_rfl)) ?_
  intro W base args ds p hval hA hlt
  rw [Try.params5] at hA hval
  obtain ⟨v0, vs0, d0, ds0, p0, q0, hargs, rfl, rfl, h0, r0⟩ := trodAll_cons hA
  obtain ⟨rfl, rfl, rfl⟩ := trodAll_nil r0
  obtain rfl : args = #[v0] := by cases args; simp_all
  obtain ⟨p0_0, p0_1, p0_2, A0_3, n0_3, c0_3, l0_3, A0_4, n0_4, c0_4, l0_4, A0_5, n0_5, c0_5, l0_5, A0_6, n0_6, c0_6, l0_6, p0_7, rfl, wf0_0, wf0_1, wf0_2, m0_3, R0_3, H0_3, m0_4, R0_4, H0_4, m0_5, R0_5, H0_5, m0_6, R0_6, H0_6, wf0_7⟩ := open_package (hval 0 39 v0 rfl rfl) h0 (fun x hx => hlt x (by simp [hx]))
  exact ⟨⟨rfl, rfl, rfl⟩, walk p0_0 p0_1 p0_2 l0_3 A0_3 n0_3 c0_3 l0_4 A0_4 n0_4 c0_4 l0_5 A0_5 n0_5 c0_5 l0_6 A0_6 n0_6 c0_6 p0_7 W wf0_0 wf0_1 wf0_2 m0_3 R0_3 H0_3 m0_4 R0_4 H0_4 m0_5 R0_5 H0_5 m0_6 R0_6 H0_6 wf0_7⟩

set_option maxRecDepth 100000 in
set_option maxHeartbeats 8000000 in
theorem closed : joinedFacts Try.pinned.checked.prog 5 Try.f5 Rows.fnExactPackageIntsSpec Rows.fnExactPackageIntsRow = true :=
  (and_i (and_i (and_i (and_i (and_i (and_i (and_i (and_i (and_i (and_i (and_i (and_i (and_i (and_i (and_i (and_i (and_i (and_i (and_i (and_i (and_i (and_i (and_i (and_i (and_i (and_i (and_i (and_i (and_i (and_i (and_i (by as_aux_lemma => kernel_rfl) seatLaid) sf_maps) (by as_aux_lemma => kernel_rfl)) (by as_aux_lemma => kernel_rfl)) (by as_aux_lemma => kernel_rfl)) (by as_aux_lemma => kernel_rfl)) (by as_aux_lemma => kernel_rfl)) (by as_aux_lemma => kernel_rfl)) (by as_aux_lemma => kernel_rfl)) (by as_aux_lemma => kernel_rfl)) (by as_aux_lemma => kernel_rfl)) (by as_aux_lemma => kernel_rfl)) (by as_aux_lemma => kernel_rfl)) (by as_aux_lemma => kernel_rfl)) (by as_aux_lemma => kernel_rfl)) (by as_aux_lemma => kernel_rfl)) (by as_aux_lemma => kernel_rfl)) (by as_aux_lemma => kernel_rfl)) (by as_aux_lemma => kernel_rfl)) (by as_aux_lemma => kernel_rfl)) (by as_aux_lemma => kernel_rfl)) sf_plain) (by as_aux_lemma => kernel_rfl)) sf_heard) sf_enter) sf_lifts) sf_make) (by as_aux_lemma => kernel_rfl)) (by as_aux_lemma => kernel_rfl)) (by as_aux_lemma => kernel_rfl)) (by as_aux_lemma => kernel_rfl))

theorem over : Rows.fnExactPackageIntsRow.holds Try.pinned (OpenSpec.ofChange Rows.fnExactPackageIntsSpec) :=
  OpenClaim.holds_of_wide 5 Try.f5 rfl rfl rfl rfl rfl rfl rfl ⟨rfl, rfl, rfl, rfl, rfl⟩ rfl rfl rfl rfl rfl (by kernel_rfl) Try.func5 closed
    (of_decide_eq_true (by kernel_rfl)) (by unfold Func.isWrapper; first | (rw [if_pos (by decide +kernel)]; kernel_rfl) | (rw [if_neg (by decide +kernel)]; exact ⟨rfl, rfl⟩))
    (fun os started H enc _ => lifted os started H enc)

theorem proved : Rows.FnExactPackageIntsSaid := over
#print axioms proved
end Go.Proofs.Ytejcioenoofjlaa.fnExactPackageInts
