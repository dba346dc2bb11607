/- The law FnExactReviewPackage answers true for every argument, and leaves each argument as it was. No condition. -/
import Derived.Test.YtphhnmfgomcanaaGreatDoorQEFrame
import Derived.Deep.RegionHeld3
import Derived.Deep.DeepCutAuto
import Derived.Test.YtphhnmfgomcanaaGreatDoorQFacts
import Derived.Test.YtphhnmfgomcanaaGreatDoorQRPackage
import Derived.Test.YtphhnmfgomcanaaGreatDoorQRc
namespace Go.Proofs.YtphhnmfgomcanaaGreatDoor.fnExactReviewPackage
open Go Go.ChangeShapes Go.WideShapes Go.ChangeAt Go.RowKit Go.Lib
open Go.ChangeMaps (open_string)
set_option linter.unusedVariables false
set_option linter.unusedSimpArgs false
set_option maxRecDepth 100000

set_option maxRecDepth 100000 in
set_option maxHeartbeats 20000000 in
theorem walk (a0 : Int) (p1_0 : Int) (p1_1 : Int) (p1_2 : Int) (l1_3 : List TGrant) (A1_3 : Option Addr) (n1_3 c1_3 : Nat) (l1_4 : List TFlow) (A1_4 : Option Addr) (n1_4 c1_4 : Nat) (l1_5 : List TRule) (A1_5 : Option Addr) (n1_5 c1_5 : Nat) (l1_6 : List TOp) (A1_6 : Option Addr) (n1_6 c1_6 : Nat) (p1_7 : Int) (w : World) (hT : Pow10 w) (wf0 : (Lit.int .i64 a0).wf = true) (wf1_0 : (Lit.int .i64 p1_0).wf = true) (wf1_1 : (Lit.int .i64 p1_1).wf = true) (wf1_2 : (Lit.int .i64 p1_2).wf = true) (hm1_3 : n1_3 ≤ maxLen) (R1_3 : Rd w 0 w.heap.size 7 A1_3 n1_3 (cGrant l1_3)) (H1_3 : Hid (cGrantOk l1_3)) (hm1_4 : n1_4 ≤ maxLen) (R1_4 : Rd w 0 w.heap.size 3 A1_4 n1_4 (cFlow l1_4)) (H1_4 : Hid (cFlowOk l1_4)) (hm1_5 : n1_5 ≤ maxLen) (R1_5 : Rd w 0 w.heap.size 8 A1_5 n1_5 (cRule l1_5)) (H1_5 : Hid (cRuleOk l1_5)) (hm1_6 : n1_6 ≤ maxLen) (R1_6 : Rd w 0 w.heap.size 4 A1_6 n1_6 (cOp l1_6)) (H1_6 : Hid (cOpOk l1_6)) (wf1_7 : (Lit.int .i64 p1_7).wf = true) :
  Calls Tryz.prog 3 #[.int .i64 a0, .agg #[.int .i64 p1_0, .int .i64 p1_1, .int .i64 p1_2, .slice A1_3 n1_3 c1_3, .slice A1_4 n1_4 c1_4, .slice A1_5 n1_5 c1_5, .slice A1_6 n1_6 c1_6, .int .i64 p1_7]] w fun e w' => e = .returned (.bool true) ∧ Below w.heap.size w w' := by
 have hm1_3 : n1_3 ≤ 9223372036854775807 := hm1_3
 have hm1_4 : n1_4 ≤ 9223372036854775807 := hm1_4
 have hm1_5 : n1_5 ≤ 9223372036854775807 := hm1_5
 have hm1_6 : n1_6 ≤ 9223372036854775807 := hm1_6
 have Wf0 := Lib.hid wf0
 clear wf0
 have Wf1_0 := Lib.hid wf1_0
 clear wf1_0
 have Wf1_1 := Lib.hid wf1_1
 clear wf1_1
 have Wf1_2 := Lib.hid wf1_2
 clear wf1_2
 have Wf1_7 := Lib.hid wf1_7
 clear wf1_7
 by_cases hz1 : n1_3 + n1_4 + n1_5 + n1_6 ≤ 1048576
 ·
  have hqn1_3 : n1_3 ≤ 17179869184 := by omega
  have hqn1_4 : n1_4 ≤ 17179869184 := by omega
  have hqn1_5 : n1_5 ≤ 17179869184 := by omega
  have hqn1_6 : n1_6 ≤ 17179869184 := by omega
  have G : Below w.heap.size w (w.alloc (.cells #[.int .i64 p1_0, .int .i64 p1_1, .int .i64 p1_2, .slice A1_3 n1_3 c1_3, .slice A1_4 n1_4 c1_4, .slice A1_5 n1_5 c1_5, .slice A1_6 n1_6 c1_6, .int .i64 p1_7] 27)) := (Below.refl _ _).alloc (by simp) _
  have S0 := Lib.hid (show (w.alloc (.cells #[.int .i64 p1_0, .int .i64 p1_1, .int .i64 p1_2, .slice A1_3 n1_3 c1_3, .slice A1_4 n1_4 c1_4, .slice A1_5 n1_5 c1_5, .slice A1_6 n1_6 c1_6, .int .i64 p1_7] 27)).heap.size = w.heap.size + 1 by simp)
  replace R1_3 := R1_3.alloc (.cells #[.int .i64 p1_0, .int .i64 p1_1, .int .i64 p1_2, .slice A1_3 n1_3 c1_3, .slice A1_4 n1_4 c1_4, .slice A1_5 n1_5 c1_5, .slice A1_6 n1_6 c1_6, .int .i64 p1_7] 27)
  replace R1_4 := R1_4.alloc (.cells #[.int .i64 p1_0, .int .i64 p1_1, .int .i64 p1_2, .slice A1_3 n1_3 c1_3, .slice A1_4 n1_4 c1_4, .slice A1_5 n1_5 c1_5, .slice A1_6 n1_6 c1_6, .int .i64 p1_7] 27)
  replace R1_5 := R1_5.alloc (.cells #[.int .i64 p1_0, .int .i64 p1_1, .int .i64 p1_2, .slice A1_3 n1_3 c1_3, .slice A1_4 n1_4 c1_4, .slice A1_5 n1_5 c1_5, .slice A1_6 n1_6 c1_6, .int .i64 p1_7] 27)
  replace R1_6 := R1_6.alloc (.cells #[.int .i64 p1_0, .int .i64 p1_1, .int .i64 p1_2, .slice A1_3 n1_3 c1_3, .slice A1_4 n1_4 c1_4, .slice A1_5 n1_5 c1_5, .slice A1_6 n1_6 c1_6, .int .i64 p1_7] 27)
  have KB1 : BoxAt (w.alloc (.cells #[.int .i64 p1_0, .int .i64 p1_1, .int .i64 p1_2, .slice A1_3 n1_3 c1_3, .slice A1_4 n1_4 c1_4, .slice A1_5 n1_5 c1_5, .slice A1_6 n1_6 c1_6, .int .i64 p1_7] 27)) (w.heap.size) 27 #[.int .i64 p1_0, .int .i64 p1_1, .int .i64 p1_2, .slice A1_3 n1_3 c1_3, .slice A1_4 n1_4 c1_4, .slice A1_5 n1_5 c1_5, .slice A1_6 n1_6 c1_6, .int .i64 p1_7] := box_new _ _ _
  go_enter Tryz.func3, Tryz.ntmps3
  have xKB1_0 : (w.alloc (.cells #[.int .i64 p1_0, .int .i64 p1_1, .int .i64 p1_2, .slice A1_3 n1_3 c1_3, .slice A1_4 n1_4 c1_4, .slice A1_5 n1_5 c1_5, .slice A1_6 n1_6 c1_6, .int .i64 p1_7] 27)).cell? ⟨w.heap.size, 0, none⟩ = some (.int .i64 p1_0) := KB1.at_ rfl
  have xKB1_1 : (w.alloc (.cells #[.int .i64 p1_0, .int .i64 p1_1, .int .i64 p1_2, .slice A1_3 n1_3 c1_3, .slice A1_4 n1_4 c1_4, .slice A1_5 n1_5 c1_5, .slice A1_6 n1_6 c1_6, .int .i64 p1_7] 27)).cell? ⟨w.heap.size, 1, none⟩ = some (.int .i64 p1_1) := KB1.at_ rfl
  have xKB1_2 : (w.alloc (.cells #[.int .i64 p1_0, .int .i64 p1_1, .int .i64 p1_2, .slice A1_3 n1_3 c1_3, .slice A1_4 n1_4 c1_4, .slice A1_5 n1_5 c1_5, .slice A1_6 n1_6 c1_6, .int .i64 p1_7] 27)).cell? ⟨w.heap.size, 2, none⟩ = some (.int .i64 p1_2) := KB1.at_ rfl
  have xKB1_3 : (w.alloc (.cells #[.int .i64 p1_0, .int .i64 p1_1, .int .i64 p1_2, .slice A1_3 n1_3 c1_3, .slice A1_4 n1_4 c1_4, .slice A1_5 n1_5 c1_5, .slice A1_6 n1_6 c1_6, .int .i64 p1_7] 27)).cell? ⟨w.heap.size, 3, none⟩ = some (.slice A1_3 n1_3 c1_3) := KB1.at_ rfl
  have xKB1_4 : (w.alloc (.cells #[.int .i64 p1_0, .int .i64 p1_1, .int .i64 p1_2, .slice A1_3 n1_3 c1_3, .slice A1_4 n1_4 c1_4, .slice A1_5 n1_5 c1_5, .slice A1_6 n1_6 c1_6, .int .i64 p1_7] 27)).cell? ⟨w.heap.size, 4, none⟩ = some (.slice A1_4 n1_4 c1_4) := KB1.at_ rfl
  have xKB1_5 : (w.alloc (.cells #[.int .i64 p1_0, .int .i64 p1_1, .int .i64 p1_2, .slice A1_3 n1_3 c1_3, .slice A1_4 n1_4 c1_4, .slice A1_5 n1_5 c1_5, .slice A1_6 n1_6 c1_6, .int .i64 p1_7] 27)).cell? ⟨w.heap.size, 5, none⟩ = some (.slice A1_5 n1_5 c1_5) := KB1.at_ rfl
  have xKB1_6 : (w.alloc (.cells #[.int .i64 p1_0, .int .i64 p1_1, .int .i64 p1_2, .slice A1_3 n1_3 c1_3, .slice A1_4 n1_4 c1_4, .slice A1_5 n1_5 c1_5, .slice A1_6 n1_6 c1_6, .int .i64 p1_7] 27)).cell? ⟨w.heap.size, 6, none⟩ = some (.slice A1_6 n1_6 c1_6) := KB1.at_ rfl
  have xKB1_7 : (w.alloc (.cells #[.int .i64 p1_0, .int .i64 p1_1, .int .i64 p1_2, .slice A1_3 n1_3 c1_3, .slice A1_4 n1_4 c1_4, .slice A1_5 n1_5 c1_5, .slice A1_6 n1_6 c1_6, .int .i64 p1_7] 27)).cell? ⟨w.heap.size, 7, none⟩ = some (.int .i64 p1_7) := KB1.at_ rfl
  go_wp2_with fail
  refine Calls.mono (sz_package p1_0 p1_1 p1_2 A1_3 n1_3 c1_3 A1_4 n1_4 c1_4 A1_5 n1_5 c1_5 A1_6 n1_6 c1_6 p1_7 (1048576) _ hm1_3 hm1_4 hm1_5 hm1_6 (by omega) (by omega)) ?_
  rintro e w1 ⟨rfl, B1⟩
  replace R1_3 := (R1_3).new B1
  replace R1_4 := (R1_4).new B1
  replace R1_5 := (R1_5).new B1
  replace R1_6 := (R1_6).new B1
  replace KB1 := (KB1).new B1
  replace G := below_trans G B1 (Nat.le_refl _)
  have S1 := Lib.hid (show (w.alloc (.cells #[.int .i64 p1_0, .int .i64 p1_1, .int .i64 p1_2, .slice A1_3 n1_3 c1_3, .slice A1_4 n1_4 c1_4, .slice A1_5 n1_5 c1_5, .slice A1_6 n1_6 c1_6, .int .i64 p1_7] 27)).heap.size + 0 ≤ w1.heap.size by have := B1.size; first | (simpa using this) | ((try simp at this); omega))
  clear B1
  clear xKB1_0 xKB1_1 xKB1_2 xKB1_3 xKB1_4 xKB1_5 xKB1_6 xKB1_7
  have xKB1_0 : w1.cell? ⟨w.heap.size, 0, none⟩ = some (.int .i64 p1_0) := KB1.at_ rfl
  have xKB1_1 : w1.cell? ⟨w.heap.size, 1, none⟩ = some (.int .i64 p1_1) := KB1.at_ rfl
  have xKB1_2 : w1.cell? ⟨w.heap.size, 2, none⟩ = some (.int .i64 p1_2) := KB1.at_ rfl
  have xKB1_3 : w1.cell? ⟨w.heap.size, 3, none⟩ = some (.slice A1_3 n1_3 c1_3) := KB1.at_ rfl
  have xKB1_4 : w1.cell? ⟨w.heap.size, 4, none⟩ = some (.slice A1_4 n1_4 c1_4) := KB1.at_ rfl
  have xKB1_5 : w1.cell? ⟨w.heap.size, 5, none⟩ = some (.slice A1_5 n1_5 c1_5) := KB1.at_ rfl
  have xKB1_6 : w1.cell? ⟨w.heap.size, 6, none⟩ = some (.slice A1_6 n1_6 c1_6) := KB1.at_ rfl
  have xKB1_7 : w1.cell? ⟨w.heap.size, 7, none⟩ = some (.int .i64 p1_7) := KB1.at_ rfl
  go_wp2_with fail
  refine Calls.mono (to_package p1_0 p1_1 p1_2 l1_3 A1_3 n1_3 c1_3 _ _ l1_4 A1_4 n1_4 c1_4 _ _ l1_5 A1_5 n1_5 c1_5 _ _ l1_6 A1_6 n1_6 c1_6 _ _ p1_7 _ hqn1_3 R1_3 hqn1_4 R1_4 hqn1_5 R1_5 hqn1_6 R1_6) ?_
  rintro e w2 ⟨T2_3, T2_4, T2_5, T2_6, tc2_3, tlo2_3, thi2_3, tc2_4, tlo2_4, thi2_4, tc2_5, tlo2_5, thi2_5, tc2_6, tlo2_6, thi2_6, rfl, FT2_3, FT2_4, FT2_5, FT2_6, MT2, B2⟩
  replace R1_3 := (R1_3).new B2
  replace R1_4 := (R1_4).new B2
  replace R1_5 := (R1_5).new B2
  replace R1_6 := (R1_6).new B2
  replace KB1 := (KB1).new B2
  replace G := below_trans G B2 (Nat.le_refl _)
  have S2 := Lib.hid (show w1.heap.size + 0 ≤ w2.heap.size by have := B2.size; first | (simpa using this) | ((try simp at this); omega))
  clear B2
  clear xKB1_0 xKB1_1 xKB1_2 xKB1_3 xKB1_4 xKB1_5 xKB1_6 xKB1_7
  go_wp2_with fail
  refine Calls.mono (spec_ReviewPackage a0 p1_0 p1_1 p1_2 l1_3 T2_3 n1_3 tc2_3 _ _ l1_4 T2_4 n1_4 tc2_4 _ _ l1_5 T2_5 n1_5 tc2_5 _ _ l1_6 T2_6 n1_6 tc2_6 _ _ p1_7 _ (pow10_below hT G) Wf0.out (by omega) FT2_3.rd FT2_3.cap H1_3 (by omega) FT2_4.rd FT2_4.cap H1_4 (by omega) FT2_5.rd FT2_5.cap H1_5 (by omega) FT2_6.rd FT2_6.cap H1_6) ?_
  rintro e w3 ⟨rfl, B3⟩
  replace R1_3 := (R1_3).new B3
  replace R1_4 := (R1_4).new B3
  replace R1_5 := (R1_5).new B3
  replace R1_6 := (R1_6).new B3
  replace KB1 := (KB1).new B3
  replace FT2_3 := (FT2_3).new B3
  replace FT2_4 := (FT2_4).new B3
  replace FT2_5 := (FT2_5).new B3
  replace FT2_6 := (FT2_6).new B3
  replace G := below_trans G B3 (Nat.le_refl _)
  have S3 := Lib.hid (show w2.heap.size + 0 ≤ w3.heap.size by have := B3.size; first | (simpa using this) | ((try simp at this); omega))
  clear B3
  clear FT2_3
  clear FT2_4
  clear FT2_5
  clear FT2_6
  have xKB1_0 : w3.cell? ⟨w.heap.size, 0, none⟩ = some (.int .i64 p1_0) := KB1.at_ rfl
  have xKB1_1 : w3.cell? ⟨w.heap.size, 1, none⟩ = some (.int .i64 p1_1) := KB1.at_ rfl
  have xKB1_2 : w3.cell? ⟨w.heap.size, 2, none⟩ = some (.int .i64 p1_2) := KB1.at_ rfl
  have xKB1_3 : w3.cell? ⟨w.heap.size, 3, none⟩ = some (.slice A1_3 n1_3 c1_3) := KB1.at_ rfl
  have xKB1_4 : w3.cell? ⟨w.heap.size, 4, none⟩ = some (.slice A1_4 n1_4 c1_4) := KB1.at_ rfl
  have xKB1_5 : w3.cell? ⟨w.heap.size, 5, none⟩ = some (.slice A1_5 n1_5 c1_5) := KB1.at_ rfl
  have xKB1_6 : w3.cell? ⟨w.heap.size, 6, none⟩ = some (.slice A1_6 n1_6 c1_6) := KB1.at_ rfl
  have xKB1_7 : w3.cell? ⟨w.heap.size, 7, none⟩ = some (.int .i64 p1_7) := KB1.at_ rfl
  go_wp2_with fail
  refine Calls.mono (to_package p1_0 p1_1 p1_2 l1_3 A1_3 n1_3 c1_3 _ _ l1_4 A1_4 n1_4 c1_4 _ _ l1_5 A1_5 n1_5 c1_5 _ _ l1_6 A1_6 n1_6 c1_6 _ _ p1_7 _ hqn1_3 R1_3 hqn1_4 R1_4 hqn1_5 R1_5 hqn1_6 R1_6) ?_
  rintro e w4 ⟨T4_3, T4_4, T4_5, T4_6, tc4_3, tlo4_3, thi4_3, tc4_4, tlo4_4, thi4_4, tc4_5, tlo4_5, thi4_5, tc4_6, tlo4_6, thi4_6, rfl, FT4_3, FT4_4, FT4_5, FT4_6, MT4, B4⟩
  replace R1_3 := (R1_3).new B4
  replace R1_4 := (R1_4).new B4
  replace R1_5 := (R1_5).new B4
  replace R1_6 := (R1_6).new B4
  replace KB1 := (KB1).new B4
  replace G := below_trans G B4 (Nat.le_refl _)
  have S4 := Lib.hid (show w3.heap.size + 0 ≤ w4.heap.size by have := B4.size; first | (simpa using this) | ((try simp at this); omega))
  clear B4
  clear xKB1_0 xKB1_1 xKB1_2 xKB1_3 xKB1_4 xKB1_5 xKB1_6 xKB1_7
  have SA6 := Lib.hid (show (w4.alloc (.cells #[.int .i64 p1_0, .int .i64 p1_1, .int .i64 p1_2, .slice T4_3 n1_3 tc4_3, .slice T4_4 n1_4 tc4_4, .slice T4_5 n1_5 tc4_5, .slice T4_6 n1_6 tc4_6, .int .i64 p1_7] 35)).heap.size = w4.heap.size + 1 by simp)
  replace R1_3 := R1_3.alloc (.cells #[.int .i64 p1_0, .int .i64 p1_1, .int .i64 p1_2, .slice T4_3 n1_3 tc4_3, .slice T4_4 n1_4 tc4_4, .slice T4_5 n1_5 tc4_5, .slice T4_6 n1_6 tc4_6, .int .i64 p1_7] 35)
  replace R1_4 := R1_4.alloc (.cells #[.int .i64 p1_0, .int .i64 p1_1, .int .i64 p1_2, .slice T4_3 n1_3 tc4_3, .slice T4_4 n1_4 tc4_4, .slice T4_5 n1_5 tc4_5, .slice T4_6 n1_6 tc4_6, .int .i64 p1_7] 35)
  replace R1_5 := R1_5.alloc (.cells #[.int .i64 p1_0, .int .i64 p1_1, .int .i64 p1_2, .slice T4_3 n1_3 tc4_3, .slice T4_4 n1_4 tc4_4, .slice T4_5 n1_5 tc4_5, .slice T4_6 n1_6 tc4_6, .int .i64 p1_7] 35)
  replace R1_6 := R1_6.alloc (.cells #[.int .i64 p1_0, .int .i64 p1_1, .int .i64 p1_2, .slice T4_3 n1_3 tc4_3, .slice T4_4 n1_4 tc4_4, .slice T4_5 n1_5 tc4_5, .slice T4_6 n1_6 tc4_6, .int .i64 p1_7] 35)
  replace KB1 := KB1.alloc_ (.cells #[.int .i64 p1_0, .int .i64 p1_1, .int .i64 p1_2, .slice T4_3 n1_3 tc4_3, .slice T4_4 n1_4 tc4_4, .slice T4_5 n1_5 tc4_5, .slice T4_6 n1_6 tc4_6, .int .i64 p1_7] 35)
  replace FT4_3 := FT4_3.alloc (.cells #[.int .i64 p1_0, .int .i64 p1_1, .int .i64 p1_2, .slice T4_3 n1_3 tc4_3, .slice T4_4 n1_4 tc4_4, .slice T4_5 n1_5 tc4_5, .slice T4_6 n1_6 tc4_6, .int .i64 p1_7] 35)
  replace FT4_4 := FT4_4.alloc (.cells #[.int .i64 p1_0, .int .i64 p1_1, .int .i64 p1_2, .slice T4_3 n1_3 tc4_3, .slice T4_4 n1_4 tc4_4, .slice T4_5 n1_5 tc4_5, .slice T4_6 n1_6 tc4_6, .int .i64 p1_7] 35)
  replace FT4_5 := FT4_5.alloc (.cells #[.int .i64 p1_0, .int .i64 p1_1, .int .i64 p1_2, .slice T4_3 n1_3 tc4_3, .slice T4_4 n1_4 tc4_4, .slice T4_5 n1_5 tc4_5, .slice T4_6 n1_6 tc4_6, .int .i64 p1_7] 35)
  replace FT4_6 := FT4_6.alloc (.cells #[.int .i64 p1_0, .int .i64 p1_1, .int .i64 p1_2, .slice T4_3 n1_3 tc4_3, .slice T4_4 n1_4 tc4_4, .slice T4_5 n1_5 tc4_5, .slice T4_6 n1_6 tc4_6, .int .i64 p1_7] 35)
  have KX5 : BoxAt (w4.alloc (.cells #[.int .i64 p1_0, .int .i64 p1_1, .int .i64 p1_2, .slice T4_3 n1_3 tc4_3, .slice T4_4 n1_4 tc4_4, .slice T4_5 n1_5 tc4_5, .slice T4_6 n1_6 tc4_6, .int .i64 p1_7] 35)) (w4.heap.size) 35 #[.int .i64 p1_0, .int .i64 p1_1, .int .i64 p1_2, .slice T4_3 n1_3 tc4_3, .slice T4_4 n1_4 tc4_4, .slice T4_5 n1_5 tc4_5, .slice T4_6 n1_6 tc4_6, .int .i64 p1_7] := box_new _ _ _
  replace G := G.alloc (by have := S0.out; have := S1.out; have := S2.out; have := S3.out; have := S4.out; have := SA6.out; have := SepPackage_bd MT2.out; have := SepPackage_bd MT4.out; first | omega | (simp; omega)) (.cells #[.int .i64 p1_0, .int .i64 p1_1, .int .i64 p1_2, .slice T4_3 n1_3 tc4_3, .slice T4_4 n1_4 tc4_4, .slice T4_5 n1_5 tc4_5, .slice T4_6 n1_6 tc4_6, .int .i64 p1_7] 35)
  have xKX5_0 : (w4.alloc (.cells #[.int .i64 p1_0, .int .i64 p1_1, .int .i64 p1_2, .slice T4_3 n1_3 tc4_3, .slice T4_4 n1_4 tc4_4, .slice T4_5 n1_5 tc4_5, .slice T4_6 n1_6 tc4_6, .int .i64 p1_7] 35)).cell? ⟨w4.heap.size, 0, none⟩ = some (.int .i64 p1_0) := KX5.at_ rfl
  have xKX5_1 : (w4.alloc (.cells #[.int .i64 p1_0, .int .i64 p1_1, .int .i64 p1_2, .slice T4_3 n1_3 tc4_3, .slice T4_4 n1_4 tc4_4, .slice T4_5 n1_5 tc4_5, .slice T4_6 n1_6 tc4_6, .int .i64 p1_7] 35)).cell? ⟨w4.heap.size, 1, none⟩ = some (.int .i64 p1_1) := KX5.at_ rfl
  have xKX5_2 : (w4.alloc (.cells #[.int .i64 p1_0, .int .i64 p1_1, .int .i64 p1_2, .slice T4_3 n1_3 tc4_3, .slice T4_4 n1_4 tc4_4, .slice T4_5 n1_5 tc4_5, .slice T4_6 n1_6 tc4_6, .int .i64 p1_7] 35)).cell? ⟨w4.heap.size, 2, none⟩ = some (.int .i64 p1_2) := KX5.at_ rfl
  have xKX5_3 : (w4.alloc (.cells #[.int .i64 p1_0, .int .i64 p1_1, .int .i64 p1_2, .slice T4_3 n1_3 tc4_3, .slice T4_4 n1_4 tc4_4, .slice T4_5 n1_5 tc4_5, .slice T4_6 n1_6 tc4_6, .int .i64 p1_7] 35)).cell? ⟨w4.heap.size, 3, none⟩ = some (.slice T4_3 n1_3 tc4_3) := KX5.at_ rfl
  have xKX5_4 : (w4.alloc (.cells #[.int .i64 p1_0, .int .i64 p1_1, .int .i64 p1_2, .slice T4_3 n1_3 tc4_3, .slice T4_4 n1_4 tc4_4, .slice T4_5 n1_5 tc4_5, .slice T4_6 n1_6 tc4_6, .int .i64 p1_7] 35)).cell? ⟨w4.heap.size, 4, none⟩ = some (.slice T4_4 n1_4 tc4_4) := KX5.at_ rfl
  have xKX5_5 : (w4.alloc (.cells #[.int .i64 p1_0, .int .i64 p1_1, .int .i64 p1_2, .slice T4_3 n1_3 tc4_3, .slice T4_4 n1_4 tc4_4, .slice T4_5 n1_5 tc4_5, .slice T4_6 n1_6 tc4_6, .int .i64 p1_7] 35)).cell? ⟨w4.heap.size, 5, none⟩ = some (.slice T4_5 n1_5 tc4_5) := KX5.at_ rfl
  have xKX5_6 : (w4.alloc (.cells #[.int .i64 p1_0, .int .i64 p1_1, .int .i64 p1_2, .slice T4_3 n1_3 tc4_3, .slice T4_4 n1_4 tc4_4, .slice T4_5 n1_5 tc4_5, .slice T4_6 n1_6 tc4_6, .int .i64 p1_7] 35)).cell? ⟨w4.heap.size, 6, none⟩ = some (.slice T4_6 n1_6 tc4_6) := KX5.at_ rfl
  have xKX5_7 : (w4.alloc (.cells #[.int .i64 p1_0, .int .i64 p1_1, .int .i64 p1_2, .slice T4_3 n1_3 tc4_3, .slice T4_4 n1_4 tc4_4, .slice T4_5 n1_5 tc4_5, .slice T4_6 n1_6 tc4_6, .int .i64 p1_7] 35)).cell? ⟨w4.heap.size, 7, none⟩ = some (.int .i64 p1_7) := KX5.at_ rfl
  go_wp2_with fail
  refine Calls.mono (impl_ReviewPackageC a0 p1_0 p1_1 p1_2 l1_3 T4_3 n1_3 tc4_3 _ _ l1_4 T4_4 n1_4 tc4_4 _ _ l1_5 T4_5 n1_5 tc4_5 _ _ l1_6 T4_6 n1_6 tc4_6 _ _ p1_7 _ (pow10_below hT G) Wf0.out (by omega) FT4_3.rd FT4_3.cap H1_3 (by omega) FT4_4.rd FT4_4.cap H1_4 (by omega) FT4_5.rd FT4_5.cap H1_5 (by omega) FT4_6.rd FT4_6.cap H1_6) ?_
  rintro e w5 ⟨rfl, B7⟩
  replace R1_3 := (R1_3).new B7
  replace R1_4 := (R1_4).new B7
  replace R1_5 := (R1_5).new B7
  replace R1_6 := (R1_6).new B7
  replace KB1 := (KB1).new B7
  replace FT4_3 := (FT4_3).new B7
  replace FT4_4 := (FT4_4).new B7
  replace FT4_5 := (FT4_5).new B7
  replace FT4_6 := (FT4_6).new B7
  replace KX5 := (KX5).new B7
  replace G := below_trans G B7 (Nat.le_refl _)
  have S5 := Lib.hid (show (w4.alloc (.cells #[.int .i64 p1_0, .int .i64 p1_1, .int .i64 p1_2, .slice T4_3 n1_3 tc4_3, .slice T4_4 n1_4 tc4_4, .slice T4_5 n1_5 tc4_5, .slice T4_6 n1_6 tc4_6, .int .i64 p1_7] 35)).heap.size + 0 ≤ w5.heap.size by have := B7.size; first | (simpa using this) | ((try simp at this); omega))
  clear B7
  clear xKX5_0 xKX5_1 xKX5_2 xKX5_3 xKX5_4 xKX5_5 xKX5_6 xKX5_7
  go_wp2_with fail
  replace G := G.drew
  replace R1_3 := R1_3.drw
  replace R1_4 := R1_4.drw
  replace R1_5 := R1_5.drw
  replace R1_6 := R1_6.drw
  replace KB1 := KB1.drw
  replace FT4_3 := FT4_3.drw
  replace FT4_4 := FT4_4.drw
  replace FT4_5 := FT4_5.drw
  replace FT4_6 := FT4_6.drw
  replace KX5 := KX5.drw
  go_region_held3 (fun w' => w'.cell? ⟨w4.heap.size, 0, none⟩ = some (.int .i64 p1_0) ∧ w'.cell? ⟨w4.heap.size, 1, none⟩ = some (.int .i64 p1_1) ∧ w'.cell? ⟨w4.heap.size, 2, none⟩ = some (.int .i64 p1_2) ∧ w'.cell? ⟨w4.heap.size, 3, none⟩ = some (.slice T4_3 n1_3 tc4_3) ∧ w'.cell? ⟨w4.heap.size, 4, none⟩ = some (.slice T4_4 n1_4 tc4_4) ∧ w'.cell? ⟨w4.heap.size, 5, none⟩ = some (.slice T4_5 n1_5 tc4_5) ∧ w'.cell? ⟨w4.heap.size, 6, none⟩ = some (.slice T4_6 n1_6 tc4_6) ∧ w'.cell? ⟨w4.heap.size, 7, none⟩ = some (.int .i64 p1_7) ∧ w'.cell? ⟨w.heap.size, 0, none⟩ = some (.int .i64 p1_0) ∧ w'.cell? ⟨w.heap.size, 1, none⟩ = some (.int .i64 p1_1) ∧ w'.cell? ⟨w.heap.size, 2, none⟩ = some (.int .i64 p1_2) ∧ w'.cell? ⟨w.heap.size, 3, none⟩ = some (.slice A1_3 n1_3 c1_3) ∧ w'.cell? ⟨w.heap.size, 4, none⟩ = some (.slice A1_4 n1_4 c1_4) ∧ w'.cell? ⟨w.heap.size, 5, none⟩ = some (.slice A1_5 n1_5 c1_5) ∧ w'.cell? ⟨w.heap.size, 6, none⟩ = some (.slice A1_6 n1_6 c1_6) ∧ w'.cell? ⟨w.heap.size, 7, none⟩ = some (.int .i64 p1_7))
   (exact ⟨KX5.at_ rfl, KX5.at_ rfl, KX5.at_ rfl, KX5.at_ rfl, KX5.at_ rfl, KX5.at_ rfl, KX5.at_ rfl, KX5.at_ rfl, KB1.at_ rfl, KB1.at_ rfl, KB1.at_ rfl, KB1.at_ rfl, KB1.at_ rfl, KB1.at_ rfl, KB1.at_ rfl, KB1.at_ rfl⟩)
   (first
    | (go_at_call 9; (fail_if_success (have hx := B8)); refine Calls.mono (to_package p1_0 p1_1 p1_2 l1_3 A1_3 n1_3 c1_3 _ _ l1_4 A1_4 n1_4 c1_4 _ _ l1_5 A1_5 n1_5 c1_5 _ _ l1_6 A1_6 n1_6 c1_6 _ _ p1_7 _ hqn1_3 R1_3 hqn1_4 R1_4 hqn1_5 R1_5 hqn1_6 R1_6) ?_; rintro e w6 ⟨T8_3, T8_4, T8_5, T8_6, tc8_3, tlo8_3, thi8_3, tc8_4, tlo8_4, thi8_4, tc8_5, tlo8_5, thi8_5, tc8_6, tlo8_6, thi8_6, rfl, FT8_3, FT8_4, FT8_5, FT8_6, MT8, B8⟩; (replace R1_3 := rd_nw B8 R1_3); (replace R1_4 := rd_nw B8 R1_4); (replace R1_5 := rd_nw B8 R1_5); (replace R1_6 := rd_nw B8 R1_6); (replace KB1 := box_nw B8 KB1); (replace FT4_3 := fr_nw B8 FT4_3); (replace FT4_4 := fr_nw B8 FT4_4); (replace FT4_5 := fr_nw B8 FT4_5); (replace FT4_6 := fr_nw B8 FT4_6); (replace KX5 := box_nw B8 KX5); (replace G := (by first | exact below_trans G B8 (Nat.le_refl _) | exact below_trans G.drew B8 (Nat.le_refl _) | exact below_trans (below_dN G _) B8 (Nat.le_refl _))); (have S6 := Lib.hid (show w5.heap.size ≤ w6.heap.size from B8.size)))
    | (go_at_call 11; (fail_if_success (have hx := B9)); refine Calls.mono (eq_package_same p1_0 p1_1 p1_2 l1_3 n1_3 T4_3 T8_3 tc4_3 tc8_3 _ _ _ _ l1_4 n1_4 T4_4 T8_4 tc4_4 tc8_4 _ _ _ _ l1_5 n1_5 T4_5 T8_5 tc4_5 tc8_5 _ _ _ _ l1_6 n1_6 T4_6 T8_6 tc4_6 tc8_6 _ _ _ _ p1_7 _ (by omega) (by omega) (by omega) (by omega) FT4_3.rd FT4_4.rd FT4_5.rd FT4_6.rd FT8_3.rd FT8_4.rd FT8_5.rd FT8_6.rd) ?_; rintro e w7 ⟨rfl, B9⟩; (replace R1_3 := rd_nw B9 R1_3); (replace R1_4 := rd_nw B9 R1_4); (replace R1_5 := rd_nw B9 R1_5); (replace R1_6 := rd_nw B9 R1_6); (replace KB1 := box_nw B9 KB1); (replace FT4_3 := fr_nw B9 FT4_3); (replace FT4_4 := fr_nw B9 FT4_4); (replace FT4_5 := fr_nw B9 FT4_5); (replace FT4_6 := fr_nw B9 FT4_6); (replace KX5 := box_nw B9 KX5); (replace FT8_3 := fr_nw B9 FT8_3); (replace FT8_4 := fr_nw B9 FT8_4); (replace FT8_5 := fr_nw B9 FT8_5); (replace FT8_6 := fr_nw B9 FT8_6); (replace G := (by first | exact below_trans G B9 (Nat.le_refl _) | exact below_trans G.drew B9 (Nat.le_refl _) | exact below_trans (below_dN G _) B9 (Nat.le_refl _))); (have S7 := Lib.hid (show w6.heap.size ≤ w7.heap.size from B9.size))))
  clear B8
  clear B9
  clear FT8_3
  clear FT8_4
  clear FT8_5
  clear FT8_6
  go_wp2_with fail
  go_ret
  exact ⟨rfl, G⟩
 ·
  have G : Below w.heap.size w (w.alloc (.cells #[.int .i64 p1_0, .int .i64 p1_1, .int .i64 p1_2, .slice A1_3 n1_3 c1_3, .slice A1_4 n1_4 c1_4, .slice A1_5 n1_5 c1_5, .slice A1_6 n1_6 c1_6, .int .i64 p1_7] 27)) := (Below.refl _ _).alloc (by simp) _
  have S0 := Lib.hid (show (w.alloc (.cells #[.int .i64 p1_0, .int .i64 p1_1, .int .i64 p1_2, .slice A1_3 n1_3 c1_3, .slice A1_4 n1_4 c1_4, .slice A1_5 n1_5 c1_5, .slice A1_6 n1_6 c1_6, .int .i64 p1_7] 27)).heap.size = w.heap.size + 1 by simp)
  replace R1_3 := R1_3.alloc (.cells #[.int .i64 p1_0, .int .i64 p1_1, .int .i64 p1_2, .slice A1_3 n1_3 c1_3, .slice A1_4 n1_4 c1_4, .slice A1_5 n1_5 c1_5, .slice A1_6 n1_6 c1_6, .int .i64 p1_7] 27)
  replace R1_4 := R1_4.alloc (.cells #[.int .i64 p1_0, .int .i64 p1_1, .int .i64 p1_2, .slice A1_3 n1_3 c1_3, .slice A1_4 n1_4 c1_4, .slice A1_5 n1_5 c1_5, .slice A1_6 n1_6 c1_6, .int .i64 p1_7] 27)
  replace R1_5 := R1_5.alloc (.cells #[.int .i64 p1_0, .int .i64 p1_1, .int .i64 p1_2, .slice A1_3 n1_3 c1_3, .slice A1_4 n1_4 c1_4, .slice A1_5 n1_5 c1_5, .slice A1_6 n1_6 c1_6, .int .i64 p1_7] 27)
  replace R1_6 := R1_6.alloc (.cells #[.int .i64 p1_0, .int .i64 p1_1, .int .i64 p1_2, .slice A1_3 n1_3 c1_3, .slice A1_4 n1_4 c1_4, .slice A1_5 n1_5 c1_5, .slice A1_6 n1_6 c1_6, .int .i64 p1_7] 27)
  have KB1 : BoxAt (w.alloc (.cells #[.int .i64 p1_0, .int .i64 p1_1, .int .i64 p1_2, .slice A1_3 n1_3 c1_3, .slice A1_4 n1_4 c1_4, .slice A1_5 n1_5 c1_5, .slice A1_6 n1_6 c1_6, .int .i64 p1_7] 27)) (w.heap.size) 27 #[.int .i64 p1_0, .int .i64 p1_1, .int .i64 p1_2, .slice A1_3 n1_3 c1_3, .slice A1_4 n1_4 c1_4, .slice A1_5 n1_5 c1_5, .slice A1_6 n1_6 c1_6, .int .i64 p1_7] := box_new _ _ _
  go_enter Tryz.func3, Tryz.ntmps3
  have xKB1_0 : (w.alloc (.cells #[.int .i64 p1_0, .int .i64 p1_1, .int .i64 p1_2, .slice A1_3 n1_3 c1_3, .slice A1_4 n1_4 c1_4, .slice A1_5 n1_5 c1_5, .slice A1_6 n1_6 c1_6, .int .i64 p1_7] 27)).cell? ⟨w.heap.size, 0, none⟩ = some (.int .i64 p1_0) := KB1.at_ rfl
  have xKB1_1 : (w.alloc (.cells #[.int .i64 p1_0, .int .i64 p1_1, .int .i64 p1_2, .slice A1_3 n1_3 c1_3, .slice A1_4 n1_4 c1_4, .slice A1_5 n1_5 c1_5, .slice A1_6 n1_6 c1_6, .int .i64 p1_7] 27)).cell? ⟨w.heap.size, 1, none⟩ = some (.int .i64 p1_1) := KB1.at_ rfl
  have xKB1_2 : (w.alloc (.cells #[.int .i64 p1_0, .int .i64 p1_1, .int .i64 p1_2, .slice A1_3 n1_3 c1_3, .slice A1_4 n1_4 c1_4, .slice A1_5 n1_5 c1_5, .slice A1_6 n1_6 c1_6, .int .i64 p1_7] 27)).cell? ⟨w.heap.size, 2, none⟩ = some (.int .i64 p1_2) := KB1.at_ rfl
  have xKB1_3 : (w.alloc (.cells #[.int .i64 p1_0, .int .i64 p1_1, .int .i64 p1_2, .slice A1_3 n1_3 c1_3, .slice A1_4 n1_4 c1_4, .slice A1_5 n1_5 c1_5, .slice A1_6 n1_6 c1_6, .int .i64 p1_7] 27)).cell? ⟨w.heap.size, 3, none⟩ = some (.slice A1_3 n1_3 c1_3) := KB1.at_ rfl
  have xKB1_4 : (w.alloc (.cells #[.int .i64 p1_0, .int .i64 p1_1, .int .i64 p1_2, .slice A1_3 n1_3 c1_3, .slice A1_4 n1_4 c1_4, .slice A1_5 n1_5 c1_5, .slice A1_6 n1_6 c1_6, .int .i64 p1_7] 27)).cell? ⟨w.heap.size, 4, none⟩ = some (.slice A1_4 n1_4 c1_4) := KB1.at_ rfl
  have xKB1_5 : (w.alloc (.cells #[.int .i64 p1_0, .int .i64 p1_1, .int .i64 p1_2, .slice A1_3 n1_3 c1_3, .slice A1_4 n1_4 c1_4, .slice A1_5 n1_5 c1_5, .slice A1_6 n1_6 c1_6, .int .i64 p1_7] 27)).cell? ⟨w.heap.size, 5, none⟩ = some (.slice A1_5 n1_5 c1_5) := KB1.at_ rfl
  have xKB1_6 : (w.alloc (.cells #[.int .i64 p1_0, .int .i64 p1_1, .int .i64 p1_2, .slice A1_3 n1_3 c1_3, .slice A1_4 n1_4 c1_4, .slice A1_5 n1_5 c1_5, .slice A1_6 n1_6 c1_6, .int .i64 p1_7] 27)).cell? ⟨w.heap.size, 6, none⟩ = some (.slice A1_6 n1_6 c1_6) := KB1.at_ rfl
  have xKB1_7 : (w.alloc (.cells #[.int .i64 p1_0, .int .i64 p1_1, .int .i64 p1_2, .slice A1_3 n1_3 c1_3, .slice A1_4 n1_4 c1_4, .slice A1_5 n1_5 c1_5, .slice A1_6 n1_6 c1_6, .int .i64 p1_7] 27)).cell? ⟨w.heap.size, 7, none⟩ = some (.int .i64 p1_7) := KB1.at_ rfl
  go_wp2_with fail
  refine Calls.mono (szno_package p1_0 p1_1 p1_2 A1_3 n1_3 c1_3 A1_4 n1_4 c1_4 A1_5 n1_5 c1_5 A1_6 n1_6 c1_6 p1_7 (1048576) _ hm1_3 hm1_4 hm1_5 hm1_6 (by omega) (by omega) (by omega)) ?_
  rintro e w1 ⟨rfl, B10⟩
  clear xKB1_0 xKB1_1 xKB1_2 xKB1_3 xKB1_4 xKB1_5 xKB1_6 xKB1_7
  go_wp2_with fail
  go_ret
  exact ⟨rfl, below_trans G B10 (Nat.le_refl _)⟩

set_option maxRecDepth 100000 in
theorem lifted (os : Os) (started : os.Started) (H : Type) (enc : TypeId × Value → H) :
  ReturnsInHanded {} Tryz.checked os 3 .any (fun w args => (Rows.fnExactReviewPackageSpec.pre enc Tryz.prog Tryz.f3 [] false w args ∧ laidMetH Tryz.prog laidVars w) ∧ sizedMet enc Tryz.prog Tryz.f3 (OpenSpec.ofChange Rows.fnExactReviewPackageSpec) false w args) (Rows.fnExactReviewPackageSpec.post enc Tryz.prog Tryz.f3 false true false false) := by
 refine law_lifted_laid Tryz.func3 (by kernel_rfl) rfl rfl (by kernel_rfl) os started
  (ChangeSpec.witness_shaped (enc := enc) (C := Tryz.checked) (os := os) (X := fun w _ => laidMetH Tryz.prog laidVars w) false (World.laidAll Tryz.prog os laidVars) #[.int .i64 0, .agg #[.int .i64 0, .int .i64 0, .int .i64 0, .slice none 0 0, .slice none 0 0, .slice none 0 0, .slice none 0 0, .int .i64 0]] 8 (World.laidAll_os _ _ _)
   (World.shaped_of_ZipB (by kernel_rfl) (by kernel_rfl)) (by kernel_rfl) (by kernel_rfl) (by kernel_rfl)
   (by rw [MakeChecks.laidMetH_plain _ _ _ (by kernel_rfl)]; exact laidMet_laidAll _ (by kernel_rfl) (by kernel_rfl))) ?_
 intro W base args ds p hT hval hA hlt
 rw [Tryz.params3] at hA hval
 obtain ⟨v0, vs0, d0, ds0, p0, q0, hargs, rfl, rfl, h0, r0⟩ := trodAll_cons hA
 obtain ⟨v1, vs1, d1, ds1, p1, q1, rfl, rfl, rfl, h1, r1⟩ := trodAll_cons r0
 obtain ⟨rfl, rfl, rfl⟩ := trodAll_nil r1
 obtain rfl : args = #[v0, v1] := by cases args; simp_all
 obtain ⟨a0, rfl, rfl, rfl, wf0⟩ := open_int Tryz.underlying3 (hval 0 3 v0 rfl rfl) h0
 obtain ⟨p1_0, p1_1, p1_2, A1_3, n1_3, c1_3, l1_3, A1_4, n1_4, c1_4, l1_4, A1_5, n1_5, c1_5, l1_5, A1_6, n1_6, c1_6, l1_6, p1_7, rfl, wf1_0, wf1_1, wf1_2, m1_3, R1_3, H1_3, m1_4, R1_4, H1_4, m1_5, R1_5, H1_5, m1_6, R1_6, H1_6, wf1_7⟩ := open_package (hval 1 27 v1 rfl rfl) h1 (fun x hx => hlt x (by simp [hx]))
 exact ⟨fun _ => ⟨rfl, rfl, rfl⟩, walk a0 p1_0 p1_1 p1_2 l1_3 A1_3 n1_3 c1_3 l1_4 A1_4 n1_4 c1_4 l1_5 A1_5 n1_5 c1_5 l1_6 A1_6 n1_6 c1_6 p1_7 W hT wf0 wf1_0 wf1_1 wf1_2 m1_3 R1_3 H1_3 m1_4 R1_4 H1_4 m1_5 R1_5 H1_5 m1_6 R1_6 H1_6 wf1_7⟩

set_option maxRecDepth 100000 in
set_option maxHeartbeats 8000000 in
theorem closed : joinedFacts Tryz.pinned.checked.prog 3 Tryz.f3 Rows.fnExactReviewPackageSpec Rows.fnExactReviewPackageRow = true :=
 (and_i (and_i (and_i (and_i (and_i (and_i (and_i (and_i (and_i (and_i (and_i (and_i (and_i (and_i (and_i (and_i (and_i (and_i (and_i (and_i (and_i (and_i (and_i (and_i (and_i (and_i (and_i (and_i (and_i (and_i (and_i (by as_aux_lemma => kernel_rfl) seatLaid) sf_maps) (by as_aux_lemma => kernel_rfl)) (by as_aux_lemma => kernel_rfl)) (by as_aux_lemma => kernel_rfl)) (by as_aux_lemma => kernel_rfl)) (by as_aux_lemma => kernel_rfl)) (by as_aux_lemma => kernel_rfl)) (by as_aux_lemma => kernel_rfl)) (by as_aux_lemma => kernel_rfl)) (by as_aux_lemma => kernel_rfl)) (by as_aux_lemma => kernel_rfl)) (by as_aux_lemma => kernel_rfl)) (by as_aux_lemma => kernel_rfl)) (by as_aux_lemma => kernel_rfl)) (by as_aux_lemma => kernel_rfl)) (by as_aux_lemma => kernel_rfl)) (by as_aux_lemma => kernel_rfl)) (by as_aux_lemma => kernel_rfl)) (by as_aux_lemma => kernel_rfl)) (by as_aux_lemma => kernel_rfl)) sf_plain) (by as_aux_lemma => kernel_rfl)) sf_heard) sf_enter) sf_lifts) sf_make) (by as_aux_lemma => kernel_rfl)) (by as_aux_lemma => kernel_rfl)) (by as_aux_lemma => kernel_rfl)) (by as_aux_lemma => kernel_rfl))

theorem over : Rows.fnExactReviewPackageRow.holds Tryz.pinned (OpenSpec.ofChange Rows.fnExactReviewPackageSpec) :=
 OpenClaim.holds_of_wide 3 Tryz.f3 rfl rfl rfl rfl rfl rfl rfl ⟨rfl, rfl, rfl, rfl, rfl⟩ rfl rfl rfl rfl rfl (by kernel_rfl) Tryz.func3 closed
  (of_decide_eq_true (by kernel_rfl)) (by unfold Func.isWrapper; first | (rw [if_pos (by decide +kernel)]; kernel_rfl) | (rw [if_neg (by decide +kernel)]; exact ⟨rfl, rfl⟩))
  (fun os started H enc _ => lifted os started H enc)

theorem proved : Rows.FnExactReviewPackageCardSaid :=
 Claim7.holds_tied_plain_at .later [] [.sentinel] true Rows.fnExactReviewPackageCard.stood.harness true over (fun _ h => by cases h) (by kernel_rfl) (fun _ h => by cases h) fnExactReviewPackage_row_tie rfl ⟨rfl, rfl⟩ (by kernel_rfl) rfl
  (fun f fn hf hfn => by
   obtain rfl : f = 3 := Option.some.inj ((show Tryz.prog.funcNamed "loop.example/g03001/laws.FnExactReviewPackage" = some 3 by kernel_rfl).symm.trans hf) |>.symm
   obtain rfl : fn = Tryz.f3 := (Option.some.inj (Tryz.func3.symm.trans hfn)).symm
   exact ⟨by kernel_rfl, fun j t ht => by
    rw [Tryz.params3] at ht
    have hm : t ∈ [3, 27] := by simpa using Array.mem_of_getElem? ht
    have hall : ([3, 27].all fun u => !Tryz.prog.wantsStandIn u) = true := by kernel_rfl
    exact (show Tryz.prog.wantsStandIn t = false by simpa using List.all_eq_true.1 hall t hm)⟩)
  (by kernel_rfl)
#print axioms proved
end Go.Proofs.YtphhnmfgomcanaaGreatDoor.fnExactReviewPackage
