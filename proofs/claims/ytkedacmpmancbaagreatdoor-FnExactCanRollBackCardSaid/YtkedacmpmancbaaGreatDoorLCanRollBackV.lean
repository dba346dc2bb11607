/- The law FnExactCanRollBack answers true for every argument, and leaves each argument as it was. No condition. -/
import Derived.Test.YtkedacmpmancbaaGreatDoorVEFrame
import Derived.Deep.RegionHeld3
import Derived.Deep.DeepCutAuto
import Derived.Test.YtkedacmpmancbaaGreatDoorVFacts
import Derived.Test.YtkedacmpmancbaaGreatDoorVRPackage
import Derived.Test.YtkedacmpmancbaaGreatDoorVRSnapshot
import Derived.Test.YtkedacmpmancbaaGreatDoorVCrb
import Derived.Test.YtkedacmpmancbaaGreatDoorVOSnapshot
namespace Go.Proofs.YtkedacmpmancbaaGreatDoor.fnExactCanRollBack
open Go Go.ChangeShapes Go.WideShapes Go.ChangeAt Go.RowKit Go.Lib
open Go.ChangeMaps (open_string)
set_option linter.unusedVariables false
set_option linter.unusedSimpArgs false
set_option maxRecDepth 100000

set_option maxRecDepth 100000 in
set_option maxHeartbeats 20000000 in
theorem walk (a0 : Int) (p1_0 : Int) (p1_1 : Int) (p1_2 : Int) (l1_3 : List TGrant) (A1_3 : Option Addr) (n1_3 c1_3 : Nat) (l1_4 : List TFlow) (A1_4 : Option Addr) (n1_4 c1_4 : Nat) (l1_5 : List TRule) (A1_5 : Option Addr) (n1_5 c1_5 : Nat) (l1_6 : List TOp) (A1_6 : Option Addr) (n1_6 c1_6 : Nat) (p1_7 : Int) (l1_8 : List TStored) (A1_8 : Option Addr) (n1_8 c1_8 : Nat) (p2_0 : Int) (p2_1 : Int) (p2_2 : Int) (l2_3 : List TGrant) (A2_3 : Option Addr) (n2_3 c2_3 : Nat) (l2_4 : List TFlow) (A2_4 : Option Addr) (n2_4 c2_4 : Nat) (l2_5 : List TRule) (A2_5 : Option Addr) (n2_5 c2_5 : Nat) (l2_6 : List TOp) (A2_6 : Option Addr) (n2_6 c2_6 : Nat) (p2_7 : Int) (w : World) (hT : Pow10 w) (wf0 : (Lit.int .i64 a0).wf = true) (wf1_0 : (Lit.int .i64 p1_0).wf = true) (wf1_1 : (Lit.int .i64 p1_1).wf = true) (wf1_2 : (Lit.int .i64 p1_2).wf = true) (hm1_3 : n1_3 ≤ maxLen) (R1_3 : Rd w 0 w.heap.size 7 A1_3 n1_3 (cGrant l1_3)) (H1_3 : Hid (cGrantOk l1_3)) (hm1_4 : n1_4 ≤ maxLen) (R1_4 : Rd w 0 w.heap.size 3 A1_4 n1_4 (cFlow l1_4)) (H1_4 : Hid (cFlowOk l1_4)) (hm1_5 : n1_5 ≤ maxLen) (R1_5 : Rd w 0 w.heap.size 8 A1_5 n1_5 (cRule l1_5)) (H1_5 : Hid (cRuleOk l1_5)) (hm1_6 : n1_6 ≤ maxLen) (R1_6 : Rd w 0 w.heap.size 4 A1_6 n1_6 (cOp l1_6)) (H1_6 : Hid (cOpOk l1_6)) (wf1_7 : (Lit.int .i64 p1_7).wf = true) (hm1_8 : n1_8 ≤ maxLen) (R1_8 : Rd w 0 w.heap.size 4 A1_8 n1_8 (cStored l1_8)) (H1_8 : Hid (cStoredOk l1_8)) (wf2_0 : (Lit.int .i64 p2_0).wf = true) (wf2_1 : (Lit.int .i64 p2_1).wf = true) (wf2_2 : (Lit.int .i64 p2_2).wf = true) (hm2_3 : n2_3 ≤ maxLen) (R2_3 : Rd w 0 w.heap.size 7 A2_3 n2_3 (cGrant l2_3)) (H2_3 : Hid (cGrantOk l2_3)) (hm2_4 : n2_4 ≤ maxLen) (R2_4 : Rd w 0 w.heap.size 3 A2_4 n2_4 (cFlow l2_4)) (H2_4 : Hid (cFlowOk l2_4)) (hm2_5 : n2_5 ≤ maxLen) (R2_5 : Rd w 0 w.heap.size 8 A2_5 n2_5 (cRule l2_5)) (H2_5 : Hid (cRuleOk l2_5)) (hm2_6 : n2_6 ≤ maxLen) (R2_6 : Rd w 0 w.heap.size 4 A2_6 n2_6 (cOp l2_6)) (H2_6 : Hid (cOpOk l2_6)) (wf2_7 : (Lit.int .i64 p2_7).wf = true) :
  Calls Tryz.prog 4 #[.int .i64 a0, .agg #[.int .i64 p1_0, .int .i64 p1_1, .int .i64 p1_2, .slice A1_3 n1_3 c1_3, .slice A1_4 n1_4 c1_4, .slice A1_5 n1_5 c1_5, .slice A1_6 n1_6 c1_6, .int .i64 p1_7, .slice A1_8 n1_8 c1_8], .agg #[.int .i64 p2_0, .int .i64 p2_1, .int .i64 p2_2, .slice A2_3 n2_3 c2_3, .slice A2_4 n2_4 c2_4, .slice A2_5 n2_5 c2_5, .slice A2_6 n2_6 c2_6, .int .i64 p2_7]] w fun e w' => e = .returned (.bool true) ∧ Below w.heap.size w w' := by
 have hm1_3 : n1_3 ≤ 9223372036854775807 := hm1_3
 have hm1_4 : n1_4 ≤ 9223372036854775807 := hm1_4
 have hm1_5 : n1_5 ≤ 9223372036854775807 := hm1_5
 have hm1_6 : n1_6 ≤ 9223372036854775807 := hm1_6
 have hm1_8 : n1_8 ≤ 9223372036854775807 := hm1_8
 have hm2_3 : n2_3 ≤ 9223372036854775807 := hm2_3
 have hm2_4 : n2_4 ≤ 9223372036854775807 := hm2_4
 have hm2_5 : n2_5 ≤ 9223372036854775807 := hm2_5
 have hm2_6 : n2_6 ≤ 9223372036854775807 := hm2_6
 have Wf0 := Lib.hid wf0
 clear wf0
 have Wf1_0 := Lib.hid wf1_0
 clear wf1_0
 have Wf1_1 := Lib.hid wf1_1
 clear wf1_1
 have Wf1_2 := Lib.hid wf1_2
 clear wf1_2
 have Wf1_7 := Lib.hid wf1_7
 clear wf1_7
 have Wf2_0 := Lib.hid wf2_0
 clear wf2_0
 have Wf2_1 := Lib.hid wf2_1
 clear wf2_1
 have Wf2_2 := Lib.hid wf2_2
 clear wf2_2
 have Wf2_7 := Lib.hid wf2_7
 clear wf2_7
 by_cases hz1 : n1_3 + n1_4 + n1_5 + n1_6 + n1_8 ≤ 1048576
 ·
  by_cases hz2 : n1_3 + n1_4 + n1_5 + n1_6 + n1_8 + n2_3 + n2_4 + n2_5 + n2_6 ≤ 1048576
  ·
   have hqn1_3 : n1_3 ≤ 17179869184 := by omega
   have hqn1_4 : n1_4 ≤ 17179869184 := by omega
   have hqn1_5 : n1_5 ≤ 17179869184 := by omega
   have hqn1_6 : n1_6 ≤ 17179869184 := by omega
   have hqn1_8 : n1_8 ≤ 17179869184 := by omega
   have hqn2_3 : n2_3 ≤ 17179869184 := by omega
   have hqn2_4 : n2_4 ≤ 17179869184 := by omega
   have hqn2_5 : n2_5 ≤ 17179869184 := by omega
   have hqn2_6 : n2_6 ≤ 17179869184 := by omega
   have G : Below w.heap.size w ((w.alloc (.cells #[.int .i64 p1_0, .int .i64 p1_1, .int .i64 p1_2, .slice A1_3 n1_3 c1_3, .slice A1_4 n1_4 c1_4, .slice A1_5 n1_5 c1_5, .slice A1_6 n1_6 c1_6, .int .i64 p1_7, .slice A1_8 n1_8 c1_8] 41)).alloc (.cells #[.int .i64 p2_0, .int .i64 p2_1, .int .i64 p2_2, .slice A2_3 n2_3 c2_3, .slice A2_4 n2_4 c2_4, .slice A2_5 n2_5 c2_5, .slice A2_6 n2_6 c2_6, .int .i64 p2_7] 27)) := ((Below.refl _ _).alloc (by simp) _).alloc (by simp) _
   have S0 := Lib.hid (show ((w.alloc (.cells #[.int .i64 p1_0, .int .i64 p1_1, .int .i64 p1_2, .slice A1_3 n1_3 c1_3, .slice A1_4 n1_4 c1_4, .slice A1_5 n1_5 c1_5, .slice A1_6 n1_6 c1_6, .int .i64 p1_7, .slice A1_8 n1_8 c1_8] 41)).alloc (.cells #[.int .i64 p2_0, .int .i64 p2_1, .int .i64 p2_2, .slice A2_3 n2_3 c2_3, .slice A2_4 n2_4 c2_4, .slice A2_5 n2_5 c2_5, .slice A2_6 n2_6 c2_6, .int .i64 p2_7] 27)).heap.size = w.heap.size + 2 by simp)
   replace R1_3 := R1_3.alloc (.cells #[.int .i64 p1_0, .int .i64 p1_1, .int .i64 p1_2, .slice A1_3 n1_3 c1_3, .slice A1_4 n1_4 c1_4, .slice A1_5 n1_5 c1_5, .slice A1_6 n1_6 c1_6, .int .i64 p1_7, .slice A1_8 n1_8 c1_8] 41)
   replace R1_4 := R1_4.alloc (.cells #[.int .i64 p1_0, .int .i64 p1_1, .int .i64 p1_2, .slice A1_3 n1_3 c1_3, .slice A1_4 n1_4 c1_4, .slice A1_5 n1_5 c1_5, .slice A1_6 n1_6 c1_6, .int .i64 p1_7, .slice A1_8 n1_8 c1_8] 41)
   replace R1_5 := R1_5.alloc (.cells #[.int .i64 p1_0, .int .i64 p1_1, .int .i64 p1_2, .slice A1_3 n1_3 c1_3, .slice A1_4 n1_4 c1_4, .slice A1_5 n1_5 c1_5, .slice A1_6 n1_6 c1_6, .int .i64 p1_7, .slice A1_8 n1_8 c1_8] 41)
   replace R1_6 := R1_6.alloc (.cells #[.int .i64 p1_0, .int .i64 p1_1, .int .i64 p1_2, .slice A1_3 n1_3 c1_3, .slice A1_4 n1_4 c1_4, .slice A1_5 n1_5 c1_5, .slice A1_6 n1_6 c1_6, .int .i64 p1_7, .slice A1_8 n1_8 c1_8] 41)
   replace R1_8 := R1_8.alloc (.cells #[.int .i64 p1_0, .int .i64 p1_1, .int .i64 p1_2, .slice A1_3 n1_3 c1_3, .slice A1_4 n1_4 c1_4, .slice A1_5 n1_5 c1_5, .slice A1_6 n1_6 c1_6, .int .i64 p1_7, .slice A1_8 n1_8 c1_8] 41)
   replace R2_3 := R2_3.alloc (.cells #[.int .i64 p1_0, .int .i64 p1_1, .int .i64 p1_2, .slice A1_3 n1_3 c1_3, .slice A1_4 n1_4 c1_4, .slice A1_5 n1_5 c1_5, .slice A1_6 n1_6 c1_6, .int .i64 p1_7, .slice A1_8 n1_8 c1_8] 41)
   replace R2_4 := R2_4.alloc (.cells #[.int .i64 p1_0, .int .i64 p1_1, .int .i64 p1_2, .slice A1_3 n1_3 c1_3, .slice A1_4 n1_4 c1_4, .slice A1_5 n1_5 c1_5, .slice A1_6 n1_6 c1_6, .int .i64 p1_7, .slice A1_8 n1_8 c1_8] 41)
   replace R2_5 := R2_5.alloc (.cells #[.int .i64 p1_0, .int .i64 p1_1, .int .i64 p1_2, .slice A1_3 n1_3 c1_3, .slice A1_4 n1_4 c1_4, .slice A1_5 n1_5 c1_5, .slice A1_6 n1_6 c1_6, .int .i64 p1_7, .slice A1_8 n1_8 c1_8] 41)
   replace R2_6 := R2_6.alloc (.cells #[.int .i64 p1_0, .int .i64 p1_1, .int .i64 p1_2, .slice A1_3 n1_3 c1_3, .slice A1_4 n1_4 c1_4, .slice A1_5 n1_5 c1_5, .slice A1_6 n1_6 c1_6, .int .i64 p1_7, .slice A1_8 n1_8 c1_8] 41)
   have KB1 : BoxAt (w.alloc (.cells #[.int .i64 p1_0, .int .i64 p1_1, .int .i64 p1_2, .slice A1_3 n1_3 c1_3, .slice A1_4 n1_4 c1_4, .slice A1_5 n1_5 c1_5, .slice A1_6 n1_6 c1_6, .int .i64 p1_7, .slice A1_8 n1_8 c1_8] 41)) (w.heap.size) 41 #[.int .i64 p1_0, .int .i64 p1_1, .int .i64 p1_2, .slice A1_3 n1_3 c1_3, .slice A1_4 n1_4 c1_4, .slice A1_5 n1_5 c1_5, .slice A1_6 n1_6 c1_6, .int .i64 p1_7, .slice A1_8 n1_8 c1_8] := box_new _ _ _
   replace R1_3 := R1_3.alloc (.cells #[.int .i64 p2_0, .int .i64 p2_1, .int .i64 p2_2, .slice A2_3 n2_3 c2_3, .slice A2_4 n2_4 c2_4, .slice A2_5 n2_5 c2_5, .slice A2_6 n2_6 c2_6, .int .i64 p2_7] 27)
   replace R1_4 := R1_4.alloc (.cells #[.int .i64 p2_0, .int .i64 p2_1, .int .i64 p2_2, .slice A2_3 n2_3 c2_3, .slice A2_4 n2_4 c2_4, .slice A2_5 n2_5 c2_5, .slice A2_6 n2_6 c2_6, .int .i64 p2_7] 27)
   replace R1_5 := R1_5.alloc (.cells #[.int .i64 p2_0, .int .i64 p2_1, .int .i64 p2_2, .slice A2_3 n2_3 c2_3, .slice A2_4 n2_4 c2_4, .slice A2_5 n2_5 c2_5, .slice A2_6 n2_6 c2_6, .int .i64 p2_7] 27)
   replace R1_6 := R1_6.alloc (.cells #[.int .i64 p2_0, .int .i64 p2_1, .int .i64 p2_2, .slice A2_3 n2_3 c2_3, .slice A2_4 n2_4 c2_4, .slice A2_5 n2_5 c2_5, .slice A2_6 n2_6 c2_6, .int .i64 p2_7] 27)
   replace R1_8 := R1_8.alloc (.cells #[.int .i64 p2_0, .int .i64 p2_1, .int .i64 p2_2, .slice A2_3 n2_3 c2_3, .slice A2_4 n2_4 c2_4, .slice A2_5 n2_5 c2_5, .slice A2_6 n2_6 c2_6, .int .i64 p2_7] 27)
   replace R2_3 := R2_3.alloc (.cells #[.int .i64 p2_0, .int .i64 p2_1, .int .i64 p2_2, .slice A2_3 n2_3 c2_3, .slice A2_4 n2_4 c2_4, .slice A2_5 n2_5 c2_5, .slice A2_6 n2_6 c2_6, .int .i64 p2_7] 27)
   replace R2_4 := R2_4.alloc (.cells #[.int .i64 p2_0, .int .i64 p2_1, .int .i64 p2_2, .slice A2_3 n2_3 c2_3, .slice A2_4 n2_4 c2_4, .slice A2_5 n2_5 c2_5, .slice A2_6 n2_6 c2_6, .int .i64 p2_7] 27)
   replace R2_5 := R2_5.alloc (.cells #[.int .i64 p2_0, .int .i64 p2_1, .int .i64 p2_2, .slice A2_3 n2_3 c2_3, .slice A2_4 n2_4 c2_4, .slice A2_5 n2_5 c2_5, .slice A2_6 n2_6 c2_6, .int .i64 p2_7] 27)
   replace R2_6 := R2_6.alloc (.cells #[.int .i64 p2_0, .int .i64 p2_1, .int .i64 p2_2, .slice A2_3 n2_3 c2_3, .slice A2_4 n2_4 c2_4, .slice A2_5 n2_5 c2_5, .slice A2_6 n2_6 c2_6, .int .i64 p2_7] 27)
   replace KB1 := KB1.alloc_ (.cells #[.int .i64 p2_0, .int .i64 p2_1, .int .i64 p2_2, .slice A2_3 n2_3 c2_3, .slice A2_4 n2_4 c2_4, .slice A2_5 n2_5 c2_5, .slice A2_6 n2_6 c2_6, .int .i64 p2_7] 27)
   have KB2 : BoxAt ((w.alloc (.cells #[.int .i64 p1_0, .int .i64 p1_1, .int .i64 p1_2, .slice A1_3 n1_3 c1_3, .slice A1_4 n1_4 c1_4, .slice A1_5 n1_5 c1_5, .slice A1_6 n1_6 c1_6, .int .i64 p1_7, .slice A1_8 n1_8 c1_8] 41)).alloc (.cells #[.int .i64 p2_0, .int .i64 p2_1, .int .i64 p2_2, .slice A2_3 n2_3 c2_3, .slice A2_4 n2_4 c2_4, .slice A2_5 n2_5 c2_5, .slice A2_6 n2_6 c2_6, .int .i64 p2_7] 27)) (w.heap.size + 1) 27 #[.int .i64 p2_0, .int .i64 p2_1, .int .i64 p2_2, .slice A2_3 n2_3 c2_3, .slice A2_4 n2_4 c2_4, .slice A2_5 n2_5 c2_5, .slice A2_6 n2_6 c2_6, .int .i64 p2_7] := by simpa using box_new (w.alloc (.cells #[.int .i64 p1_0, .int .i64 p1_1, .int .i64 p1_2, .slice A1_3 n1_3 c1_3, .slice A1_4 n1_4 c1_4, .slice A1_5 n1_5 c1_5, .slice A1_6 n1_6 c1_6, .int .i64 p1_7, .slice A1_8 n1_8 c1_8] 41)) 27 #[.int .i64 p2_0, .int .i64 p2_1, .int .i64 p2_2, .slice A2_3 n2_3 c2_3, .slice A2_4 n2_4 c2_4, .slice A2_5 n2_5 c2_5, .slice A2_6 n2_6 c2_6, .int .i64 p2_7]
   go_enter Tryz.func4, Tryz.ntmps4
   have xKB1_0 : ((w.alloc (.cells #[.int .i64 p1_0, .int .i64 p1_1, .int .i64 p1_2, .slice A1_3 n1_3 c1_3, .slice A1_4 n1_4 c1_4, .slice A1_5 n1_5 c1_5, .slice A1_6 n1_6 c1_6, .int .i64 p1_7, .slice A1_8 n1_8 c1_8] 41)).alloc (.cells #[.int .i64 p2_0, .int .i64 p2_1, .int .i64 p2_2, .slice A2_3 n2_3 c2_3, .slice A2_4 n2_4 c2_4, .slice A2_5 n2_5 c2_5, .slice A2_6 n2_6 c2_6, .int .i64 p2_7] 27)).cell? ⟨w.heap.size, 0, none⟩ = some (.int .i64 p1_0) := KB1.at_ rfl
   have xKB1_1 : ((w.alloc (.cells #[.int .i64 p1_0, .int .i64 p1_1, .int .i64 p1_2, .slice A1_3 n1_3 c1_3, .slice A1_4 n1_4 c1_4, .slice A1_5 n1_5 c1_5, .slice A1_6 n1_6 c1_6, .int .i64 p1_7, .slice A1_8 n1_8 c1_8] 41)).alloc (.cells #[.int .i64 p2_0, .int .i64 p2_1, .int .i64 p2_2, .slice A2_3 n2_3 c2_3, .slice A2_4 n2_4 c2_4, .slice A2_5 n2_5 c2_5, .slice A2_6 n2_6 c2_6, .int .i64 p2_7] 27)).cell? ⟨w.heap.size, 1, none⟩ = some (.int .i64 p1_1) := KB1.at_ rfl
   have xKB1_2 : ((w.alloc (.cells #[.int .i64 p1_0, .int .i64 p1_1, .int .i64 p1_2, .slice A1_3 n1_3 c1_3, .slice A1_4 n1_4 c1_4, .slice A1_5 n1_5 c1_5, .slice A1_6 n1_6 c1_6, .int .i64 p1_7, .slice A1_8 n1_8 c1_8] 41)).alloc (.cells #[.int .i64 p2_0, .int .i64 p2_1, .int .i64 p2_2, .slice A2_3 n2_3 c2_3, .slice A2_4 n2_4 c2_4, .slice A2_5 n2_5 c2_5, .slice A2_6 n2_6 c2_6, .int .i64 p2_7] 27)).cell? ⟨w.heap.size, 2, none⟩ = some (.int .i64 p1_2) := KB1.at_ rfl
   have xKB1_3 : ((w.alloc (.cells #[.int .i64 p1_0, .int .i64 p1_1, .int .i64 p1_2, .slice A1_3 n1_3 c1_3, .slice A1_4 n1_4 c1_4, .slice A1_5 n1_5 c1_5, .slice A1_6 n1_6 c1_6, .int .i64 p1_7, .slice A1_8 n1_8 c1_8] 41)).alloc (.cells #[.int .i64 p2_0, .int .i64 p2_1, .int .i64 p2_2, .slice A2_3 n2_3 c2_3, .slice A2_4 n2_4 c2_4, .slice A2_5 n2_5 c2_5, .slice A2_6 n2_6 c2_6, .int .i64 p2_7] 27)).cell? ⟨w.heap.size, 3, none⟩ = some (.slice A1_3 n1_3 c1_3) := KB1.at_ rfl
   have xKB1_4 : ((w.alloc (.cells #[.int .i64 p1_0, .int .i64 p1_1, .int .i64 p1_2, .slice A1_3 n1_3 c1_3, .slice A1_4 n1_4 c1_4, .slice A1_5 n1_5 c1_5, .slice A1_6 n1_6 c1_6, .int .i64 p1_7, .slice A1_8 n1_8 c1_8] 41)).alloc (.cells #[.int .i64 p2_0, .int .i64 p2_1, .int .i64 p2_2, .slice A2_3 n2_3 c2_3, .slice A2_4 n2_4 c2_4, .slice A2_5 n2_5 c2_5, .slice A2_6 n2_6 c2_6, .int .i64 p2_7] 27)).cell? ⟨w.heap.size, 4, none⟩ = some (.slice A1_4 n1_4 c1_4) := KB1.at_ rfl
   have xKB1_5 : ((w.alloc (.cells #[.int .i64 p1_0, .int .i64 p1_1, .int .i64 p1_2, .slice A1_3 n1_3 c1_3, .slice A1_4 n1_4 c1_4, .slice A1_5 n1_5 c1_5, .slice A1_6 n1_6 c1_6, .int .i64 p1_7, .slice A1_8 n1_8 c1_8] 41)).alloc (.cells #[.int .i64 p2_0, .int .i64 p2_1, .int .i64 p2_2, .slice A2_3 n2_3 c2_3, .slice A2_4 n2_4 c2_4, .slice A2_5 n2_5 c2_5, .slice A2_6 n2_6 c2_6, .int .i64 p2_7] 27)).cell? ⟨w.heap.size, 5, none⟩ = some (.slice A1_5 n1_5 c1_5) := KB1.at_ rfl
   have xKB1_6 : ((w.alloc (.cells #[.int .i64 p1_0, .int .i64 p1_1, .int .i64 p1_2, .slice A1_3 n1_3 c1_3, .slice A1_4 n1_4 c1_4, .slice A1_5 n1_5 c1_5, .slice A1_6 n1_6 c1_6, .int .i64 p1_7, .slice A1_8 n1_8 c1_8] 41)).alloc (.cells #[.int .i64 p2_0, .int .i64 p2_1, .int .i64 p2_2, .slice A2_3 n2_3 c2_3, .slice A2_4 n2_4 c2_4, .slice A2_5 n2_5 c2_5, .slice A2_6 n2_6 c2_6, .int .i64 p2_7] 27)).cell? ⟨w.heap.size, 6, none⟩ = some (.slice A1_6 n1_6 c1_6) := KB1.at_ rfl
   have xKB1_7 : ((w.alloc (.cells #[.int .i64 p1_0, .int .i64 p1_1, .int .i64 p1_2, .slice A1_3 n1_3 c1_3, .slice A1_4 n1_4 c1_4, .slice A1_5 n1_5 c1_5, .slice A1_6 n1_6 c1_6, .int .i64 p1_7, .slice A1_8 n1_8 c1_8] 41)).alloc (.cells #[.int .i64 p2_0, .int .i64 p2_1, .int .i64 p2_2, .slice A2_3 n2_3 c2_3, .slice A2_4 n2_4 c2_4, .slice A2_5 n2_5 c2_5, .slice A2_6 n2_6 c2_6, .int .i64 p2_7] 27)).cell? ⟨w.heap.size, 7, none⟩ = some (.int .i64 p1_7) := KB1.at_ rfl
   have xKB1_8 : ((w.alloc (.cells #[.int .i64 p1_0, .int .i64 p1_1, .int .i64 p1_2, .slice A1_3 n1_3 c1_3, .slice A1_4 n1_4 c1_4, .slice A1_5 n1_5 c1_5, .slice A1_6 n1_6 c1_6, .int .i64 p1_7, .slice A1_8 n1_8 c1_8] 41)).alloc (.cells #[.int .i64 p2_0, .int .i64 p2_1, .int .i64 p2_2, .slice A2_3 n2_3 c2_3, .slice A2_4 n2_4 c2_4, .slice A2_5 n2_5 c2_5, .slice A2_6 n2_6 c2_6, .int .i64 p2_7] 27)).cell? ⟨w.heap.size, 8, none⟩ = some (.slice A1_8 n1_8 c1_8) := KB1.at_ rfl
   go_wp2_with fail
   refine Calls.mono (sz_snapshot p1_0 p1_1 p1_2 A1_3 n1_3 c1_3 A1_4 n1_4 c1_4 A1_5 n1_5 c1_5 A1_6 n1_6 c1_6 p1_7 A1_8 n1_8 c1_8 (1048576) _ hm1_3 hm1_4 hm1_5 hm1_6 hm1_8 (by omega) (by omega)) ?_
   rintro e w1 ⟨rfl, B1⟩
   replace R1_3 := (R1_3).new B1
   replace R1_4 := (R1_4).new B1
   replace R1_5 := (R1_5).new B1
   replace R1_6 := (R1_6).new B1
   replace R1_8 := (R1_8).new B1
   replace R2_3 := (R2_3).new B1
   replace R2_4 := (R2_4).new B1
   replace R2_5 := (R2_5).new B1
   replace R2_6 := (R2_6).new B1
   replace KB1 := (KB1).new B1
   replace KB2 := (KB2).new B1
   replace G := below_trans G B1 (Nat.le_refl _)
   have S1 := Lib.hid (show ((w.alloc (.cells #[.int .i64 p1_0, .int .i64 p1_1, .int .i64 p1_2, .slice A1_3 n1_3 c1_3, .slice A1_4 n1_4 c1_4, .slice A1_5 n1_5 c1_5, .slice A1_6 n1_6 c1_6, .int .i64 p1_7, .slice A1_8 n1_8 c1_8] 41)).alloc (.cells #[.int .i64 p2_0, .int .i64 p2_1, .int .i64 p2_2, .slice A2_3 n2_3 c2_3, .slice A2_4 n2_4 c2_4, .slice A2_5 n2_5 c2_5, .slice A2_6 n2_6 c2_6, .int .i64 p2_7] 27)).heap.size + 0 ≤ w1.heap.size by have := B1.size; first | (simpa using this) | ((try simp at this); omega))
   clear B1
   clear xKB1_0 xKB1_1 xKB1_2 xKB1_3 xKB1_4 xKB1_5 xKB1_6 xKB1_7 xKB1_8
   have xKB2_0 : w1.cell? ⟨w.heap.size + 1, 0, none⟩ = some (.int .i64 p2_0) := KB2.at_ rfl
   have xKB2_1 : w1.cell? ⟨w.heap.size + 1, 1, none⟩ = some (.int .i64 p2_1) := KB2.at_ rfl
   have xKB2_2 : w1.cell? ⟨w.heap.size + 1, 2, none⟩ = some (.int .i64 p2_2) := KB2.at_ rfl
   have xKB2_3 : w1.cell? ⟨w.heap.size + 1, 3, none⟩ = some (.slice A2_3 n2_3 c2_3) := KB2.at_ rfl
   have xKB2_4 : w1.cell? ⟨w.heap.size + 1, 4, none⟩ = some (.slice A2_4 n2_4 c2_4) := KB2.at_ rfl
   have xKB2_5 : w1.cell? ⟨w.heap.size + 1, 5, none⟩ = some (.slice A2_5 n2_5 c2_5) := KB2.at_ rfl
   have xKB2_6 : w1.cell? ⟨w.heap.size + 1, 6, none⟩ = some (.slice A2_6 n2_6 c2_6) := KB2.at_ rfl
   have xKB2_7 : w1.cell? ⟨w.heap.size + 1, 7, none⟩ = some (.int .i64 p2_7) := KB2.at_ rfl
   go_wp2_with fail
   refine Calls.mono (sz_package p2_0 p2_1 p2_2 A2_3 n2_3 c2_3 A2_4 n2_4 c2_4 A2_5 n2_5 c2_5 A2_6 n2_6 c2_6 p2_7 (1048576 - (n1_3 : Int) - (n1_4 : Int) - (n1_5 : Int) - (n1_6 : Int) - (n1_8 : Int)) _ hm2_3 hm2_4 hm2_5 hm2_6 (by omega) (by omega)) ?_
   rintro e w2 ⟨rfl, B2⟩
   replace R1_3 := (R1_3).new B2
   replace R1_4 := (R1_4).new B2
   replace R1_5 := (R1_5).new B2
   replace R1_6 := (R1_6).new B2
   replace R1_8 := (R1_8).new B2
   replace R2_3 := (R2_3).new B2
   replace R2_4 := (R2_4).new B2
   replace R2_5 := (R2_5).new B2
   replace R2_6 := (R2_6).new B2
   replace KB1 := (KB1).new B2
   replace KB2 := (KB2).new B2
   replace G := below_trans G B2 (Nat.le_refl _)
   have S2 := Lib.hid (show w1.heap.size + 0 ≤ w2.heap.size by have := B2.size; first | (simpa using this) | ((try simp at this); omega))
   clear B2
   clear xKB2_0 xKB2_1 xKB2_2 xKB2_3 xKB2_4 xKB2_5 xKB2_6 xKB2_7
   go_wp2_with fail
   replace G := G.drew
   replace R1_3 := R1_3.drw
   replace R1_4 := R1_4.drw
   replace R1_5 := R1_5.drw
   replace R1_6 := R1_6.drw
   replace R1_8 := R1_8.drw
   replace R2_3 := R2_3.drw
   replace R2_4 := R2_4.drw
   replace R2_5 := R2_5.drw
   replace R2_6 := R2_6.drw
   replace KB1 := KB1.drw
   replace KB2 := KB2.drw
   go_region_held3 (fun w' => w'.cell? ⟨w.heap.size, 0, none⟩ = some (.int .i64 p1_0) ∧ w'.cell? ⟨w.heap.size, 1, none⟩ = some (.int .i64 p1_1) ∧ w'.cell? ⟨w.heap.size, 2, none⟩ = some (.int .i64 p1_2) ∧ w'.cell? ⟨w.heap.size, 3, none⟩ = some (.slice A1_3 n1_3 c1_3) ∧ w'.cell? ⟨w.heap.size, 4, none⟩ = some (.slice A1_4 n1_4 c1_4) ∧ w'.cell? ⟨w.heap.size, 5, none⟩ = some (.slice A1_5 n1_5 c1_5) ∧ w'.cell? ⟨w.heap.size, 6, none⟩ = some (.slice A1_6 n1_6 c1_6) ∧ w'.cell? ⟨w.heap.size, 7, none⟩ = some (.int .i64 p1_7) ∧ w'.cell? ⟨w.heap.size, 8, none⟩ = some (.slice A1_8 n1_8 c1_8) ∧ w'.cell? ⟨w.heap.size + 1, 0, none⟩ = some (.int .i64 p2_0) ∧ w'.cell? ⟨w.heap.size + 1, 1, none⟩ = some (.int .i64 p2_1) ∧ w'.cell? ⟨w.heap.size + 1, 2, none⟩ = some (.int .i64 p2_2) ∧ w'.cell? ⟨w.heap.size + 1, 3, none⟩ = some (.slice A2_3 n2_3 c2_3) ∧ w'.cell? ⟨w.heap.size + 1, 4, none⟩ = some (.slice A2_4 n2_4 c2_4) ∧ w'.cell? ⟨w.heap.size + 1, 5, none⟩ = some (.slice A2_5 n2_5 c2_5) ∧ w'.cell? ⟨w.heap.size + 1, 6, none⟩ = some (.slice A2_6 n2_6 c2_6) ∧ w'.cell? ⟨w.heap.size + 1, 7, none⟩ = some (.int .i64 p2_7))
    (exact ⟨KB1.at_ rfl, KB1.at_ rfl, KB1.at_ rfl, KB1.at_ rfl, KB1.at_ rfl, KB1.at_ rfl, KB1.at_ rfl, KB1.at_ rfl, KB1.at_ rfl, KB2.at_ rfl, KB2.at_ rfl, KB2.at_ rfl, KB2.at_ rfl, KB2.at_ rfl, KB2.at_ rfl, KB2.at_ rfl, KB2.at_ rfl⟩)
    (first
     | (go_at_call 14; (fail_if_success (have hx := B3)); refine Calls.mono (to_snapshot p1_0 p1_1 p1_2 l1_3 A1_3 n1_3 c1_3 _ _ l1_4 A1_4 n1_4 c1_4 _ _ l1_5 A1_5 n1_5 c1_5 _ _ l1_6 A1_6 n1_6 c1_6 _ _ p1_7 l1_8 A1_8 n1_8 c1_8 _ _ _ hqn1_3 R1_3 hqn1_4 R1_4 hqn1_5 R1_5 hqn1_6 R1_6 hqn1_8 R1_8) ?_; rintro e w3 ⟨T3_3, T3_4, T3_5, T3_6, T3_8, tc3_3, tlo3_3, thi3_3, tc3_4, tlo3_4, thi3_4, tc3_5, tlo3_5, thi3_5, tc3_6, tlo3_6, thi3_6, tc3_8, tlo3_8, thi3_8, rfl, FT3_3, FT3_4, FT3_5, FT3_6, FT3_8, MT3, B3⟩; (replace R1_3 := rd_nw B3 R1_3); (replace R1_4 := rd_nw B3 R1_4); (replace R1_5 := rd_nw B3 R1_5); (replace R1_6 := rd_nw B3 R1_6); (replace R1_8 := rd_nw B3 R1_8); (replace R2_3 := rd_nw B3 R2_3); (replace R2_4 := rd_nw B3 R2_4); (replace R2_5 := rd_nw B3 R2_5); (replace R2_6 := rd_nw B3 R2_6); (replace KB1 := box_nw B3 KB1); (replace KB2 := box_nw B3 KB2); (replace G := (by first | exact below_trans G B3 (Nat.le_refl _) | exact below_trans G.drew B3 (Nat.le_refl _) | exact below_trans (below_dN G _) B3 (Nat.le_refl _))); (have S3 := Lib.hid (show w2.heap.size ≤ w3.heap.size from B3.size)))
     | (go_at_call 9; (fail_if_success (have hx := B4)); refine Calls.mono (to_package p2_0 p2_1 p2_2 l2_3 A2_3 n2_3 c2_3 _ _ l2_4 A2_4 n2_4 c2_4 _ _ l2_5 A2_5 n2_5 c2_5 _ _ l2_6 A2_6 n2_6 c2_6 _ _ p2_7 _ hqn2_3 R2_3 hqn2_4 R2_4 hqn2_5 R2_5 hqn2_6 R2_6) ?_; rintro e w4 ⟨T4_3, T4_4, T4_5, T4_6, tc4_3, tlo4_3, thi4_3, tc4_4, tlo4_4, thi4_4, tc4_5, tlo4_5, thi4_5, tc4_6, tlo4_6, thi4_6, rfl, FT4_3, FT4_4, FT4_5, FT4_6, MT4, B4⟩; (replace R1_3 := rd_nw B4 R1_3); (replace R1_4 := rd_nw B4 R1_4); (replace R1_5 := rd_nw B4 R1_5); (replace R1_6 := rd_nw B4 R1_6); (replace R1_8 := rd_nw B4 R1_8); (replace R2_3 := rd_nw B4 R2_3); (replace R2_4 := rd_nw B4 R2_4); (replace R2_5 := rd_nw B4 R2_5); (replace R2_6 := rd_nw B4 R2_6); (replace KB1 := box_nw B4 KB1); (replace KB2 := box_nw B4 KB2); (replace FT3_3 := fr_nw B4 FT3_3); (replace FT3_4 := fr_nw B4 FT3_4); (replace FT3_5 := fr_nw B4 FT3_5); (replace FT3_6 := fr_nw B4 FT3_6); (replace FT3_8 := fr_nw B4 FT3_8); (replace G := (by first | exact below_trans G B4 (Nat.le_refl _) | exact below_trans G.drew B4 (Nat.le_refl _) | exact below_trans (below_dN G _) B4 (Nat.le_refl _))); (have S4 := Lib.hid (show w3.heap.size ≤ w4.heap.size from B4.size)))
     | (go_at_call 13; (fail_if_success (have hx := B5)); refine Calls.mono (spec_CanRollBack a0 p1_0 p1_1 p1_2 l1_3 T3_3 n1_3 tc3_3 _ _ l1_4 T3_4 n1_4 tc3_4 _ _ l1_5 T3_5 n1_5 tc3_5 _ _ l1_6 T3_6 n1_6 tc3_6 _ _ p1_7 l1_8 T3_8 n1_8 tc3_8 _ _ p2_0 p2_1 p2_2 l2_3 T4_3 n2_3 tc4_3 _ _ l2_4 T4_4 n2_4 tc4_4 _ _ l2_5 T4_5 n2_5 tc4_5 _ _ l2_6 T4_6 n2_6 tc4_6 _ _ p2_7 _ (pow10_below hT G) Wf0.out (by omega) FT3_3.rd FT3_3.cap H1_3 (by omega) FT3_4.rd FT3_4.cap H1_4 (by omega) FT3_5.rd FT3_5.cap H1_5 (by omega) FT3_6.rd FT3_6.cap H1_6 (by omega) FT3_8.rd FT3_8.cap H1_8 (by omega) FT4_3.rd FT4_3.cap H2_3 (by omega) FT4_4.rd FT4_4.cap H2_4 (by omega) FT4_5.rd FT4_5.cap H2_5 (by omega) FT4_6.rd FT4_6.cap H2_6) ?_; rintro e w5 ⟨rfl, B5⟩; (replace R1_3 := rd_nw B5 R1_3); (replace R1_4 := rd_nw B5 R1_4); (replace R1_5 := rd_nw B5 R1_5); (replace R1_6 := rd_nw B5 R1_6); (replace R1_8 := rd_nw B5 R1_8); (replace R2_3 := rd_nw B5 R2_3); (replace R2_4 := rd_nw B5 R2_4); (replace R2_5 := rd_nw B5 R2_5); (replace R2_6 := rd_nw B5 R2_6); (replace KB1 := box_nw B5 KB1); (replace KB2 := box_nw B5 KB2); (replace FT3_3 := fr_nw B5 FT3_3); (replace FT3_4 := fr_nw B5 FT3_4); (replace FT3_5 := fr_nw B5 FT3_5); (replace FT3_6 := fr_nw B5 FT3_6); (replace FT3_8 := fr_nw B5 FT3_8); (replace FT4_3 := fr_nw B5 FT4_3); (replace FT4_4 := fr_nw B5 FT4_4); (replace FT4_5 := fr_nw B5 FT4_5); (replace FT4_6 := fr_nw B5 FT4_6); (replace G := (by first | exact below_trans G B5 (Nat.le_refl _) | exact below_trans G.drew B5 (Nat.le_refl _) | exact below_trans (below_dN G _) B5 (Nat.le_refl _))); (have S5 := Lib.hid (show w4.heap.size ≤ w5.heap.size from B5.size))))
   clear B3
   clear B4
   clear B5
   clear FT3_3
   clear FT3_4
   clear FT3_5
   clear FT3_6
   clear FT3_8
   clear FT4_3
   clear FT4_4
   clear FT4_5
   clear FT4_6
   have xKB1_0 : w5.cell? ⟨w.heap.size, 0, none⟩ = some (.int .i64 p1_0) := KB1.at_ rfl
   have xKB1_1 : w5.cell? ⟨w.heap.size, 1, none⟩ = some (.int .i64 p1_1) := KB1.at_ rfl
   have xKB1_2 : w5.cell? ⟨w.heap.size, 2, none⟩ = some (.int .i64 p1_2) := KB1.at_ rfl
   have xKB1_3 : w5.cell? ⟨w.heap.size, 3, none⟩ = some (.slice A1_3 n1_3 c1_3) := KB1.at_ rfl
   have xKB1_4 : w5.cell? ⟨w.heap.size, 4, none⟩ = some (.slice A1_4 n1_4 c1_4) := KB1.at_ rfl
   have xKB1_5 : w5.cell? ⟨w.heap.size, 5, none⟩ = some (.slice A1_5 n1_5 c1_5) := KB1.at_ rfl
   have xKB1_6 : w5.cell? ⟨w.heap.size, 6, none⟩ = some (.slice A1_6 n1_6 c1_6) := KB1.at_ rfl
   have xKB1_7 : w5.cell? ⟨w.heap.size, 7, none⟩ = some (.int .i64 p1_7) := KB1.at_ rfl
   have xKB1_8 : w5.cell? ⟨w.heap.size, 8, none⟩ = some (.slice A1_8 n1_8 c1_8) := KB1.at_ rfl
   go_wp2_with fail
   refine Calls.mono (to_snapshot p1_0 p1_1 p1_2 l1_3 A1_3 n1_3 c1_3 _ _ l1_4 A1_4 n1_4 c1_4 _ _ l1_5 A1_5 n1_5 c1_5 _ _ l1_6 A1_6 n1_6 c1_6 _ _ p1_7 l1_8 A1_8 n1_8 c1_8 _ _ _ hqn1_3 R1_3 hqn1_4 R1_4 hqn1_5 R1_5 hqn1_6 R1_6 hqn1_8 R1_8) ?_
   rintro e w6 ⟨T6_3, T6_4, T6_5, T6_6, T6_8, tc6_3, tlo6_3, thi6_3, tc6_4, tlo6_4, thi6_4, tc6_5, tlo6_5, thi6_5, tc6_6, tlo6_6, thi6_6, tc6_8, tlo6_8, thi6_8, rfl, FT6_3, FT6_4, FT6_5, FT6_6, FT6_8, MT6, B6⟩
   replace R1_3 := (R1_3).new B6
   replace R1_4 := (R1_4).new B6
   replace R1_5 := (R1_5).new B6
   replace R1_6 := (R1_6).new B6
   replace R1_8 := (R1_8).new B6
   replace R2_3 := (R2_3).new B6
   replace R2_4 := (R2_4).new B6
   replace R2_5 := (R2_5).new B6
   replace R2_6 := (R2_6).new B6
   replace KB1 := (KB1).new B6
   replace KB2 := (KB2).new B6
   replace G := below_trans G B6 (Nat.le_refl _)
   have S6 := Lib.hid (show w5.heap.size + 0 ≤ w6.heap.size by have := B6.size; first | (simpa using this) | ((try simp at this); omega))
   clear B6
   clear xKB1_0 xKB1_1 xKB1_2 xKB1_3 xKB1_4 xKB1_5 xKB1_6 xKB1_7 xKB1_8
   have SA8 := Lib.hid (show (w6.alloc (.cells #[.int .i64 p1_0, .int .i64 p1_1, .int .i64 p1_2, .slice T6_3 n1_3 tc6_3, .slice T6_4 n1_4 tc6_4, .slice T6_5 n1_5 tc6_5, .slice T6_6 n1_6 tc6_6, .int .i64 p1_7, .slice T6_8 n1_8 tc6_8] 46)).heap.size = w6.heap.size + 1 by simp)
   replace R1_3 := R1_3.alloc (.cells #[.int .i64 p1_0, .int .i64 p1_1, .int .i64 p1_2, .slice T6_3 n1_3 tc6_3, .slice T6_4 n1_4 tc6_4, .slice T6_5 n1_5 tc6_5, .slice T6_6 n1_6 tc6_6, .int .i64 p1_7, .slice T6_8 n1_8 tc6_8] 46)
   replace R1_4 := R1_4.alloc (.cells #[.int .i64 p1_0, .int .i64 p1_1, .int .i64 p1_2, .slice T6_3 n1_3 tc6_3, .slice T6_4 n1_4 tc6_4, .slice T6_5 n1_5 tc6_5, .slice T6_6 n1_6 tc6_6, .int .i64 p1_7, .slice T6_8 n1_8 tc6_8] 46)
   replace R1_5 := R1_5.alloc (.cells #[.int .i64 p1_0, .int .i64 p1_1, .int .i64 p1_2, .slice T6_3 n1_3 tc6_3, .slice T6_4 n1_4 tc6_4, .slice T6_5 n1_5 tc6_5, .slice T6_6 n1_6 tc6_6, .int .i64 p1_7, .slice T6_8 n1_8 tc6_8] 46)
   replace R1_6 := R1_6.alloc (.cells #[.int .i64 p1_0, .int .i64 p1_1, .int .i64 p1_2, .slice T6_3 n1_3 tc6_3, .slice T6_4 n1_4 tc6_4, .slice T6_5 n1_5 tc6_5, .slice T6_6 n1_6 tc6_6, .int .i64 p1_7, .slice T6_8 n1_8 tc6_8] 46)
   replace R1_8 := R1_8.alloc (.cells #[.int .i64 p1_0, .int .i64 p1_1, .int .i64 p1_2, .slice T6_3 n1_3 tc6_3, .slice T6_4 n1_4 tc6_4, .slice T6_5 n1_5 tc6_5, .slice T6_6 n1_6 tc6_6, .int .i64 p1_7, .slice T6_8 n1_8 tc6_8] 46)
   replace R2_3 := R2_3.alloc (.cells #[.int .i64 p1_0, .int .i64 p1_1, .int .i64 p1_2, .slice T6_3 n1_3 tc6_3, .slice T6_4 n1_4 tc6_4, .slice T6_5 n1_5 tc6_5, .slice T6_6 n1_6 tc6_6, .int .i64 p1_7, .slice T6_8 n1_8 tc6_8] 46)
   replace R2_4 := R2_4.alloc (.cells #[.int .i64 p1_0, .int .i64 p1_1, .int .i64 p1_2, .slice T6_3 n1_3 tc6_3, .slice T6_4 n1_4 tc6_4, .slice T6_5 n1_5 tc6_5, .slice T6_6 n1_6 tc6_6, .int .i64 p1_7, .slice T6_8 n1_8 tc6_8] 46)
   replace R2_5 := R2_5.alloc (.cells #[.int .i64 p1_0, .int .i64 p1_1, .int .i64 p1_2, .slice T6_3 n1_3 tc6_3, .slice T6_4 n1_4 tc6_4, .slice T6_5 n1_5 tc6_5, .slice T6_6 n1_6 tc6_6, .int .i64 p1_7, .slice T6_8 n1_8 tc6_8] 46)
   replace R2_6 := R2_6.alloc (.cells #[.int .i64 p1_0, .int .i64 p1_1, .int .i64 p1_2, .slice T6_3 n1_3 tc6_3, .slice T6_4 n1_4 tc6_4, .slice T6_5 n1_5 tc6_5, .slice T6_6 n1_6 tc6_6, .int .i64 p1_7, .slice T6_8 n1_8 tc6_8] 46)
   replace KB1 := KB1.alloc_ (.cells #[.int .i64 p1_0, .int .i64 p1_1, .int .i64 p1_2, .slice T6_3 n1_3 tc6_3, .slice T6_4 n1_4 tc6_4, .slice T6_5 n1_5 tc6_5, .slice T6_6 n1_6 tc6_6, .int .i64 p1_7, .slice T6_8 n1_8 tc6_8] 46)
   replace KB2 := KB2.alloc_ (.cells #[.int .i64 p1_0, .int .i64 p1_1, .int .i64 p1_2, .slice T6_3 n1_3 tc6_3, .slice T6_4 n1_4 tc6_4, .slice T6_5 n1_5 tc6_5, .slice T6_6 n1_6 tc6_6, .int .i64 p1_7, .slice T6_8 n1_8 tc6_8] 46)
   replace FT6_3 := FT6_3.alloc (.cells #[.int .i64 p1_0, .int .i64 p1_1, .int .i64 p1_2, .slice T6_3 n1_3 tc6_3, .slice T6_4 n1_4 tc6_4, .slice T6_5 n1_5 tc6_5, .slice T6_6 n1_6 tc6_6, .int .i64 p1_7, .slice T6_8 n1_8 tc6_8] 46)
   replace FT6_4 := FT6_4.alloc (.cells #[.int .i64 p1_0, .int .i64 p1_1, .int .i64 p1_2, .slice T6_3 n1_3 tc6_3, .slice T6_4 n1_4 tc6_4, .slice T6_5 n1_5 tc6_5, .slice T6_6 n1_6 tc6_6, .int .i64 p1_7, .slice T6_8 n1_8 tc6_8] 46)
   replace FT6_5 := FT6_5.alloc (.cells #[.int .i64 p1_0, .int .i64 p1_1, .int .i64 p1_2, .slice T6_3 n1_3 tc6_3, .slice T6_4 n1_4 tc6_4, .slice T6_5 n1_5 tc6_5, .slice T6_6 n1_6 tc6_6, .int .i64 p1_7, .slice T6_8 n1_8 tc6_8] 46)
   replace FT6_6 := FT6_6.alloc (.cells #[.int .i64 p1_0, .int .i64 p1_1, .int .i64 p1_2, .slice T6_3 n1_3 tc6_3, .slice T6_4 n1_4 tc6_4, .slice T6_5 n1_5 tc6_5, .slice T6_6 n1_6 tc6_6, .int .i64 p1_7, .slice T6_8 n1_8 tc6_8] 46)
   replace FT6_8 := FT6_8.alloc (.cells #[.int .i64 p1_0, .int .i64 p1_1, .int .i64 p1_2, .slice T6_3 n1_3 tc6_3, .slice T6_4 n1_4 tc6_4, .slice T6_5 n1_5 tc6_5, .slice T6_6 n1_6 tc6_6, .int .i64 p1_7, .slice T6_8 n1_8 tc6_8] 46)
   have KX7 : BoxAt (w6.alloc (.cells #[.int .i64 p1_0, .int .i64 p1_1, .int .i64 p1_2, .slice T6_3 n1_3 tc6_3, .slice T6_4 n1_4 tc6_4, .slice T6_5 n1_5 tc6_5, .slice T6_6 n1_6 tc6_6, .int .i64 p1_7, .slice T6_8 n1_8 tc6_8] 46)) (w6.heap.size) 46 #[.int .i64 p1_0, .int .i64 p1_1, .int .i64 p1_2, .slice T6_3 n1_3 tc6_3, .slice T6_4 n1_4 tc6_4, .slice T6_5 n1_5 tc6_5, .slice T6_6 n1_6 tc6_6, .int .i64 p1_7, .slice T6_8 n1_8 tc6_8] := box_new _ _ _
   replace G := G.alloc (by have := S0.out; have := S1.out; have := S2.out; have := S3.out; have := S4.out; have := S5.out; have := S6.out; have := SA8.out; have := SepSnapshot_bd MT3.out; have := SepPackage_bd MT4.out; have := SepSnapshot_bd MT6.out; first | omega | (simp; omega)) (.cells #[.int .i64 p1_0, .int .i64 p1_1, .int .i64 p1_2, .slice T6_3 n1_3 tc6_3, .slice T6_4 n1_4 tc6_4, .slice T6_5 n1_5 tc6_5, .slice T6_6 n1_6 tc6_6, .int .i64 p1_7, .slice T6_8 n1_8 tc6_8] 46)
   have xKB2_0 : (w6.alloc (.cells #[.int .i64 p1_0, .int .i64 p1_1, .int .i64 p1_2, .slice T6_3 n1_3 tc6_3, .slice T6_4 n1_4 tc6_4, .slice T6_5 n1_5 tc6_5, .slice T6_6 n1_6 tc6_6, .int .i64 p1_7, .slice T6_8 n1_8 tc6_8] 46)).cell? ⟨w.heap.size + 1, 0, none⟩ = some (.int .i64 p2_0) := KB2.at_ rfl
   have xKB2_1 : (w6.alloc (.cells #[.int .i64 p1_0, .int .i64 p1_1, .int .i64 p1_2, .slice T6_3 n1_3 tc6_3, .slice T6_4 n1_4 tc6_4, .slice T6_5 n1_5 tc6_5, .slice T6_6 n1_6 tc6_6, .int .i64 p1_7, .slice T6_8 n1_8 tc6_8] 46)).cell? ⟨w.heap.size + 1, 1, none⟩ = some (.int .i64 p2_1) := KB2.at_ rfl
   have xKB2_2 : (w6.alloc (.cells #[.int .i64 p1_0, .int .i64 p1_1, .int .i64 p1_2, .slice T6_3 n1_3 tc6_3, .slice T6_4 n1_4 tc6_4, .slice T6_5 n1_5 tc6_5, .slice T6_6 n1_6 tc6_6, .int .i64 p1_7, .slice T6_8 n1_8 tc6_8] 46)).cell? ⟨w.heap.size + 1, 2, none⟩ = some (.int .i64 p2_2) := KB2.at_ rfl
   have xKB2_3 : (w6.alloc (.cells #[.int .i64 p1_0, .int .i64 p1_1, .int .i64 p1_2, .slice T6_3 n1_3 tc6_3, .slice T6_4 n1_4 tc6_4, .slice T6_5 n1_5 tc6_5, .slice T6_6 n1_6 tc6_6, .int .i64 p1_7, .slice T6_8 n1_8 tc6_8] 46)).cell? ⟨w.heap.size + 1, 3, none⟩ = some (.slice A2_3 n2_3 c2_3) := KB2.at_ rfl
   have xKB2_4 : (w6.alloc (.cells #[.int .i64 p1_0, .int .i64 p1_1, .int .i64 p1_2, .slice T6_3 n1_3 tc6_3, .slice T6_4 n1_4 tc6_4, .slice T6_5 n1_5 tc6_5, .slice T6_6 n1_6 tc6_6, .int .i64 p1_7, .slice T6_8 n1_8 tc6_8] 46)).cell? ⟨w.heap.size + 1, 4, none⟩ = some (.slice A2_4 n2_4 c2_4) := KB2.at_ rfl
   have xKB2_5 : (w6.alloc (.cells #[.int .i64 p1_0, .int .i64 p1_1, .int .i64 p1_2, .slice T6_3 n1_3 tc6_3, .slice T6_4 n1_4 tc6_4, .slice T6_5 n1_5 tc6_5, .slice T6_6 n1_6 tc6_6, .int .i64 p1_7, .slice T6_8 n1_8 tc6_8] 46)).cell? ⟨w.heap.size + 1, 5, none⟩ = some (.slice A2_5 n2_5 c2_5) := KB2.at_ rfl
   have xKB2_6 : (w6.alloc (.cells #[.int .i64 p1_0, .int .i64 p1_1, .int .i64 p1_2, .slice T6_3 n1_3 tc6_3, .slice T6_4 n1_4 tc6_4, .slice T6_5 n1_5 tc6_5, .slice T6_6 n1_6 tc6_6, .int .i64 p1_7, .slice T6_8 n1_8 tc6_8] 46)).cell? ⟨w.heap.size + 1, 6, none⟩ = some (.slice A2_6 n2_6 c2_6) := KB2.at_ rfl
   have xKB2_7 : (w6.alloc (.cells #[.int .i64 p1_0, .int .i64 p1_1, .int .i64 p1_2, .slice T6_3 n1_3 tc6_3, .slice T6_4 n1_4 tc6_4, .slice T6_5 n1_5 tc6_5, .slice T6_6 n1_6 tc6_6, .int .i64 p1_7, .slice T6_8 n1_8 tc6_8] 46)).cell? ⟨w.heap.size + 1, 7, none⟩ = some (.int .i64 p2_7) := KB2.at_ rfl
   go_wp2_with fail
   refine Calls.mono (to_package p2_0 p2_1 p2_2 l2_3 A2_3 n2_3 c2_3 _ _ l2_4 A2_4 n2_4 c2_4 _ _ l2_5 A2_5 n2_5 c2_5 _ _ l2_6 A2_6 n2_6 c2_6 _ _ p2_7 _ hqn2_3 R2_3 hqn2_4 R2_4 hqn2_5 R2_5 hqn2_6 R2_6) ?_
   rintro e w7 ⟨T9_3, T9_4, T9_5, T9_6, tc9_3, tlo9_3, thi9_3, tc9_4, tlo9_4, thi9_4, tc9_5, tlo9_5, thi9_5, tc9_6, tlo9_6, thi9_6, rfl, FT9_3, FT9_4, FT9_5, FT9_6, MT9, B9⟩
   replace R1_3 := (R1_3).new B9
   replace R1_4 := (R1_4).new B9
   replace R1_5 := (R1_5).new B9
   replace R1_6 := (R1_6).new B9
   replace R1_8 := (R1_8).new B9
   replace R2_3 := (R2_3).new B9
   replace R2_4 := (R2_4).new B9
   replace R2_5 := (R2_5).new B9
   replace R2_6 := (R2_6).new B9
   replace KB1 := (KB1).new B9
   replace KB2 := (KB2).new B9
   replace FT6_3 := (FT6_3).new B9
   replace FT6_4 := (FT6_4).new B9
   replace FT6_5 := (FT6_5).new B9
   replace FT6_6 := (FT6_6).new B9
   replace FT6_8 := (FT6_8).new B9
   replace KX7 := (KX7).new B9
   replace G := below_trans G B9 (Nat.le_refl _)
   have S7 := Lib.hid (show (w6.alloc (.cells #[.int .i64 p1_0, .int .i64 p1_1, .int .i64 p1_2, .slice T6_3 n1_3 tc6_3, .slice T6_4 n1_4 tc6_4, .slice T6_5 n1_5 tc6_5, .slice T6_6 n1_6 tc6_6, .int .i64 p1_7, .slice T6_8 n1_8 tc6_8] 46)).heap.size + 0 ≤ w7.heap.size by have := B9.size; first | (simpa using this) | ((try simp at this); omega))
   clear B9
   clear xKB2_0 xKB2_1 xKB2_2 xKB2_3 xKB2_4 xKB2_5 xKB2_6 xKB2_7
   have SA11 := Lib.hid (show (w7.alloc (.cells #[.int .i64 p2_0, .int .i64 p2_1, .int .i64 p2_2, .slice T9_3 n2_3 tc9_3, .slice T9_4 n2_4 tc9_4, .slice T9_5 n2_5 tc9_5, .slice T9_6 n2_6 tc9_6, .int .i64 p2_7] 35)).heap.size = w7.heap.size + 1 by simp)
   replace R1_3 := R1_3.alloc (.cells #[.int .i64 p2_0, .int .i64 p2_1, .int .i64 p2_2, .slice T9_3 n2_3 tc9_3, .slice T9_4 n2_4 tc9_4, .slice T9_5 n2_5 tc9_5, .slice T9_6 n2_6 tc9_6, .int .i64 p2_7] 35)
   replace R1_4 := R1_4.alloc (.cells #[.int .i64 p2_0, .int .i64 p2_1, .int .i64 p2_2, .slice T9_3 n2_3 tc9_3, .slice T9_4 n2_4 tc9_4, .slice T9_5 n2_5 tc9_5, .slice T9_6 n2_6 tc9_6, .int .i64 p2_7] 35)
   replace R1_5 := R1_5.alloc (.cells #[.int .i64 p2_0, .int .i64 p2_1, .int .i64 p2_2, .slice T9_3 n2_3 tc9_3, .slice T9_4 n2_4 tc9_4, .slice T9_5 n2_5 tc9_5, .slice T9_6 n2_6 tc9_6, .int .i64 p2_7] 35)
   replace R1_6 := R1_6.alloc (.cells #[.int .i64 p2_0, .int .i64 p2_1, .int .i64 p2_2, .slice T9_3 n2_3 tc9_3, .slice T9_4 n2_4 tc9_4, .slice T9_5 n2_5 tc9_5, .slice T9_6 n2_6 tc9_6, .int .i64 p2_7] 35)
   replace R1_8 := R1_8.alloc (.cells #[.int .i64 p2_0, .int .i64 p2_1, .int .i64 p2_2, .slice T9_3 n2_3 tc9_3, .slice T9_4 n2_4 tc9_4, .slice T9_5 n2_5 tc9_5, .slice T9_6 n2_6 tc9_6, .int .i64 p2_7] 35)
   replace R2_3 := R2_3.alloc (.cells #[.int .i64 p2_0, .int .i64 p2_1, .int .i64 p2_2, .slice T9_3 n2_3 tc9_3, .slice T9_4 n2_4 tc9_4, .slice T9_5 n2_5 tc9_5, .slice T9_6 n2_6 tc9_6, .int .i64 p2_7] 35)
   replace R2_4 := R2_4.alloc (.cells #[.int .i64 p2_0, .int .i64 p2_1, .int .i64 p2_2, .slice T9_3 n2_3 tc9_3, .slice T9_4 n2_4 tc9_4, .slice T9_5 n2_5 tc9_5, .slice T9_6 n2_6 tc9_6, .int .i64 p2_7] 35)
   replace R2_5 := R2_5.alloc (.cells #[.int .i64 p2_0, .int .i64 p2_1, .int .i64 p2_2, .slice T9_3 n2_3 tc9_3, .slice T9_4 n2_4 tc9_4, .slice T9_5 n2_5 tc9_5, .slice T9_6 n2_6 tc9_6, .int .i64 p2_7] 35)
   replace R2_6 := R2_6.alloc (.cells #[.int .i64 p2_0, .int .i64 p2_1, .int .i64 p2_2, .slice T9_3 n2_3 tc9_3, .slice T9_4 n2_4 tc9_4, .slice T9_5 n2_5 tc9_5, .slice T9_6 n2_6 tc9_6, .int .i64 p2_7] 35)
   replace KB1 := KB1.alloc_ (.cells #[.int .i64 p2_0, .int .i64 p2_1, .int .i64 p2_2, .slice T9_3 n2_3 tc9_3, .slice T9_4 n2_4 tc9_4, .slice T9_5 n2_5 tc9_5, .slice T9_6 n2_6 tc9_6, .int .i64 p2_7] 35)
   replace KB2 := KB2.alloc_ (.cells #[.int .i64 p2_0, .int .i64 p2_1, .int .i64 p2_2, .slice T9_3 n2_3 tc9_3, .slice T9_4 n2_4 tc9_4, .slice T9_5 n2_5 tc9_5, .slice T9_6 n2_6 tc9_6, .int .i64 p2_7] 35)
   replace FT6_3 := FT6_3.alloc (.cells #[.int .i64 p2_0, .int .i64 p2_1, .int .i64 p2_2, .slice T9_3 n2_3 tc9_3, .slice T9_4 n2_4 tc9_4, .slice T9_5 n2_5 tc9_5, .slice T9_6 n2_6 tc9_6, .int .i64 p2_7] 35)
   replace FT6_4 := FT6_4.alloc (.cells #[.int .i64 p2_0, .int .i64 p2_1, .int .i64 p2_2, .slice T9_3 n2_3 tc9_3, .slice T9_4 n2_4 tc9_4, .slice T9_5 n2_5 tc9_5, .slice T9_6 n2_6 tc9_6, .int .i64 p2_7] 35)
   replace FT6_5 := FT6_5.alloc (.cells #[.int .i64 p2_0, .int .i64 p2_1, .int .i64 p2_2, .slice T9_3 n2_3 tc9_3, .slice T9_4 n2_4 tc9_4, .slice T9_5 n2_5 tc9_5, .slice T9_6 n2_6 tc9_6, .int .i64 p2_7] 35)
   replace FT6_6 := FT6_6.alloc (.cells #[.int .i64 p2_0, .int .i64 p2_1, .int .i64 p2_2, .slice T9_3 n2_3 tc9_3, .slice T9_4 n2_4 tc9_4, .slice T9_5 n2_5 tc9_5, .slice T9_6 n2_6 tc9_6, .int .i64 p2_7] 35)
   replace FT6_8 := FT6_8.alloc (.cells #[.int .i64 p2_0, .int .i64 p2_1, .int .i64 p2_2, .slice T9_3 n2_3 tc9_3, .slice T9_4 n2_4 tc9_4, .slice T9_5 n2_5 tc9_5, .slice T9_6 n2_6 tc9_6, .int .i64 p2_7] 35)
   replace KX7 := KX7.alloc_ (.cells #[.int .i64 p2_0, .int .i64 p2_1, .int .i64 p2_2, .slice T9_3 n2_3 tc9_3, .slice T9_4 n2_4 tc9_4, .slice T9_5 n2_5 tc9_5, .slice T9_6 n2_6 tc9_6, .int .i64 p2_7] 35)
   replace FT9_3 := FT9_3.alloc (.cells #[.int .i64 p2_0, .int .i64 p2_1, .int .i64 p2_2, .slice T9_3 n2_3 tc9_3, .slice T9_4 n2_4 tc9_4, .slice T9_5 n2_5 tc9_5, .slice T9_6 n2_6 tc9_6, .int .i64 p2_7] 35)
   replace FT9_4 := FT9_4.alloc (.cells #[.int .i64 p2_0, .int .i64 p2_1, .int .i64 p2_2, .slice T9_3 n2_3 tc9_3, .slice T9_4 n2_4 tc9_4, .slice T9_5 n2_5 tc9_5, .slice T9_6 n2_6 tc9_6, .int .i64 p2_7] 35)
   replace FT9_5 := FT9_5.alloc (.cells #[.int .i64 p2_0, .int .i64 p2_1, .int .i64 p2_2, .slice T9_3 n2_3 tc9_3, .slice T9_4 n2_4 tc9_4, .slice T9_5 n2_5 tc9_5, .slice T9_6 n2_6 tc9_6, .int .i64 p2_7] 35)
   replace FT9_6 := FT9_6.alloc (.cells #[.int .i64 p2_0, .int .i64 p2_1, .int .i64 p2_2, .slice T9_3 n2_3 tc9_3, .slice T9_4 n2_4 tc9_4, .slice T9_5 n2_5 tc9_5, .slice T9_6 n2_6 tc9_6, .int .i64 p2_7] 35)
   have KX10 : BoxAt (w7.alloc (.cells #[.int .i64 p2_0, .int .i64 p2_1, .int .i64 p2_2, .slice T9_3 n2_3 tc9_3, .slice T9_4 n2_4 tc9_4, .slice T9_5 n2_5 tc9_5, .slice T9_6 n2_6 tc9_6, .int .i64 p2_7] 35)) (w7.heap.size) 35 #[.int .i64 p2_0, .int .i64 p2_1, .int .i64 p2_2, .slice T9_3 n2_3 tc9_3, .slice T9_4 n2_4 tc9_4, .slice T9_5 n2_5 tc9_5, .slice T9_6 n2_6 tc9_6, .int .i64 p2_7] := box_new _ _ _
   replace G := G.alloc (by have := S0.out; have := S1.out; have := S2.out; have := S3.out; have := S4.out; have := S5.out; have := S6.out; have := SA8.out; have := S7.out; have := SA11.out; have := SepSnapshot_bd MT3.out; have := SepPackage_bd MT4.out; have := SepSnapshot_bd MT6.out; have := SepPackage_bd MT9.out; first | omega | (simp; omega)) (.cells #[.int .i64 p2_0, .int .i64 p2_1, .int .i64 p2_2, .slice T9_3 n2_3 tc9_3, .slice T9_4 n2_4 tc9_4, .slice T9_5 n2_5 tc9_5, .slice T9_6 n2_6 tc9_6, .int .i64 p2_7] 35)
   have xKX7_0 : (w7.alloc (.cells #[.int .i64 p2_0, .int .i64 p2_1, .int .i64 p2_2, .slice T9_3 n2_3 tc9_3, .slice T9_4 n2_4 tc9_4, .slice T9_5 n2_5 tc9_5, .slice T9_6 n2_6 tc9_6, .int .i64 p2_7] 35)).cell? ⟨w6.heap.size, 0, none⟩ = some (.int .i64 p1_0) := KX7.at_ rfl
   have xKX7_1 : (w7.alloc (.cells #[.int .i64 p2_0, .int .i64 p2_1, .int .i64 p2_2, .slice T9_3 n2_3 tc9_3, .slice T9_4 n2_4 tc9_4, .slice T9_5 n2_5 tc9_5, .slice T9_6 n2_6 tc9_6, .int .i64 p2_7] 35)).cell? ⟨w6.heap.size, 1, none⟩ = some (.int .i64 p1_1) := KX7.at_ rfl
   have xKX7_2 : (w7.alloc (.cells #[.int .i64 p2_0, .int .i64 p2_1, .int .i64 p2_2, .slice T9_3 n2_3 tc9_3, .slice T9_4 n2_4 tc9_4, .slice T9_5 n2_5 tc9_5, .slice T9_6 n2_6 tc9_6, .int .i64 p2_7] 35)).cell? ⟨w6.heap.size, 2, none⟩ = some (.int .i64 p1_2) := KX7.at_ rfl
   have xKX7_3 : (w7.alloc (.cells #[.int .i64 p2_0, .int .i64 p2_1, .int .i64 p2_2, .slice T9_3 n2_3 tc9_3, .slice T9_4 n2_4 tc9_4, .slice T9_5 n2_5 tc9_5, .slice T9_6 n2_6 tc9_6, .int .i64 p2_7] 35)).cell? ⟨w6.heap.size, 3, none⟩ = some (.slice T6_3 n1_3 tc6_3) := KX7.at_ rfl
   have xKX7_4 : (w7.alloc (.cells #[.int .i64 p2_0, .int .i64 p2_1, .int .i64 p2_2, .slice T9_3 n2_3 tc9_3, .slice T9_4 n2_4 tc9_4, .slice T9_5 n2_5 tc9_5, .slice T9_6 n2_6 tc9_6, .int .i64 p2_7] 35)).cell? ⟨w6.heap.size, 4, none⟩ = some (.slice T6_4 n1_4 tc6_4) := KX7.at_ rfl
   have xKX7_5 : (w7.alloc (.cells #[.int .i64 p2_0, .int .i64 p2_1, .int .i64 p2_2, .slice T9_3 n2_3 tc9_3, .slice T9_4 n2_4 tc9_4, .slice T9_5 n2_5 tc9_5, .slice T9_6 n2_6 tc9_6, .int .i64 p2_7] 35)).cell? ⟨w6.heap.size, 5, none⟩ = some (.slice T6_5 n1_5 tc6_5) := KX7.at_ rfl
   have xKX7_6 : (w7.alloc (.cells #[.int .i64 p2_0, .int .i64 p2_1, .int .i64 p2_2, .slice T9_3 n2_3 tc9_3, .slice T9_4 n2_4 tc9_4, .slice T9_5 n2_5 tc9_5, .slice T9_6 n2_6 tc9_6, .int .i64 p2_7] 35)).cell? ⟨w6.heap.size, 6, none⟩ = some (.slice T6_6 n1_6 tc6_6) := KX7.at_ rfl
   have xKX7_7 : (w7.alloc (.cells #[.int .i64 p2_0, .int .i64 p2_1, .int .i64 p2_2, .slice T9_3 n2_3 tc9_3, .slice T9_4 n2_4 tc9_4, .slice T9_5 n2_5 tc9_5, .slice T9_6 n2_6 tc9_6, .int .i64 p2_7] 35)).cell? ⟨w6.heap.size, 7, none⟩ = some (.int .i64 p1_7) := KX7.at_ rfl
   have xKX7_8 : (w7.alloc (.cells #[.int .i64 p2_0, .int .i64 p2_1, .int .i64 p2_2, .slice T9_3 n2_3 tc9_3, .slice T9_4 n2_4 tc9_4, .slice T9_5 n2_5 tc9_5, .slice T9_6 n2_6 tc9_6, .int .i64 p2_7] 35)).cell? ⟨w6.heap.size, 8, none⟩ = some (.slice T6_8 n1_8 tc6_8) := KX7.at_ rfl
   have xKX10_0 : (w7.alloc (.cells #[.int .i64 p2_0, .int .i64 p2_1, .int .i64 p2_2, .slice T9_3 n2_3 tc9_3, .slice T9_4 n2_4 tc9_4, .slice T9_5 n2_5 tc9_5, .slice T9_6 n2_6 tc9_6, .int .i64 p2_7] 35)).cell? ⟨w7.heap.size, 0, none⟩ = some (.int .i64 p2_0) := KX10.at_ rfl
   have xKX10_1 : (w7.alloc (.cells #[.int .i64 p2_0, .int .i64 p2_1, .int .i64 p2_2, .slice T9_3 n2_3 tc9_3, .slice T9_4 n2_4 tc9_4, .slice T9_5 n2_5 tc9_5, .slice T9_6 n2_6 tc9_6, .int .i64 p2_7] 35)).cell? ⟨w7.heap.size, 1, none⟩ = some (.int .i64 p2_1) := KX10.at_ rfl
   have xKX10_2 : (w7.alloc (.cells #[.int .i64 p2_0, .int .i64 p2_1, .int .i64 p2_2, .slice T9_3 n2_3 tc9_3, .slice T9_4 n2_4 tc9_4, .slice T9_5 n2_5 tc9_5, .slice T9_6 n2_6 tc9_6, .int .i64 p2_7] 35)).cell? ⟨w7.heap.size, 2, none⟩ = some (.int .i64 p2_2) := KX10.at_ rfl
   have xKX10_3 : (w7.alloc (.cells #[.int .i64 p2_0, .int .i64 p2_1, .int .i64 p2_2, .slice T9_3 n2_3 tc9_3, .slice T9_4 n2_4 tc9_4, .slice T9_5 n2_5 tc9_5, .slice T9_6 n2_6 tc9_6, .int .i64 p2_7] 35)).cell? ⟨w7.heap.size, 3, none⟩ = some (.slice T9_3 n2_3 tc9_3) := KX10.at_ rfl
   have xKX10_4 : (w7.alloc (.cells #[.int .i64 p2_0, .int .i64 p2_1, .int .i64 p2_2, .slice T9_3 n2_3 tc9_3, .slice T9_4 n2_4 tc9_4, .slice T9_5 n2_5 tc9_5, .slice T9_6 n2_6 tc9_6, .int .i64 p2_7] 35)).cell? ⟨w7.heap.size, 4, none⟩ = some (.slice T9_4 n2_4 tc9_4) := KX10.at_ rfl
   have xKX10_5 : (w7.alloc (.cells #[.int .i64 p2_0, .int .i64 p2_1, .int .i64 p2_2, .slice T9_3 n2_3 tc9_3, .slice T9_4 n2_4 tc9_4, .slice T9_5 n2_5 tc9_5, .slice T9_6 n2_6 tc9_6, .int .i64 p2_7] 35)).cell? ⟨w7.heap.size, 5, none⟩ = some (.slice T9_5 n2_5 tc9_5) := KX10.at_ rfl
   have xKX10_6 : (w7.alloc (.cells #[.int .i64 p2_0, .int .i64 p2_1, .int .i64 p2_2, .slice T9_3 n2_3 tc9_3, .slice T9_4 n2_4 tc9_4, .slice T9_5 n2_5 tc9_5, .slice T9_6 n2_6 tc9_6, .int .i64 p2_7] 35)).cell? ⟨w7.heap.size, 6, none⟩ = some (.slice T9_6 n2_6 tc9_6) := KX10.at_ rfl
   have xKX10_7 : (w7.alloc (.cells #[.int .i64 p2_0, .int .i64 p2_1, .int .i64 p2_2, .slice T9_3 n2_3 tc9_3, .slice T9_4 n2_4 tc9_4, .slice T9_5 n2_5 tc9_5, .slice T9_6 n2_6 tc9_6, .int .i64 p2_7] 35)).cell? ⟨w7.heap.size, 7, none⟩ = some (.int .i64 p2_7) := KX10.at_ rfl
   go_wp2_with fail
   refine Calls.mono (impl_CanRollBackC a0 p1_0 p1_1 p1_2 l1_3 T6_3 n1_3 tc6_3 _ _ l1_4 T6_4 n1_4 tc6_4 _ _ l1_5 T6_5 n1_5 tc6_5 _ _ l1_6 T6_6 n1_6 tc6_6 _ _ p1_7 l1_8 T6_8 n1_8 tc6_8 _ _ p2_0 p2_1 p2_2 l2_3 T9_3 n2_3 tc9_3 _ _ l2_4 T9_4 n2_4 tc9_4 _ _ l2_5 T9_5 n2_5 tc9_5 _ _ l2_6 T9_6 n2_6 tc9_6 _ _ p2_7 _ (pow10_below hT G) Wf0.out (by omega) FT6_3.rd FT6_3.cap H1_3 (by omega) FT6_4.rd FT6_4.cap H1_4 (by omega) FT6_5.rd FT6_5.cap H1_5 (by omega) FT6_6.rd FT6_6.cap H1_6 (by omega) FT6_8.rd FT6_8.cap H1_8 (by omega) FT9_3.rd FT9_3.cap H2_3 (by omega) FT9_4.rd FT9_4.cap H2_4 (by omega) FT9_5.rd FT9_5.cap H2_5 (by omega) FT9_6.rd FT9_6.cap H2_6) ?_
   rintro e w8 ⟨rfl, B12⟩
   replace R1_3 := (R1_3).new B12
   replace R1_4 := (R1_4).new B12
   replace R1_5 := (R1_5).new B12
   replace R1_6 := (R1_6).new B12
   replace R1_8 := (R1_8).new B12
   replace R2_3 := (R2_3).new B12
   replace R2_4 := (R2_4).new B12
   replace R2_5 := (R2_5).new B12
   replace R2_6 := (R2_6).new B12
   replace KB1 := (KB1).new B12
   replace KB2 := (KB2).new B12
   replace FT6_3 := (FT6_3).new B12
   replace FT6_4 := (FT6_4).new B12
   replace FT6_5 := (FT6_5).new B12
   replace FT6_6 := (FT6_6).new B12
   replace FT6_8 := (FT6_8).new B12
   replace KX7 := (KX7).new B12
   replace FT9_3 := (FT9_3).new B12
   replace FT9_4 := (FT9_4).new B12
   replace FT9_5 := (FT9_5).new B12
   replace FT9_6 := (FT9_6).new B12
   replace KX10 := (KX10).new B12
   replace G := below_trans G B12 (Nat.le_refl _)
   have S8 := Lib.hid (show (w7.alloc (.cells #[.int .i64 p2_0, .int .i64 p2_1, .int .i64 p2_2, .slice T9_3 n2_3 tc9_3, .slice T9_4 n2_4 tc9_4, .slice T9_5 n2_5 tc9_5, .slice T9_6 n2_6 tc9_6, .int .i64 p2_7] 35)).heap.size + 0 ≤ w8.heap.size by have := B12.size; first | (simpa using this) | ((try simp at this); omega))
   clear B12
   clear xKX7_0 xKX7_1 xKX7_2 xKX7_3 xKX7_4 xKX7_5 xKX7_6 xKX7_7 xKX7_8 xKX10_0 xKX10_1 xKX10_2 xKX10_3 xKX10_4 xKX10_5 xKX10_6 xKX10_7
   go_wp2_with fail
   replace G := G.drew
   replace R1_3 := R1_3.drw
   replace R1_4 := R1_4.drw
   replace R1_5 := R1_5.drw
   replace R1_6 := R1_6.drw
   replace R1_8 := R1_8.drw
   replace R2_3 := R2_3.drw
   replace R2_4 := R2_4.drw
   replace R2_5 := R2_5.drw
   replace R2_6 := R2_6.drw
   replace KB1 := KB1.drw
   replace KB2 := KB2.drw
   replace FT6_3 := FT6_3.drw
   replace FT6_4 := FT6_4.drw
   replace FT6_5 := FT6_5.drw
   replace FT6_6 := FT6_6.drw
   replace FT6_8 := FT6_8.drw
   replace KX7 := KX7.drw
   replace FT9_3 := FT9_3.drw
   replace FT9_4 := FT9_4.drw
   replace FT9_5 := FT9_5.drw
   replace FT9_6 := FT9_6.drw
   replace KX10 := KX10.drw
   go_region_held3 (fun w' => w'.cell? ⟨w6.heap.size, 0, none⟩ = some (.int .i64 p1_0) ∧ w'.cell? ⟨w6.heap.size, 1, none⟩ = some (.int .i64 p1_1) ∧ w'.cell? ⟨w6.heap.size, 2, none⟩ = some (.int .i64 p1_2) ∧ w'.cell? ⟨w6.heap.size, 3, none⟩ = some (.slice T6_3 n1_3 tc6_3) ∧ w'.cell? ⟨w6.heap.size, 4, none⟩ = some (.slice T6_4 n1_4 tc6_4) ∧ w'.cell? ⟨w6.heap.size, 5, none⟩ = some (.slice T6_5 n1_5 tc6_5) ∧ w'.cell? ⟨w6.heap.size, 6, none⟩ = some (.slice T6_6 n1_6 tc6_6) ∧ w'.cell? ⟨w6.heap.size, 7, none⟩ = some (.int .i64 p1_7) ∧ w'.cell? ⟨w6.heap.size, 8, none⟩ = some (.slice T6_8 n1_8 tc6_8) ∧ w'.cell? ⟨w.heap.size, 0, none⟩ = some (.int .i64 p1_0) ∧ w'.cell? ⟨w.heap.size, 1, none⟩ = some (.int .i64 p1_1) ∧ w'.cell? ⟨w.heap.size, 2, none⟩ = some (.int .i64 p1_2) ∧ w'.cell? ⟨w.heap.size, 3, none⟩ = some (.slice A1_3 n1_3 c1_3) ∧ w'.cell? ⟨w.heap.size, 4, none⟩ = some (.slice A1_4 n1_4 c1_4) ∧ w'.cell? ⟨w.heap.size, 5, none⟩ = some (.slice A1_5 n1_5 c1_5) ∧ w'.cell? ⟨w.heap.size, 6, none⟩ = some (.slice A1_6 n1_6 c1_6) ∧ w'.cell? ⟨w.heap.size, 7, none⟩ = some (.int .i64 p1_7) ∧ w'.cell? ⟨w.heap.size, 8, none⟩ = some (.slice A1_8 n1_8 c1_8))
    (exact ⟨KX7.at_ rfl, KX7.at_ rfl, KX7.at_ rfl, KX7.at_ rfl, KX7.at_ rfl, KX7.at_ rfl, KX7.at_ rfl, KX7.at_ rfl, KX7.at_ rfl, KB1.at_ rfl, KB1.at_ rfl, KB1.at_ rfl, KB1.at_ rfl, KB1.at_ rfl, KB1.at_ rfl, KB1.at_ rfl, KB1.at_ rfl, KB1.at_ rfl⟩)
    (first
     | (go_at_call 14; (fail_if_success (have hx := B13)); refine Calls.mono (to_snapshot p1_0 p1_1 p1_2 l1_3 A1_3 n1_3 c1_3 _ _ l1_4 A1_4 n1_4 c1_4 _ _ l1_5 A1_5 n1_5 c1_5 _ _ l1_6 A1_6 n1_6 c1_6 _ _ p1_7 l1_8 A1_8 n1_8 c1_8 _ _ _ hqn1_3 R1_3 hqn1_4 R1_4 hqn1_5 R1_5 hqn1_6 R1_6 hqn1_8 R1_8) ?_; rintro e w9 ⟨T13_3, T13_4, T13_5, T13_6, T13_8, tc13_3, tlo13_3, thi13_3, tc13_4, tlo13_4, thi13_4, tc13_5, tlo13_5, thi13_5, tc13_6, tlo13_6, thi13_6, tc13_8, tlo13_8, thi13_8, rfl, FT13_3, FT13_4, FT13_5, FT13_6, FT13_8, MT13, B13⟩; (replace R1_3 := rd_nw B13 R1_3); (replace R1_4 := rd_nw B13 R1_4); (replace R1_5 := rd_nw B13 R1_5); (replace R1_6 := rd_nw B13 R1_6); (replace R1_8 := rd_nw B13 R1_8); (replace R2_3 := rd_nw B13 R2_3); (replace R2_4 := rd_nw B13 R2_4); (replace R2_5 := rd_nw B13 R2_5); (replace R2_6 := rd_nw B13 R2_6); (replace KB1 := box_nw B13 KB1); (replace KB2 := box_nw B13 KB2); (replace FT6_3 := fr_nw B13 FT6_3); (replace FT6_4 := fr_nw B13 FT6_4); (replace FT6_5 := fr_nw B13 FT6_5); (replace FT6_6 := fr_nw B13 FT6_6); (replace FT6_8 := fr_nw B13 FT6_8); (replace KX7 := box_nw B13 KX7); (replace FT9_3 := fr_nw B13 FT9_3); (replace FT9_4 := fr_nw B13 FT9_4); (replace FT9_5 := fr_nw B13 FT9_5); (replace FT9_6 := fr_nw B13 FT9_6); (replace KX10 := box_nw B13 KX10); (replace G := (by first | exact below_trans G B13 (Nat.le_refl _) | exact below_trans G.drew B13 (Nat.le_refl _) | exact below_trans (below_dN G _) B13 (Nat.le_refl _))); (have S9 := Lib.hid (show w8.heap.size ≤ w9.heap.size from B13.size)))
     | (go_at_call 16; (fail_if_success (have hx := B14)); refine Calls.mono (eq_snapshot_same p1_0 p1_1 p1_2 l1_3 n1_3 T6_3 T13_3 tc6_3 tc13_3 _ _ _ _ l1_4 n1_4 T6_4 T13_4 tc6_4 tc13_4 _ _ _ _ l1_5 n1_5 T6_5 T13_5 tc6_5 tc13_5 _ _ _ _ l1_6 n1_6 T6_6 T13_6 tc6_6 tc13_6 _ _ _ _ p1_7 l1_8 n1_8 T6_8 T13_8 tc6_8 tc13_8 _ _ _ _ _ (by omega) (by omega) (by omega) (by omega) (by omega) FT6_3.rd FT6_4.rd FT6_5.rd FT6_6.rd FT6_8.rd FT13_3.rd FT13_4.rd FT13_5.rd FT13_6.rd FT13_8.rd) ?_; rintro e w10 ⟨rfl, B14⟩; (replace R1_3 := rd_nw B14 R1_3); (replace R1_4 := rd_nw B14 R1_4); (replace R1_5 := rd_nw B14 R1_5); (replace R1_6 := rd_nw B14 R1_6); (replace R1_8 := rd_nw B14 R1_8); (replace R2_3 := rd_nw B14 R2_3); (replace R2_4 := rd_nw B14 R2_4); (replace R2_5 := rd_nw B14 R2_5); (replace R2_6 := rd_nw B14 R2_6); (replace KB1 := box_nw B14 KB1); (replace KB2 := box_nw B14 KB2); (replace FT6_3 := fr_nw B14 FT6_3); (replace FT6_4 := fr_nw B14 FT6_4); (replace FT6_5 := fr_nw B14 FT6_5); (replace FT6_6 := fr_nw B14 FT6_6); (replace FT6_8 := fr_nw B14 FT6_8); (replace KX7 := box_nw B14 KX7); (replace FT9_3 := fr_nw B14 FT9_3); (replace FT9_4 := fr_nw B14 FT9_4); (replace FT9_5 := fr_nw B14 FT9_5); (replace FT9_6 := fr_nw B14 FT9_6); (replace KX10 := box_nw B14 KX10); (replace FT13_3 := fr_nw B14 FT13_3); (replace FT13_4 := fr_nw B14 FT13_4); (replace FT13_5 := fr_nw B14 FT13_5); (replace FT13_6 := fr_nw B14 FT13_6); (replace FT13_8 := fr_nw B14 FT13_8); (replace G := (by first | exact below_trans G B14 (Nat.le_refl _) | exact below_trans G.drew B14 (Nat.le_refl _) | exact below_trans (below_dN G _) B14 (Nat.le_refl _))); (have S10 := Lib.hid (show w9.heap.size ≤ w10.heap.size from B14.size))))
   clear B13
   clear B14
   clear FT13_3
   clear FT13_4
   clear FT13_5
   clear FT13_6
   clear FT13_8
   go_wp2_with fail
   replace G := G.drew
   replace R1_3 := R1_3.drw
   replace R1_4 := R1_4.drw
   replace R1_5 := R1_5.drw
   replace R1_6 := R1_6.drw
   replace R1_8 := R1_8.drw
   replace R2_3 := R2_3.drw
   replace R2_4 := R2_4.drw
   replace R2_5 := R2_5.drw
   replace R2_6 := R2_6.drw
   replace KB1 := KB1.drw
   replace KB2 := KB2.drw
   replace FT6_3 := FT6_3.drw
   replace FT6_4 := FT6_4.drw
   replace FT6_5 := FT6_5.drw
   replace FT6_6 := FT6_6.drw
   replace FT6_8 := FT6_8.drw
   replace KX7 := KX7.drw
   replace FT9_3 := FT9_3.drw
   replace FT9_4 := FT9_4.drw
   replace FT9_5 := FT9_5.drw
   replace FT9_6 := FT9_6.drw
   replace KX10 := KX10.drw
   go_region_held3 (fun w' => w'.cell? ⟨w7.heap.size, 0, none⟩ = some (.int .i64 p2_0) ∧ w'.cell? ⟨w7.heap.size, 1, none⟩ = some (.int .i64 p2_1) ∧ w'.cell? ⟨w7.heap.size, 2, none⟩ = some (.int .i64 p2_2) ∧ w'.cell? ⟨w7.heap.size, 3, none⟩ = some (.slice T9_3 n2_3 tc9_3) ∧ w'.cell? ⟨w7.heap.size, 4, none⟩ = some (.slice T9_4 n2_4 tc9_4) ∧ w'.cell? ⟨w7.heap.size, 5, none⟩ = some (.slice T9_5 n2_5 tc9_5) ∧ w'.cell? ⟨w7.heap.size, 6, none⟩ = some (.slice T9_6 n2_6 tc9_6) ∧ w'.cell? ⟨w7.heap.size, 7, none⟩ = some (.int .i64 p2_7) ∧ w'.cell? ⟨w.heap.size + 1, 0, none⟩ = some (.int .i64 p2_0) ∧ w'.cell? ⟨w.heap.size + 1, 1, none⟩ = some (.int .i64 p2_1) ∧ w'.cell? ⟨w.heap.size + 1, 2, none⟩ = some (.int .i64 p2_2) ∧ w'.cell? ⟨w.heap.size + 1, 3, none⟩ = some (.slice A2_3 n2_3 c2_3) ∧ w'.cell? ⟨w.heap.size + 1, 4, none⟩ = some (.slice A2_4 n2_4 c2_4) ∧ w'.cell? ⟨w.heap.size + 1, 5, none⟩ = some (.slice A2_5 n2_5 c2_5) ∧ w'.cell? ⟨w.heap.size + 1, 6, none⟩ = some (.slice A2_6 n2_6 c2_6) ∧ w'.cell? ⟨w.heap.size + 1, 7, none⟩ = some (.int .i64 p2_7))
    (exact ⟨KX10.at_ rfl, KX10.at_ rfl, KX10.at_ rfl, KX10.at_ rfl, KX10.at_ rfl, KX10.at_ rfl, KX10.at_ rfl, KX10.at_ rfl, KB2.at_ rfl, KB2.at_ rfl, KB2.at_ rfl, KB2.at_ rfl, KB2.at_ rfl, KB2.at_ rfl, KB2.at_ rfl, KB2.at_ rfl⟩)
    (first
     | (go_at_call 9; (fail_if_success (have hx := B15)); refine Calls.mono (to_package p2_0 p2_1 p2_2 l2_3 A2_3 n2_3 c2_3 _ _ l2_4 A2_4 n2_4 c2_4 _ _ l2_5 A2_5 n2_5 c2_5 _ _ l2_6 A2_6 n2_6 c2_6 _ _ p2_7 _ hqn2_3 R2_3 hqn2_4 R2_4 hqn2_5 R2_5 hqn2_6 R2_6) ?_; rintro e w11 ⟨T15_3, T15_4, T15_5, T15_6, tc15_3, tlo15_3, thi15_3, tc15_4, tlo15_4, thi15_4, tc15_5, tlo15_5, thi15_5, tc15_6, tlo15_6, thi15_6, rfl, FT15_3, FT15_4, FT15_5, FT15_6, MT15, B15⟩; (replace R1_3 := rd_nw B15 R1_3); (replace R1_4 := rd_nw B15 R1_4); (replace R1_5 := rd_nw B15 R1_5); (replace R1_6 := rd_nw B15 R1_6); (replace R1_8 := rd_nw B15 R1_8); (replace R2_3 := rd_nw B15 R2_3); (replace R2_4 := rd_nw B15 R2_4); (replace R2_5 := rd_nw B15 R2_5); (replace R2_6 := rd_nw B15 R2_6); (replace KB1 := box_nw B15 KB1); (replace KB2 := box_nw B15 KB2); (replace FT6_3 := fr_nw B15 FT6_3); (replace FT6_4 := fr_nw B15 FT6_4); (replace FT6_5 := fr_nw B15 FT6_5); (replace FT6_6 := fr_nw B15 FT6_6); (replace FT6_8 := fr_nw B15 FT6_8); (replace KX7 := box_nw B15 KX7); (replace FT9_3 := fr_nw B15 FT9_3); (replace FT9_4 := fr_nw B15 FT9_4); (replace FT9_5 := fr_nw B15 FT9_5); (replace FT9_6 := fr_nw B15 FT9_6); (replace KX10 := box_nw B15 KX10); (replace G := (by first | exact below_trans G B15 (Nat.le_refl _) | exact below_trans G.drew B15 (Nat.le_refl _) | exact below_trans (below_dN G _) B15 (Nat.le_refl _))); (have S11 := Lib.hid (show w10.heap.size ≤ w11.heap.size from B15.size)))
     | (go_at_call 11; (fail_if_success (have hx := B16)); refine Calls.mono (eq_package_same p2_0 p2_1 p2_2 l2_3 n2_3 T9_3 T15_3 tc9_3 tc15_3 _ _ _ _ l2_4 n2_4 T9_4 T15_4 tc9_4 tc15_4 _ _ _ _ l2_5 n2_5 T9_5 T15_5 tc9_5 tc15_5 _ _ _ _ l2_6 n2_6 T9_6 T15_6 tc9_6 tc15_6 _ _ _ _ p2_7 _ (by omega) (by omega) (by omega) (by omega) FT9_3.rd FT9_4.rd FT9_5.rd FT9_6.rd FT15_3.rd FT15_4.rd FT15_5.rd FT15_6.rd) ?_; rintro e w12 ⟨rfl, B16⟩; (replace R1_3 := rd_nw B16 R1_3); (replace R1_4 := rd_nw B16 R1_4); (replace R1_5 := rd_nw B16 R1_5); (replace R1_6 := rd_nw B16 R1_6); (replace R1_8 := rd_nw B16 R1_8); (replace R2_3 := rd_nw B16 R2_3); (replace R2_4 := rd_nw B16 R2_4); (replace R2_5 := rd_nw B16 R2_5); (replace R2_6 := rd_nw B16 R2_6); (replace KB1 := box_nw B16 KB1); (replace KB2 := box_nw B16 KB2); (replace FT6_3 := fr_nw B16 FT6_3); (replace FT6_4 := fr_nw B16 FT6_4); (replace FT6_5 := fr_nw B16 FT6_5); (replace FT6_6 := fr_nw B16 FT6_6); (replace FT6_8 := fr_nw B16 FT6_8); (replace KX7 := box_nw B16 KX7); (replace FT9_3 := fr_nw B16 FT9_3); (replace FT9_4 := fr_nw B16 FT9_4); (replace FT9_5 := fr_nw B16 FT9_5); (replace FT9_6 := fr_nw B16 FT9_6); (replace KX10 := box_nw B16 KX10); (replace FT15_3 := fr_nw B16 FT15_3); (replace FT15_4 := fr_nw B16 FT15_4); (replace FT15_5 := fr_nw B16 FT15_5); (replace FT15_6 := fr_nw B16 FT15_6); (replace G := (by first | exact below_trans G B16 (Nat.le_refl _) | exact below_trans G.drew B16 (Nat.le_refl _) | exact below_trans (below_dN G _) B16 (Nat.le_refl _))); (have S12 := Lib.hid (show w11.heap.size ≤ w12.heap.size from B16.size))))
   clear B15
   clear B16
   clear FT15_3
   clear FT15_4
   clear FT15_5
   clear FT15_6
   go_wp2_with fail
   go_ret
   exact ⟨rfl, G⟩
  ·
   have G : Below w.heap.size w ((w.alloc (.cells #[.int .i64 p1_0, .int .i64 p1_1, .int .i64 p1_2, .slice A1_3 n1_3 c1_3, .slice A1_4 n1_4 c1_4, .slice A1_5 n1_5 c1_5, .slice A1_6 n1_6 c1_6, .int .i64 p1_7, .slice A1_8 n1_8 c1_8] 41)).alloc (.cells #[.int .i64 p2_0, .int .i64 p2_1, .int .i64 p2_2, .slice A2_3 n2_3 c2_3, .slice A2_4 n2_4 c2_4, .slice A2_5 n2_5 c2_5, .slice A2_6 n2_6 c2_6, .int .i64 p2_7] 27)) := ((Below.refl _ _).alloc (by simp) _).alloc (by simp) _
   have S0 := Lib.hid (show ((w.alloc (.cells #[.int .i64 p1_0, .int .i64 p1_1, .int .i64 p1_2, .slice A1_3 n1_3 c1_3, .slice A1_4 n1_4 c1_4, .slice A1_5 n1_5 c1_5, .slice A1_6 n1_6 c1_6, .int .i64 p1_7, .slice A1_8 n1_8 c1_8] 41)).alloc (.cells #[.int .i64 p2_0, .int .i64 p2_1, .int .i64 p2_2, .slice A2_3 n2_3 c2_3, .slice A2_4 n2_4 c2_4, .slice A2_5 n2_5 c2_5, .slice A2_6 n2_6 c2_6, .int .i64 p2_7] 27)).heap.size = w.heap.size + 2 by simp)
   replace R1_3 := R1_3.alloc (.cells #[.int .i64 p1_0, .int .i64 p1_1, .int .i64 p1_2, .slice A1_3 n1_3 c1_3, .slice A1_4 n1_4 c1_4, .slice A1_5 n1_5 c1_5, .slice A1_6 n1_6 c1_6, .int .i64 p1_7, .slice A1_8 n1_8 c1_8] 41)
   replace R1_4 := R1_4.alloc (.cells #[.int .i64 p1_0, .int .i64 p1_1, .int .i64 p1_2, .slice A1_3 n1_3 c1_3, .slice A1_4 n1_4 c1_4, .slice A1_5 n1_5 c1_5, .slice A1_6 n1_6 c1_6, .int .i64 p1_7, .slice A1_8 n1_8 c1_8] 41)
   replace R1_5 := R1_5.alloc (.cells #[.int .i64 p1_0, .int .i64 p1_1, .int .i64 p1_2, .slice A1_3 n1_3 c1_3, .slice A1_4 n1_4 c1_4, .slice A1_5 n1_5 c1_5, .slice A1_6 n1_6 c1_6, .int .i64 p1_7, .slice A1_8 n1_8 c1_8] 41)
   replace R1_6 := R1_6.alloc (.cells #[.int .i64 p1_0, .int .i64 p1_1, .int .i64 p1_2, .slice A1_3 n1_3 c1_3, .slice A1_4 n1_4 c1_4, .slice A1_5 n1_5 c1_5, .slice A1_6 n1_6 c1_6, .int .i64 p1_7, .slice A1_8 n1_8 c1_8] 41)
   replace R1_8 := R1_8.alloc (.cells #[.int .i64 p1_0, .int .i64 p1_1, .int .i64 p1_2, .slice A1_3 n1_3 c1_3, .slice A1_4 n1_4 c1_4, .slice A1_5 n1_5 c1_5, .slice A1_6 n1_6 c1_6, .int .i64 p1_7, .slice A1_8 n1_8 c1_8] 41)
   replace R2_3 := R2_3.alloc (.cells #[.int .i64 p1_0, .int .i64 p1_1, .int .i64 p1_2, .slice A1_3 n1_3 c1_3, .slice A1_4 n1_4 c1_4, .slice A1_5 n1_5 c1_5, .slice A1_6 n1_6 c1_6, .int .i64 p1_7, .slice A1_8 n1_8 c1_8] 41)
   replace R2_4 := R2_4.alloc (.cells #[.int .i64 p1_0, .int .i64 p1_1, .int .i64 p1_2, .slice A1_3 n1_3 c1_3, .slice A1_4 n1_4 c1_4, .slice A1_5 n1_5 c1_5, .slice A1_6 n1_6 c1_6, .int .i64 p1_7, .slice A1_8 n1_8 c1_8] 41)
   replace R2_5 := R2_5.alloc (.cells #[.int .i64 p1_0, .int .i64 p1_1, .int .i64 p1_2, .slice A1_3 n1_3 c1_3, .slice A1_4 n1_4 c1_4, .slice A1_5 n1_5 c1_5, .slice A1_6 n1_6 c1_6, .int .i64 p1_7, .slice A1_8 n1_8 c1_8] 41)
   replace R2_6 := R2_6.alloc (.cells #[.int .i64 p1_0, .int .i64 p1_1, .int .i64 p1_2, .slice A1_3 n1_3 c1_3, .slice A1_4 n1_4 c1_4, .slice A1_5 n1_5 c1_5, .slice A1_6 n1_6 c1_6, .int .i64 p1_7, .slice A1_8 n1_8 c1_8] 41)
   have KB1 : BoxAt (w.alloc (.cells #[.int .i64 p1_0, .int .i64 p1_1, .int .i64 p1_2, .slice A1_3 n1_3 c1_3, .slice A1_4 n1_4 c1_4, .slice A1_5 n1_5 c1_5, .slice A1_6 n1_6 c1_6, .int .i64 p1_7, .slice A1_8 n1_8 c1_8] 41)) (w.heap.size) 41 #[.int .i64 p1_0, .int .i64 p1_1, .int .i64 p1_2, .slice A1_3 n1_3 c1_3, .slice A1_4 n1_4 c1_4, .slice A1_5 n1_5 c1_5, .slice A1_6 n1_6 c1_6, .int .i64 p1_7, .slice A1_8 n1_8 c1_8] := box_new _ _ _
   replace R1_3 := R1_3.alloc (.cells #[.int .i64 p2_0, .int .i64 p2_1, .int .i64 p2_2, .slice A2_3 n2_3 c2_3, .slice A2_4 n2_4 c2_4, .slice A2_5 n2_5 c2_5, .slice A2_6 n2_6 c2_6, .int .i64 p2_7] 27)
   replace R1_4 := R1_4.alloc (.cells #[.int .i64 p2_0, .int .i64 p2_1, .int .i64 p2_2, .slice A2_3 n2_3 c2_3, .slice A2_4 n2_4 c2_4, .slice A2_5 n2_5 c2_5, .slice A2_6 n2_6 c2_6, .int .i64 p2_7] 27)
   replace R1_5 := R1_5.alloc (.cells #[.int .i64 p2_0, .int .i64 p2_1, .int .i64 p2_2, .slice A2_3 n2_3 c2_3, .slice A2_4 n2_4 c2_4, .slice A2_5 n2_5 c2_5, .slice A2_6 n2_6 c2_6, .int .i64 p2_7] 27)
   replace R1_6 := R1_6.alloc (.cells #[.int .i64 p2_0, .int .i64 p2_1, .int .i64 p2_2, .slice A2_3 n2_3 c2_3, .slice A2_4 n2_4 c2_4, .slice A2_5 n2_5 c2_5, .slice A2_6 n2_6 c2_6, .int .i64 p2_7] 27)
   replace R1_8 := R1_8.alloc (.cells #[.int .i64 p2_0, .int .i64 p2_1, .int .i64 p2_2, .slice A2_3 n2_3 c2_3, .slice A2_4 n2_4 c2_4, .slice A2_5 n2_5 c2_5, .slice A2_6 n2_6 c2_6, .int .i64 p2_7] 27)
   replace R2_3 := R2_3.alloc (.cells #[.int .i64 p2_0, .int .i64 p2_1, .int .i64 p2_2, .slice A2_3 n2_3 c2_3, .slice A2_4 n2_4 c2_4, .slice A2_5 n2_5 c2_5, .slice A2_6 n2_6 c2_6, .int .i64 p2_7] 27)
   replace R2_4 := R2_4.alloc (.cells #[.int .i64 p2_0, .int .i64 p2_1, .int .i64 p2_2, .slice A2_3 n2_3 c2_3, .slice A2_4 n2_4 c2_4, .slice A2_5 n2_5 c2_5, .slice A2_6 n2_6 c2_6, .int .i64 p2_7] 27)
   replace R2_5 := R2_5.alloc (.cells #[.int .i64 p2_0, .int .i64 p2_1, .int .i64 p2_2, .slice A2_3 n2_3 c2_3, .slice A2_4 n2_4 c2_4, .slice A2_5 n2_5 c2_5, .slice A2_6 n2_6 c2_6, .int .i64 p2_7] 27)
   replace R2_6 := R2_6.alloc (.cells #[.int .i64 p2_0, .int .i64 p2_1, .int .i64 p2_2, .slice A2_3 n2_3 c2_3, .slice A2_4 n2_4 c2_4, .slice A2_5 n2_5 c2_5, .slice A2_6 n2_6 c2_6, .int .i64 p2_7] 27)
   replace KB1 := KB1.alloc_ (.cells #[.int .i64 p2_0, .int .i64 p2_1, .int .i64 p2_2, .slice A2_3 n2_3 c2_3, .slice A2_4 n2_4 c2_4, .slice A2_5 n2_5 c2_5, .slice A2_6 n2_6 c2_6, .int .i64 p2_7] 27)
   have KB2 : BoxAt ((w.alloc (.cells #[.int .i64 p1_0, .int .i64 p1_1, .int .i64 p1_2, .slice A1_3 n1_3 c1_3, .slice A1_4 n1_4 c1_4, .slice A1_5 n1_5 c1_5, .slice A1_6 n1_6 c1_6, .int .i64 p1_7, .slice A1_8 n1_8 c1_8] 41)).alloc (.cells #[.int .i64 p2_0, .int .i64 p2_1, .int .i64 p2_2, .slice A2_3 n2_3 c2_3, .slice A2_4 n2_4 c2_4, .slice A2_5 n2_5 c2_5, .slice A2_6 n2_6 c2_6, .int .i64 p2_7] 27)) (w.heap.size + 1) 27 #[.int .i64 p2_0, .int .i64 p2_1, .int .i64 p2_2, .slice A2_3 n2_3 c2_3, .slice A2_4 n2_4 c2_4, .slice A2_5 n2_5 c2_5, .slice A2_6 n2_6 c2_6, .int .i64 p2_7] := by simpa using box_new (w.alloc (.cells #[.int .i64 p1_0, .int .i64 p1_1, .int .i64 p1_2, .slice A1_3 n1_3 c1_3, .slice A1_4 n1_4 c1_4, .slice A1_5 n1_5 c1_5, .slice A1_6 n1_6 c1_6, .int .i64 p1_7, .slice A1_8 n1_8 c1_8] 41)) 27 #[.int .i64 p2_0, .int .i64 p2_1, .int .i64 p2_2, .slice A2_3 n2_3 c2_3, .slice A2_4 n2_4 c2_4, .slice A2_5 n2_5 c2_5, .slice A2_6 n2_6 c2_6, .int .i64 p2_7]
   go_enter Tryz.func4, Tryz.ntmps4
   have xKB1_0 : ((w.alloc (.cells #[.int .i64 p1_0, .int .i64 p1_1, .int .i64 p1_2, .slice A1_3 n1_3 c1_3, .slice A1_4 n1_4 c1_4, .slice A1_5 n1_5 c1_5, .slice A1_6 n1_6 c1_6, .int .i64 p1_7, .slice A1_8 n1_8 c1_8] 41)).alloc (.cells #[.int .i64 p2_0, .int .i64 p2_1, .int .i64 p2_2, .slice A2_3 n2_3 c2_3, .slice A2_4 n2_4 c2_4, .slice A2_5 n2_5 c2_5, .slice A2_6 n2_6 c2_6, .int .i64 p2_7] 27)).cell? ⟨w.heap.size, 0, none⟩ = some (.int .i64 p1_0) := KB1.at_ rfl
   have xKB1_1 : ((w.alloc (.cells #[.int .i64 p1_0, .int .i64 p1_1, .int .i64 p1_2, .slice A1_3 n1_3 c1_3, .slice A1_4 n1_4 c1_4, .slice A1_5 n1_5 c1_5, .slice A1_6 n1_6 c1_6, .int .i64 p1_7, .slice A1_8 n1_8 c1_8] 41)).alloc (.cells #[.int .i64 p2_0, .int .i64 p2_1, .int .i64 p2_2, .slice A2_3 n2_3 c2_3, .slice A2_4 n2_4 c2_4, .slice A2_5 n2_5 c2_5, .slice A2_6 n2_6 c2_6, .int .i64 p2_7] 27)).cell? ⟨w.heap.size, 1, none⟩ = some (.int .i64 p1_1) := KB1.at_ rfl
   have xKB1_2 : ((w.alloc (.cells #[.int .i64 p1_0, .int .i64 p1_1, .int .i64 p1_2, .slice A1_3 n1_3 c1_3, .slice A1_4 n1_4 c1_4, .slice A1_5 n1_5 c1_5, .slice A1_6 n1_6 c1_6, .int .i64 p1_7, .slice A1_8 n1_8 c1_8] 41)).alloc (.cells #[.int .i64 p2_0, .int .i64 p2_1, .int .i64 p2_2, .slice A2_3 n2_3 c2_3, .slice A2_4 n2_4 c2_4, .slice A2_5 n2_5 c2_5, .slice A2_6 n2_6 c2_6, .int .i64 p2_7] 27)).cell? ⟨w.heap.size, 2, none⟩ = some (.int .i64 p1_2) := KB1.at_ rfl
   have xKB1_3 : ((w.alloc (.cells #[.int .i64 p1_0, .int .i64 p1_1, .int .i64 p1_2, .slice A1_3 n1_3 c1_3, .slice A1_4 n1_4 c1_4, .slice A1_5 n1_5 c1_5, .slice A1_6 n1_6 c1_6, .int .i64 p1_7, .slice A1_8 n1_8 c1_8] 41)).alloc (.cells #[.int .i64 p2_0, .int .i64 p2_1, .int .i64 p2_2, .slice A2_3 n2_3 c2_3, .slice A2_4 n2_4 c2_4, .slice A2_5 n2_5 c2_5, .slice A2_6 n2_6 c2_6, .int .i64 p2_7] 27)).cell? ⟨w.heap.size, 3, none⟩ = some (.slice A1_3 n1_3 c1_3) := KB1.at_ rfl
   have xKB1_4 : ((w.alloc (.cells #[.int .i64 p1_0, .int .i64 p1_1, .int .i64 p1_2, .slice A1_3 n1_3 c1_3, .slice A1_4 n1_4 c1_4, .slice A1_5 n1_5 c1_5, .slice A1_6 n1_6 c1_6, .int .i64 p1_7, .slice A1_8 n1_8 c1_8] 41)).alloc (.cells #[.int .i64 p2_0, .int .i64 p2_1, .int .i64 p2_2, .slice A2_3 n2_3 c2_3, .slice A2_4 n2_4 c2_4, .slice A2_5 n2_5 c2_5, .slice A2_6 n2_6 c2_6, .int .i64 p2_7] 27)).cell? ⟨w.heap.size, 4, none⟩ = some (.slice A1_4 n1_4 c1_4) := KB1.at_ rfl
   have xKB1_5 : ((w.alloc (.cells #[.int .i64 p1_0, .int .i64 p1_1, .int .i64 p1_2, .slice A1_3 n1_3 c1_3, .slice A1_4 n1_4 c1_4, .slice A1_5 n1_5 c1_5, .slice A1_6 n1_6 c1_6, .int .i64 p1_7, .slice A1_8 n1_8 c1_8] 41)).alloc (.cells #[.int .i64 p2_0, .int .i64 p2_1, .int .i64 p2_2, .slice A2_3 n2_3 c2_3, .slice A2_4 n2_4 c2_4, .slice A2_5 n2_5 c2_5, .slice A2_6 n2_6 c2_6, .int .i64 p2_7] 27)).cell? ⟨w.heap.size, 5, none⟩ = some (.slice A1_5 n1_5 c1_5) := KB1.at_ rfl
   have xKB1_6 : ((w.alloc (.cells #[.int .i64 p1_0, .int .i64 p1_1, .int .i64 p1_2, .slice A1_3 n1_3 c1_3, .slice A1_4 n1_4 c1_4, .slice A1_5 n1_5 c1_5, .slice A1_6 n1_6 c1_6, .int .i64 p1_7, .slice A1_8 n1_8 c1_8] 41)).alloc (.cells #[.int .i64 p2_0, .int .i64 p2_1, .int .i64 p2_2, .slice A2_3 n2_3 c2_3, .slice A2_4 n2_4 c2_4, .slice A2_5 n2_5 c2_5, .slice A2_6 n2_6 c2_6, .int .i64 p2_7] 27)).cell? ⟨w.heap.size, 6, none⟩ = some (.slice A1_6 n1_6 c1_6) := KB1.at_ rfl
   have xKB1_7 : ((w.alloc (.cells #[.int .i64 p1_0, .int .i64 p1_1, .int .i64 p1_2, .slice A1_3 n1_3 c1_3, .slice A1_4 n1_4 c1_4, .slice A1_5 n1_5 c1_5, .slice A1_6 n1_6 c1_6, .int .i64 p1_7, .slice A1_8 n1_8 c1_8] 41)).alloc (.cells #[.int .i64 p2_0, .int .i64 p2_1, .int .i64 p2_2, .slice A2_3 n2_3 c2_3, .slice A2_4 n2_4 c2_4, .slice A2_5 n2_5 c2_5, .slice A2_6 n2_6 c2_6, .int .i64 p2_7] 27)).cell? ⟨w.heap.size, 7, none⟩ = some (.int .i64 p1_7) := KB1.at_ rfl
   have xKB1_8 : ((w.alloc (.cells #[.int .i64 p1_0, .int .i64 p1_1, .int .i64 p1_2, .slice A1_3 n1_3 c1_3, .slice A1_4 n1_4 c1_4, .slice A1_5 n1_5 c1_5, .slice A1_6 n1_6 c1_6, .int .i64 p1_7, .slice A1_8 n1_8 c1_8] 41)).alloc (.cells #[.int .i64 p2_0, .int .i64 p2_1, .int .i64 p2_2, .slice A2_3 n2_3 c2_3, .slice A2_4 n2_4 c2_4, .slice A2_5 n2_5 c2_5, .slice A2_6 n2_6 c2_6, .int .i64 p2_7] 27)).cell? ⟨w.heap.size, 8, none⟩ = some (.slice A1_8 n1_8 c1_8) := KB1.at_ rfl
   go_wp2_with fail
   refine Calls.mono (sz_snapshot p1_0 p1_1 p1_2 A1_3 n1_3 c1_3 A1_4 n1_4 c1_4 A1_5 n1_5 c1_5 A1_6 n1_6 c1_6 p1_7 A1_8 n1_8 c1_8 (1048576) _ hm1_3 hm1_4 hm1_5 hm1_6 hm1_8 (by omega) (by omega)) ?_
   rintro e w1 ⟨rfl, B17⟩
   replace R1_3 := (R1_3).new B17
   replace R1_4 := (R1_4).new B17
   replace R1_5 := (R1_5).new B17
   replace R1_6 := (R1_6).new B17
   replace R1_8 := (R1_8).new B17
   replace R2_3 := (R2_3).new B17
   replace R2_4 := (R2_4).new B17
   replace R2_5 := (R2_5).new B17
   replace R2_6 := (R2_6).new B17
   replace KB1 := (KB1).new B17
   replace KB2 := (KB2).new B17
   replace G := below_trans G B17 (Nat.le_refl _)
   have S1 := Lib.hid (show ((w.alloc (.cells #[.int .i64 p1_0, .int .i64 p1_1, .int .i64 p1_2, .slice A1_3 n1_3 c1_3, .slice A1_4 n1_4 c1_4, .slice A1_5 n1_5 c1_5, .slice A1_6 n1_6 c1_6, .int .i64 p1_7, .slice A1_8 n1_8 c1_8] 41)).alloc (.cells #[.int .i64 p2_0, .int .i64 p2_1, .int .i64 p2_2, .slice A2_3 n2_3 c2_3, .slice A2_4 n2_4 c2_4, .slice A2_5 n2_5 c2_5, .slice A2_6 n2_6 c2_6, .int .i64 p2_7] 27)).heap.size + 0 ≤ w1.heap.size by have := B17.size; first | (simpa using this) | ((try simp at this); omega))
   clear B17
   clear xKB1_0 xKB1_1 xKB1_2 xKB1_3 xKB1_4 xKB1_5 xKB1_6 xKB1_7 xKB1_8
   have xKB2_0 : w1.cell? ⟨w.heap.size + 1, 0, none⟩ = some (.int .i64 p2_0) := KB2.at_ rfl
   have xKB2_1 : w1.cell? ⟨w.heap.size + 1, 1, none⟩ = some (.int .i64 p2_1) := KB2.at_ rfl
   have xKB2_2 : w1.cell? ⟨w.heap.size + 1, 2, none⟩ = some (.int .i64 p2_2) := KB2.at_ rfl
   have xKB2_3 : w1.cell? ⟨w.heap.size + 1, 3, none⟩ = some (.slice A2_3 n2_3 c2_3) := KB2.at_ rfl
   have xKB2_4 : w1.cell? ⟨w.heap.size + 1, 4, none⟩ = some (.slice A2_4 n2_4 c2_4) := KB2.at_ rfl
   have xKB2_5 : w1.cell? ⟨w.heap.size + 1, 5, none⟩ = some (.slice A2_5 n2_5 c2_5) := KB2.at_ rfl
   have xKB2_6 : w1.cell? ⟨w.heap.size + 1, 6, none⟩ = some (.slice A2_6 n2_6 c2_6) := KB2.at_ rfl
   have xKB2_7 : w1.cell? ⟨w.heap.size + 1, 7, none⟩ = some (.int .i64 p2_7) := KB2.at_ rfl
   go_wp2_with fail
   refine Calls.mono (szno_package p2_0 p2_1 p2_2 A2_3 n2_3 c2_3 A2_4 n2_4 c2_4 A2_5 n2_5 c2_5 A2_6 n2_6 c2_6 p2_7 (1048576 - (n1_3 : Int) - (n1_4 : Int) - (n1_5 : Int) - (n1_6 : Int) - (n1_8 : Int)) _ hm2_3 hm2_4 hm2_5 hm2_6 (by omega) (by omega) (by omega)) ?_
   rintro e w2 ⟨rfl, B18⟩
   clear xKB2_0 xKB2_1 xKB2_2 xKB2_3 xKB2_4 xKB2_5 xKB2_6 xKB2_7
   go_wp2_with fail
   go_ret
   exact ⟨rfl, below_trans G B18 (Nat.le_refl _)⟩
 ·
  have G : Below w.heap.size w ((w.alloc (.cells #[.int .i64 p1_0, .int .i64 p1_1, .int .i64 p1_2, .slice A1_3 n1_3 c1_3, .slice A1_4 n1_4 c1_4, .slice A1_5 n1_5 c1_5, .slice A1_6 n1_6 c1_6, .int .i64 p1_7, .slice A1_8 n1_8 c1_8] 41)).alloc (.cells #[.int .i64 p2_0, .int .i64 p2_1, .int .i64 p2_2, .slice A2_3 n2_3 c2_3, .slice A2_4 n2_4 c2_4, .slice A2_5 n2_5 c2_5, .slice A2_6 n2_6 c2_6, .int .i64 p2_7] 27)) := ((Below.refl _ _).alloc (by simp) _).alloc (by simp) _
  have S0 := Lib.hid (show ((w.alloc (.cells #[.int .i64 p1_0, .int .i64 p1_1, .int .i64 p1_2, .slice A1_3 n1_3 c1_3, .slice A1_4 n1_4 c1_4, .slice A1_5 n1_5 c1_5, .slice A1_6 n1_6 c1_6, .int .i64 p1_7, .slice A1_8 n1_8 c1_8] 41)).alloc (.cells #[.int .i64 p2_0, .int .i64 p2_1, .int .i64 p2_2, .slice A2_3 n2_3 c2_3, .slice A2_4 n2_4 c2_4, .slice A2_5 n2_5 c2_5, .slice A2_6 n2_6 c2_6, .int .i64 p2_7] 27)).heap.size = w.heap.size + 2 by simp)
  replace R1_3 := R1_3.alloc (.cells #[.int .i64 p1_0, .int .i64 p1_1, .int .i64 p1_2, .slice A1_3 n1_3 c1_3, .slice A1_4 n1_4 c1_4, .slice A1_5 n1_5 c1_5, .slice A1_6 n1_6 c1_6, .int .i64 p1_7, .slice A1_8 n1_8 c1_8] 41)
  replace R1_4 := R1_4.alloc (.cells #[.int .i64 p1_0, .int .i64 p1_1, .int .i64 p1_2, .slice A1_3 n1_3 c1_3, .slice A1_4 n1_4 c1_4, .slice A1_5 n1_5 c1_5, .slice A1_6 n1_6 c1_6, .int .i64 p1_7, .slice A1_8 n1_8 c1_8] 41)
  replace R1_5 := R1_5.alloc (.cells #[.int .i64 p1_0, .int .i64 p1_1, .int .i64 p1_2, .slice A1_3 n1_3 c1_3, .slice A1_4 n1_4 c1_4, .slice A1_5 n1_5 c1_5, .slice A1_6 n1_6 c1_6, .int .i64 p1_7, .slice A1_8 n1_8 c1_8] 41)
  replace R1_6 := R1_6.alloc (.cells #[.int .i64 p1_0, .int .i64 p1_1, .int .i64 p1_2, .slice A1_3 n1_3 c1_3, .slice A1_4 n1_4 c1_4, .slice A1_5 n1_5 c1_5, .slice A1_6 n1_6 c1_6, .int .i64 p1_7, .slice A1_8 n1_8 c1_8] 41)
  replace R1_8 := R1_8.alloc (.cells #[.int .i64 p1_0, .int .i64 p1_1, .int .i64 p1_2, .slice A1_3 n1_3 c1_3, .slice A1_4 n1_4 c1_4, .slice A1_5 n1_5 c1_5, .slice A1_6 n1_6 c1_6, .int .i64 p1_7, .slice A1_8 n1_8 c1_8] 41)
  replace R2_3 := R2_3.alloc (.cells #[.int .i64 p1_0, .int .i64 p1_1, .int .i64 p1_2, .slice A1_3 n1_3 c1_3, .slice A1_4 n1_4 c1_4, .slice A1_5 n1_5 c1_5, .slice A1_6 n1_6 c1_6, .int .i64 p1_7, .slice A1_8 n1_8 c1_8] 41)
  replace R2_4 := R2_4.alloc (.cells #[.int .i64 p1_0, .int .i64 p1_1, .int .i64 p1_2, .slice A1_3 n1_3 c1_3, .slice A1_4 n1_4 c1_4, .slice A1_5 n1_5 c1_5, .slice A1_6 n1_6 c1_6, .int .i64 p1_7, .slice A1_8 n1_8 c1_8] 41)
  replace R2_5 := R2_5.alloc (.cells #[.int .i64 p1_0, .int .i64 p1_1, .int .i64 p1_2, .slice A1_3 n1_3 c1_3, .slice A1_4 n1_4 c1_4, .slice A1_5 n1_5 c1_5, .slice A1_6 n1_6 c1_6, .int .i64 p1_7, .slice A1_8 n1_8 c1_8] 41)
  replace R2_6 := R2_6.alloc (.cells #[.int .i64 p1_0, .int .i64 p1_1, .int .i64 p1_2, .slice A1_3 n1_3 c1_3, .slice A1_4 n1_4 c1_4, .slice A1_5 n1_5 c1_5, .slice A1_6 n1_6 c1_6, .int .i64 p1_7, .slice A1_8 n1_8 c1_8] 41)
  have KB1 : BoxAt (w.alloc (.cells #[.int .i64 p1_0, .int .i64 p1_1, .int .i64 p1_2, .slice A1_3 n1_3 c1_3, .slice A1_4 n1_4 c1_4, .slice A1_5 n1_5 c1_5, .slice A1_6 n1_6 c1_6, .int .i64 p1_7, .slice A1_8 n1_8 c1_8] 41)) (w.heap.size) 41 #[.int .i64 p1_0, .int .i64 p1_1, .int .i64 p1_2, .slice A1_3 n1_3 c1_3, .slice A1_4 n1_4 c1_4, .slice A1_5 n1_5 c1_5, .slice A1_6 n1_6 c1_6, .int .i64 p1_7, .slice A1_8 n1_8 c1_8] := box_new _ _ _
  replace R1_3 := R1_3.alloc (.cells #[.int .i64 p2_0, .int .i64 p2_1, .int .i64 p2_2, .slice A2_3 n2_3 c2_3, .slice A2_4 n2_4 c2_4, .slice A2_5 n2_5 c2_5, .slice A2_6 n2_6 c2_6, .int .i64 p2_7] 27)
  replace R1_4 := R1_4.alloc (.cells #[.int .i64 p2_0, .int .i64 p2_1, .int .i64 p2_2, .slice A2_3 n2_3 c2_3, .slice A2_4 n2_4 c2_4, .slice A2_5 n2_5 c2_5, .slice A2_6 n2_6 c2_6, .int .i64 p2_7] 27)
  replace R1_5 := R1_5.alloc (.cells #[.int .i64 p2_0, .int .i64 p2_1, .int .i64 p2_2, .slice A2_3 n2_3 c2_3, .slice A2_4 n2_4 c2_4, .slice A2_5 n2_5 c2_5, .slice A2_6 n2_6 c2_6, .int .i64 p2_7] 27)
  replace R1_6 := R1_6.alloc (.cells #[.int .i64 p2_0, .int .i64 p2_1, .int .i64 p2_2, .slice A2_3 n2_3 c2_3, .slice A2_4 n2_4 c2_4, .slice A2_5 n2_5 c2_5, .slice A2_6 n2_6 c2_6, .int .i64 p2_7] 27)
  replace R1_8 := R1_8.alloc (.cells #[.int .i64 p2_0, .int .i64 p2_1, .int .i64 p2_2, .slice A2_3 n2_3 c2_3, .slice A2_4 n2_4 c2_4, .slice A2_5 n2_5 c2_5, .slice A2_6 n2_6 c2_6, .int .i64 p2_7] 27)
  replace R2_3 := R2_3.alloc (.cells #[.int .i64 p2_0, .int .i64 p2_1, .int .i64 p2_2, .slice A2_3 n2_3 c2_3, .slice A2_4 n2_4 c2_4, .slice A2_5 n2_5 c2_5, .slice A2_6 n2_6 c2_6, .int .i64 p2_7] 27)
  replace R2_4 := R2_4.alloc (.cells #[.int .i64 p2_0, .int .i64 p2_1, .int .i64 p2_2, .slice A2_3 n2_3 c2_3, .slice A2_4 n2_4 c2_4, .slice A2_5 n2_5 c2_5, .slice A2_6 n2_6 c2_6, .int .i64 p2_7] 27)
  replace R2_5 := R2_5.alloc (.cells #[.int .i64 p2_0, .int .i64 p2_1, .int .i64 p2_2, .slice A2_3 n2_3 c2_3, .slice A2_4 n2_4 c2_4, .slice A2_5 n2_5 c2_5, .slice A2_6 n2_6 c2_6, .int .i64 p2_7] 27)
  replace R2_6 := R2_6.alloc (.cells #[.int .i64 p2_0, .int .i64 p2_1, .int .i64 p2_2, .slice A2_3 n2_3 c2_3, .slice A2_4 n2_4 c2_4, .slice A2_5 n2_5 c2_5, .slice A2_6 n2_6 c2_6, .int .i64 p2_7] 27)
  replace KB1 := KB1.alloc_ (.cells #[.int .i64 p2_0, .int .i64 p2_1, .int .i64 p2_2, .slice A2_3 n2_3 c2_3, .slice A2_4 n2_4 c2_4, .slice A2_5 n2_5 c2_5, .slice A2_6 n2_6 c2_6, .int .i64 p2_7] 27)
  have KB2 : BoxAt ((w.alloc (.cells #[.int .i64 p1_0, .int .i64 p1_1, .int .i64 p1_2, .slice A1_3 n1_3 c1_3, .slice A1_4 n1_4 c1_4, .slice A1_5 n1_5 c1_5, .slice A1_6 n1_6 c1_6, .int .i64 p1_7, .slice A1_8 n1_8 c1_8] 41)).alloc (.cells #[.int .i64 p2_0, .int .i64 p2_1, .int .i64 p2_2, .slice A2_3 n2_3 c2_3, .slice A2_4 n2_4 c2_4, .slice A2_5 n2_5 c2_5, .slice A2_6 n2_6 c2_6, .int .i64 p2_7] 27)) (w.heap.size + 1) 27 #[.int .i64 p2_0, .int .i64 p2_1, .int .i64 p2_2, .slice A2_3 n2_3 c2_3, .slice A2_4 n2_4 c2_4, .slice A2_5 n2_5 c2_5, .slice A2_6 n2_6 c2_6, .int .i64 p2_7] := by simpa using box_new (w.alloc (.cells #[.int .i64 p1_0, .int .i64 p1_1, .int .i64 p1_2, .slice A1_3 n1_3 c1_3, .slice A1_4 n1_4 c1_4, .slice A1_5 n1_5 c1_5, .slice A1_6 n1_6 c1_6, .int .i64 p1_7, .slice A1_8 n1_8 c1_8] 41)) 27 #[.int .i64 p2_0, .int .i64 p2_1, .int .i64 p2_2, .slice A2_3 n2_3 c2_3, .slice A2_4 n2_4 c2_4, .slice A2_5 n2_5 c2_5, .slice A2_6 n2_6 c2_6, .int .i64 p2_7]
  go_enter Tryz.func4, Tryz.ntmps4
  have xKB1_0 : ((w.alloc (.cells #[.int .i64 p1_0, .int .i64 p1_1, .int .i64 p1_2, .slice A1_3 n1_3 c1_3, .slice A1_4 n1_4 c1_4, .slice A1_5 n1_5 c1_5, .slice A1_6 n1_6 c1_6, .int .i64 p1_7, .slice A1_8 n1_8 c1_8] 41)).alloc (.cells #[.int .i64 p2_0, .int .i64 p2_1, .int .i64 p2_2, .slice A2_3 n2_3 c2_3, .slice A2_4 n2_4 c2_4, .slice A2_5 n2_5 c2_5, .slice A2_6 n2_6 c2_6, .int .i64 p2_7] 27)).cell? ⟨w.heap.size, 0, none⟩ = some (.int .i64 p1_0) := KB1.at_ rfl
  have xKB1_1 : ((w.alloc (.cells #[.int .i64 p1_0, .int .i64 p1_1, .int .i64 p1_2, .slice A1_3 n1_3 c1_3, .slice A1_4 n1_4 c1_4, .slice A1_5 n1_5 c1_5, .slice A1_6 n1_6 c1_6, .int .i64 p1_7, .slice A1_8 n1_8 c1_8] 41)).alloc (.cells #[.int .i64 p2_0, .int .i64 p2_1, .int .i64 p2_2, .slice A2_3 n2_3 c2_3, .slice A2_4 n2_4 c2_4, .slice A2_5 n2_5 c2_5, .slice A2_6 n2_6 c2_6, .int .i64 p2_7] 27)).cell? ⟨w.heap.size, 1, none⟩ = some (.int .i64 p1_1) := KB1.at_ rfl
  have xKB1_2 : ((w.alloc (.cells #[.int .i64 p1_0, .int .i64 p1_1, .int .i64 p1_2, .slice A1_3 n1_3 c1_3, .slice A1_4 n1_4 c1_4, .slice A1_5 n1_5 c1_5, .slice A1_6 n1_6 c1_6, .int .i64 p1_7, .slice A1_8 n1_8 c1_8] 41)).alloc (.cells #[.int .i64 p2_0, .int .i64 p2_1, .int .i64 p2_2, .slice A2_3 n2_3 c2_3, .slice A2_4 n2_4 c2_4, .slice A2_5 n2_5 c2_5, .slice A2_6 n2_6 c2_6, .int .i64 p2_7] 27)).cell? ⟨w.heap.size, 2, none⟩ = some (.int .i64 p1_2) := KB1.at_ rfl
  have xKB1_3 : ((w.alloc (.cells #[.int .i64 p1_0, .int .i64 p1_1, .int .i64 p1_2, .slice A1_3 n1_3 c1_3, .slice A1_4 n1_4 c1_4, .slice A1_5 n1_5 c1_5, .slice A1_6 n1_6 c1_6, .int .i64 p1_7, .slice A1_8 n1_8 c1_8] 41)).alloc (.cells #[.int .i64 p2_0, .int .i64 p2_1, .int .i64 p2_2, .slice A2_3 n2_3 c2_3, .slice A2_4 n2_4 c2_4, .slice A2_5 n2_5 c2_5, .slice A2_6 n2_6 c2_6, .int .i64 p2_7] 27)).cell? ⟨w.heap.size, 3, none⟩ = some (.slice A1_3 n1_3 c1_3) := KB1.at_ rfl
  have xKB1_4 : ((w.alloc (.cells #[.int .i64 p1_0, .int .i64 p1_1, .int .i64 p1_2, .slice A1_3 n1_3 c1_3, .slice A1_4 n1_4 c1_4, .slice A1_5 n1_5 c1_5, .slice A1_6 n1_6 c1_6, .int .i64 p1_7, .slice A1_8 n1_8 c1_8] 41)).alloc (.cells #[.int .i64 p2_0, .int .i64 p2_1, .int .i64 p2_2, .slice A2_3 n2_3 c2_3, .slice A2_4 n2_4 c2_4, .slice A2_5 n2_5 c2_5, .slice A2_6 n2_6 c2_6, .int .i64 p2_7] 27)).cell? ⟨w.heap.size, 4, none⟩ = some (.slice A1_4 n1_4 c1_4) := KB1.at_ rfl
  have xKB1_5 : ((w.alloc (.cells #[.int .i64 p1_0, .int .i64 p1_1, .int .i64 p1_2, .slice A1_3 n1_3 c1_3, .slice A1_4 n1_4 c1_4, .slice A1_5 n1_5 c1_5, .slice A1_6 n1_6 c1_6, .int .i64 p1_7, .slice A1_8 n1_8 c1_8] 41)).alloc (.cells #[.int .i64 p2_0, .int .i64 p2_1, .int .i64 p2_2, .slice A2_3 n2_3 c2_3, .slice A2_4 n2_4 c2_4, .slice A2_5 n2_5 c2_5, .slice A2_6 n2_6 c2_6, .int .i64 p2_7] 27)).cell? ⟨w.heap.size, 5, none⟩ = some (.slice A1_5 n1_5 c1_5) := KB1.at_ rfl
  have xKB1_6 : ((w.alloc (.cells #[.int .i64 p1_0, .int .i64 p1_1, .int .i64 p1_2, .slice A1_3 n1_3 c1_3, .slice A1_4 n1_4 c1_4, .slice A1_5 n1_5 c1_5, .slice A1_6 n1_6 c1_6, .int .i64 p1_7, .slice A1_8 n1_8 c1_8] 41)).alloc (.cells #[.int .i64 p2_0, .int .i64 p2_1, .int .i64 p2_2, .slice A2_3 n2_3 c2_3, .slice A2_4 n2_4 c2_4, .slice A2_5 n2_5 c2_5, .slice A2_6 n2_6 c2_6, .int .i64 p2_7] 27)).cell? ⟨w.heap.size, 6, none⟩ = some (.slice A1_6 n1_6 c1_6) := KB1.at_ rfl
  have xKB1_7 : ((w.alloc (.cells #[.int .i64 p1_0, .int .i64 p1_1, .int .i64 p1_2, .slice A1_3 n1_3 c1_3, .slice A1_4 n1_4 c1_4, .slice A1_5 n1_5 c1_5, .slice A1_6 n1_6 c1_6, .int .i64 p1_7, .slice A1_8 n1_8 c1_8] 41)).alloc (.cells #[.int .i64 p2_0, .int .i64 p2_1, .int .i64 p2_2, .slice A2_3 n2_3 c2_3, .slice A2_4 n2_4 c2_4, .slice A2_5 n2_5 c2_5, .slice A2_6 n2_6 c2_6, .int .i64 p2_7] 27)).cell? ⟨w.heap.size, 7, none⟩ = some (.int .i64 p1_7) := KB1.at_ rfl
  have xKB1_8 : ((w.alloc (.cells #[.int .i64 p1_0, .int .i64 p1_1, .int .i64 p1_2, .slice A1_3 n1_3 c1_3, .slice A1_4 n1_4 c1_4, .slice A1_5 n1_5 c1_5, .slice A1_6 n1_6 c1_6, .int .i64 p1_7, .slice A1_8 n1_8 c1_8] 41)).alloc (.cells #[.int .i64 p2_0, .int .i64 p2_1, .int .i64 p2_2, .slice A2_3 n2_3 c2_3, .slice A2_4 n2_4 c2_4, .slice A2_5 n2_5 c2_5, .slice A2_6 n2_6 c2_6, .int .i64 p2_7] 27)).cell? ⟨w.heap.size, 8, none⟩ = some (.slice A1_8 n1_8 c1_8) := KB1.at_ rfl
  go_wp2_with fail
  refine Calls.mono (szno_snapshot p1_0 p1_1 p1_2 A1_3 n1_3 c1_3 A1_4 n1_4 c1_4 A1_5 n1_5 c1_5 A1_6 n1_6 c1_6 p1_7 A1_8 n1_8 c1_8 (1048576) _ hm1_3 hm1_4 hm1_5 hm1_6 hm1_8 (by omega) (by omega) (by omega)) ?_
  rintro e w1 ⟨rfl, B19⟩
  clear xKB1_0 xKB1_1 xKB1_2 xKB1_3 xKB1_4 xKB1_5 xKB1_6 xKB1_7 xKB1_8
  go_wp2_with fail
  go_ret
  exact ⟨rfl, below_trans G B19 (Nat.le_refl _)⟩

set_option maxRecDepth 100000 in
theorem lifted (os : Os) (started : os.Started) (H : Type) (enc : TypeId × Value → H) :
  ReturnsInHanded {} Tryz.checked os 4 .any (fun w args => (Rows.fnExactCanRollBackSpec.pre enc Tryz.prog Tryz.f4 [] false w args ∧ laidMetH Tryz.prog laidVars w) ∧ sizedMet enc Tryz.prog Tryz.f4 (OpenSpec.ofChange Rows.fnExactCanRollBackSpec) false w args) (Rows.fnExactCanRollBackSpec.post enc Tryz.prog Tryz.f4 false true false false) := by
 refine law_lifted_laid Tryz.func4 (by kernel_rfl) rfl rfl (by kernel_rfl) os started
  (ChangeSpec.witness_shaped (enc := enc) (C := Tryz.checked) (os := os) (X := fun w _ => laidMetH Tryz.prog laidVars w) false (World.laidAll Tryz.prog os laidVars) #[.int .i64 0, .agg #[.int .i64 0, .int .i64 0, .int .i64 0, .slice none 0 0, .slice none 0 0, .slice none 0 0, .slice none 0 0, .int .i64 0, .slice none 0 0], .agg #[.int .i64 0, .int .i64 0, .int .i64 0, .slice none 0 0, .slice none 0 0, .slice none 0 0, .slice none 0 0, .int .i64 0]] 8 (World.laidAll_os _ _ _)
   (World.shaped_of_ZipB (by kernel_rfl) (by kernel_rfl)) (by kernel_rfl) (by kernel_rfl) (by kernel_rfl)
   (by rw [MakeChecks.laidMetH_plain _ _ _ (by kernel_rfl)]; exact laidMet_laidAll _ (by kernel_rfl) (by kernel_rfl))) ?_
 intro W base args ds p hT hval hA hlt
 rw [Tryz.params4] at hA hval
 obtain ⟨v0, vs0, d0, ds0, p0, q0, hargs, rfl, rfl, h0, r0⟩ := trodAll_cons hA
 obtain ⟨v1, vs1, d1, ds1, p1, q1, rfl, rfl, rfl, h1, r1⟩ := trodAll_cons r0
 obtain ⟨v2, vs2, d2, ds2, p2, q2, rfl, rfl, rfl, h2, r2⟩ := trodAll_cons r1
 obtain ⟨rfl, rfl, rfl⟩ := trodAll_nil r2
 obtain rfl : args = #[v0, v1, v2] := by cases args; simp_all
 obtain ⟨a0, rfl, rfl, rfl, wf0⟩ := open_int Tryz.underlying3 (hval 0 3 v0 rfl rfl) h0
 obtain ⟨p1_0, p1_1, p1_2, A1_3, n1_3, c1_3, l1_3, A1_4, n1_4, c1_4, l1_4, A1_5, n1_5, c1_5, l1_5, A1_6, n1_6, c1_6, l1_6, p1_7, A1_8, n1_8, c1_8, l1_8, rfl, wf1_0, wf1_1, wf1_2, m1_3, R1_3, H1_3, m1_4, R1_4, H1_4, m1_5, R1_5, H1_5, m1_6, R1_6, H1_6, wf1_7, m1_8, R1_8, H1_8⟩ := open_snapshot (hval 1 41 v1 rfl rfl) h1 (fun x hx => hlt x (by simp [hx]))
 obtain ⟨p2_0, p2_1, p2_2, A2_3, n2_3, c2_3, l2_3, A2_4, n2_4, c2_4, l2_4, A2_5, n2_5, c2_5, l2_5, A2_6, n2_6, c2_6, l2_6, p2_7, rfl, wf2_0, wf2_1, wf2_2, m2_3, R2_3, H2_3, m2_4, R2_4, H2_4, m2_5, R2_5, H2_5, m2_6, R2_6, H2_6, wf2_7⟩ := open_package (hval 2 27 v2 rfl rfl) h2 (fun x hx => hlt x (by simp [hx]))
 exact ⟨fun _ => ⟨rfl, rfl, rfl⟩, walk a0 p1_0 p1_1 p1_2 l1_3 A1_3 n1_3 c1_3 l1_4 A1_4 n1_4 c1_4 l1_5 A1_5 n1_5 c1_5 l1_6 A1_6 n1_6 c1_6 p1_7 l1_8 A1_8 n1_8 c1_8 p2_0 p2_1 p2_2 l2_3 A2_3 n2_3 c2_3 l2_4 A2_4 n2_4 c2_4 l2_5 A2_5 n2_5 c2_5 l2_6 A2_6 n2_6 c2_6 p2_7 W hT wf0 wf1_0 wf1_1 wf1_2 m1_3 R1_3 H1_3 m1_4 R1_4 H1_4 m1_5 R1_5 H1_5 m1_6 R1_6 H1_6 wf1_7 m1_8 R1_8 H1_8 wf2_0 wf2_1 wf2_2 m2_3 R2_3 H2_3 m2_4 R2_4 H2_4 m2_5 R2_5 H2_5 m2_6 R2_6 H2_6 wf2_7⟩

set_option maxRecDepth 100000 in
set_option maxHeartbeats 8000000 in
theorem closed : joinedFacts Tryz.pinned.checked.prog 4 Tryz.f4 Rows.fnExactCanRollBackSpec Rows.fnExactCanRollBackRow = true :=
 (and_i (and_i (and_i (and_i (and_i (and_i (and_i (and_i (and_i (and_i (and_i (and_i (and_i (and_i (and_i (and_i (and_i (and_i (and_i (and_i (and_i (and_i (and_i (and_i (and_i (and_i (and_i (and_i (and_i (and_i (and_i (by as_aux_lemma => kernel_rfl) seatLaid) sf_maps) (by as_aux_lemma => kernel_rfl)) (by as_aux_lemma => kernel_rfl)) (by as_aux_lemma => kernel_rfl)) (by as_aux_lemma => kernel_rfl)) (by as_aux_lemma => kernel_rfl)) (by as_aux_lemma => kernel_rfl)) (by as_aux_lemma => kernel_rfl)) (by as_aux_lemma => kernel_rfl)) (by as_aux_lemma => kernel_rfl)) (by as_aux_lemma => kernel_rfl)) (by as_aux_lemma => kernel_rfl)) (by as_aux_lemma => kernel_rfl)) (by as_aux_lemma => kernel_rfl)) (by as_aux_lemma => kernel_rfl)) (by as_aux_lemma => kernel_rfl)) (by as_aux_lemma => kernel_rfl)) (by as_aux_lemma => kernel_rfl)) (by as_aux_lemma => kernel_rfl)) (by as_aux_lemma => kernel_rfl)) sf_plain) (by as_aux_lemma => kernel_rfl)) sf_heard) sf_enter) sf_lifts) sf_make) (by as_aux_lemma => kernel_rfl)) (by as_aux_lemma => kernel_rfl)) (by as_aux_lemma => kernel_rfl)) (by as_aux_lemma => kernel_rfl))

theorem over : Rows.fnExactCanRollBackRow.holds Tryz.pinned (OpenSpec.ofChange Rows.fnExactCanRollBackSpec) :=
 OpenClaim.holds_of_wide 4 Tryz.f4 rfl rfl rfl rfl rfl rfl rfl ⟨rfl, rfl, rfl, rfl, rfl⟩ rfl rfl rfl rfl rfl (by kernel_rfl) Tryz.func4 closed
  (of_decide_eq_true (by kernel_rfl)) (by unfold Func.isWrapper; first | (rw [if_pos (by decide +kernel)]; kernel_rfl) | (rw [if_neg (by decide +kernel)]; exact ⟨rfl, rfl⟩))
  (fun os started H enc _ => lifted os started H enc)

theorem proved : Rows.FnExactCanRollBackCardSaid :=
 Claim7.holds_tied_plain_at .later [] [.sentinel] true Rows.fnExactCanRollBackCard.stood.harness true over (fun _ h => by cases h) (by kernel_rfl) (fun _ h => by cases h) fnExactCanRollBack_row_tie rfl ⟨rfl, rfl⟩ (by kernel_rfl) rfl
  (fun f fn hf hfn => by
   obtain rfl : f = 4 := Option.some.inj ((show Tryz.prog.funcNamed "loop.example/g03001/laws.FnExactCanRollBack" = some 4 by kernel_rfl).symm.trans hf) |>.symm
   obtain rfl : fn = Tryz.f4 := (Option.some.inj (Tryz.func4.symm.trans hfn)).symm
   exact ⟨by kernel_rfl, fun j t ht => by
    rw [Tryz.params4] at ht
    have hm : t ∈ [3, 41, 27] := by simpa using Array.mem_of_getElem? ht
    have hall : ([3, 41, 27].all fun u => !Tryz.prog.wantsStandIn u) = true := by kernel_rfl
    exact (show Tryz.prog.wantsStandIn t = false by simpa using List.all_eq_true.1 hall t hm)⟩)
  (by kernel_rfl)
#print axioms proved
end Go.Proofs.YtkedacmpmancbaaGreatDoor.fnExactCanRollBack
