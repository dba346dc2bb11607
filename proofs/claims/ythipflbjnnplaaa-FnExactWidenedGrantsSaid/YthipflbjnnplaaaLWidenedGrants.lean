/- The law FnExactWidenedGrants answers true for every argument, and leaves each argument as it was. No condition. -/
import Derived.Deep.RegionHeld3
import Derived.Deep.DeepCutAuto
import Derived.Test.YthipflbjnnplaaaFacts
import Derived.Test.YthipflbjnnplaaaRPackage
import Derived.Test.YthipflbjnnplaaaTGrant
import Derived.Test.YthipflbjnnplaaaWGr
namespace Go.Proofs.Ythipflbjnnplaaa.fnExactWidenedGrants
open Go Go.ChangeShapes Go.WideShapes Go.ChangeAt Go.RowKit Go.Lib
open Go.ChangeMaps (open_string)
set_option linter.unusedVariables false
set_option linter.unusedSimpArgs false
set_option maxRecDepth 100000

set_option maxRecDepth 100000 in
set_option maxHeartbeats 20000000 in
theorem walk (p0_0 : Int) (p0_1 : Int) (p0_2 : Int) (l0_3 : List TGrant) (A0_3 : Option Addr) (n0_3 c0_3 : Nat) (l0_4 : List TFlow) (A0_4 : Option Addr) (n0_4 c0_4 : Nat) (l0_5 : List TRule) (A0_5 : Option Addr) (n0_5 c0_5 : Nat) (l0_6 : List TOp) (A0_6 : Option Addr) (n0_6 c0_6 : Nat) (p0_7 : Int) (p1_0 : Int) (p1_1 : Int) (p1_2 : Int) (l1_3 : List TGrant) (A1_3 : Option Addr) (n1_3 c1_3 : Nat) (l1_4 : List TFlow) (A1_4 : Option Addr) (n1_4 c1_4 : Nat) (l1_5 : List TRule) (A1_5 : Option Addr) (n1_5 c1_5 : Nat) (l1_6 : List TOp) (A1_6 : Option Addr) (n1_6 c1_6 : Nat) (p1_7 : Int) (w : World) (wf0_0 : (Lit.int .i64 p0_0).wf = true) (wf0_1 : (Lit.int .i64 p0_1).wf = true) (wf0_2 : (Lit.int .i64 p0_2).wf = true) (hm0_3 : n0_3 ≤ maxLen) (R0_3 : Rd w 0 w.heap.size 7 A0_3 n0_3 (cGrant l0_3)) (H0_3 : Hid (cGrantOk l0_3)) (hm0_4 : n0_4 ≤ maxLen) (R0_4 : Rd w 0 w.heap.size 3 A0_4 n0_4 (cFlow l0_4)) (H0_4 : Hid (cFlowOk l0_4)) (hm0_5 : n0_5 ≤ maxLen) (R0_5 : Rd w 0 w.heap.size 8 A0_5 n0_5 (cRule l0_5)) (H0_5 : Hid (cRuleOk l0_5)) (hm0_6 : n0_6 ≤ maxLen) (R0_6 : Rd w 0 w.heap.size 4 A0_6 n0_6 (cOp l0_6)) (H0_6 : Hid (cOpOk l0_6)) (wf0_7 : (Lit.int .i64 p0_7).wf = true) (wf1_0 : (Lit.int .i64 p1_0).wf = true) (wf1_1 : (Lit.int .i64 p1_1).wf = true) (wf1_2 : (Lit.int .i64 p1_2).wf = true) (hm1_3 : n1_3 ≤ maxLen) (R1_3 : Rd w 0 w.heap.size 7 A1_3 n1_3 (cGrant l1_3)) (H1_3 : Hid (cGrantOk l1_3)) (hm1_4 : n1_4 ≤ maxLen) (R1_4 : Rd w 0 w.heap.size 3 A1_4 n1_4 (cFlow l1_4)) (H1_4 : Hid (cFlowOk l1_4)) (hm1_5 : n1_5 ≤ maxLen) (R1_5 : Rd w 0 w.heap.size 8 A1_5 n1_5 (cRule l1_5)) (H1_5 : Hid (cRuleOk l1_5)) (hm1_6 : n1_6 ≤ maxLen) (R1_6 : Rd w 0 w.heap.size 4 A1_6 n1_6 (cOp l1_6)) (H1_6 : Hid (cOpOk l1_6)) (wf1_7 : (Lit.int .i64 p1_7).wf = true) :
    Calls Try.prog 5 #[.agg #[.int .i64 p0_0, .int .i64 p0_1, .int .i64 p0_2, .slice A0_3 n0_3 c0_3, .slice A0_4 n0_4 c0_4, .slice A0_5 n0_5 c0_5, .slice A0_6 n0_6 c0_6, .int .i64 p0_7], .agg #[.int .i64 p1_0, .int .i64 p1_1, .int .i64 p1_2, .slice A1_3 n1_3 c1_3, .slice A1_4 n1_4 c1_4, .slice A1_5 n1_5 c1_5, .slice A1_6 n1_6 c1_6, .int .i64 p1_7]] w fun e w' => e = .returned (.bool true) ∧ Below w.heap.size w w' := by
  have hm0_3 : n0_3 ≤ 9223372036854775807 := hm0_3
  have hm0_4 : n0_4 ≤ 9223372036854775807 := hm0_4
  have hm0_5 : n0_5 ≤ 9223372036854775807 := hm0_5
  have hm0_6 : n0_6 ≤ 9223372036854775807 := hm0_6
  have hm1_3 : n1_3 ≤ 9223372036854775807 := hm1_3
  have hm1_4 : n1_4 ≤ 9223372036854775807 := hm1_4
  have hm1_5 : n1_5 ≤ 9223372036854775807 := hm1_5
  have hm1_6 : n1_6 ≤ 9223372036854775807 := hm1_6
  have Wf0_0 := Lib.hid wf0_0
  clear wf0_0
  have Wf0_1 := Lib.hid wf0_1
  clear wf0_1
  have Wf0_2 := Lib.hid wf0_2
  clear wf0_2
  have Wf0_7 := Lib.hid wf0_7
  clear wf0_7
  have Wf1_0 := Lib.hid wf1_0
  clear wf1_0
  have Wf1_1 := Lib.hid wf1_1
  clear wf1_1
  have Wf1_2 := Lib.hid wf1_2
  clear wf1_2
  have Wf1_7 := Lib.hid wf1_7
  clear wf1_7
  by_cases hz0 : n0_3 + n0_4 + n0_5 + n0_6 ≤ 1048576
  · skip
    by_cases hz1 : n0_3 + n0_4 + n0_5 + n0_6 + n1_3 + n1_4 + n1_5 + n1_6 ≤ 1048576
    · skip
      have hl0 : ((l1_3.filter fun x => !(l0_3.any (mWithin x)))).length ≤ 1073741823 := by (have := rd_len TGrant.len R1_3 (by decide); have := List.length_filter_le (fun x => !(l0_3.any (mWithin x))) l1_3; omega)
      have hqn0_3 : n0_3 ≤ 17179869184 := by omega
      have hqn0_4 : n0_4 ≤ 17179869184 := by omega
      have hqn0_5 : n0_5 ≤ 17179869184 := by omega
      have hqn0_6 : n0_6 ≤ 17179869184 := by omega
      have hqn1_3 : n1_3 ≤ 17179869184 := by omega
      have hqn1_4 : n1_4 ≤ 17179869184 := by omega
      have hqn1_5 : n1_5 ≤ 17179869184 := by omega
      have hqn1_6 : n1_6 ≤ 17179869184 := by omega
      have G : Below w.heap.size w ((w.alloc (.cells #[.int .i64 p0_0, .int .i64 p0_1, .int .i64 p0_2, .slice A0_3 n0_3 c0_3, .slice A0_4 n0_4 c0_4, .slice A0_5 n0_5 c0_5, .slice A0_6 n0_6 c0_6, .int .i64 p0_7] 27)).alloc (.cells #[.int .i64 p1_0, .int .i64 p1_1, .int .i64 p1_2, .slice A1_3 n1_3 c1_3, .slice A1_4 n1_4 c1_4, .slice A1_5 n1_5 c1_5, .slice A1_6 n1_6 c1_6, .int .i64 p1_7] 27)) := ((Below.refl _ _).alloc (by simp) _).alloc (by simp) _
      have S0 := Lib.hid (show ((w.alloc (.cells #[.int .i64 p0_0, .int .i64 p0_1, .int .i64 p0_2, .slice A0_3 n0_3 c0_3, .slice A0_4 n0_4 c0_4, .slice A0_5 n0_5 c0_5, .slice A0_6 n0_6 c0_6, .int .i64 p0_7] 27)).alloc (.cells #[.int .i64 p1_0, .int .i64 p1_1, .int .i64 p1_2, .slice A1_3 n1_3 c1_3, .slice A1_4 n1_4 c1_4, .slice A1_5 n1_5 c1_5, .slice A1_6 n1_6 c1_6, .int .i64 p1_7] 27)).heap.size = w.heap.size + 2 by simp)
      replace R0_3 := R0_3.alloc (.cells #[.int .i64 p0_0, .int .i64 p0_1, .int .i64 p0_2, .slice A0_3 n0_3 c0_3, .slice A0_4 n0_4 c0_4, .slice A0_5 n0_5 c0_5, .slice A0_6 n0_6 c0_6, .int .i64 p0_7] 27)
      replace R0_4 := R0_4.alloc (.cells #[.int .i64 p0_0, .int .i64 p0_1, .int .i64 p0_2, .slice A0_3 n0_3 c0_3, .slice A0_4 n0_4 c0_4, .slice A0_5 n0_5 c0_5, .slice A0_6 n0_6 c0_6, .int .i64 p0_7] 27)
      replace R0_5 := R0_5.alloc (.cells #[.int .i64 p0_0, .int .i64 p0_1, .int .i64 p0_2, .slice A0_3 n0_3 c0_3, .slice A0_4 n0_4 c0_4, .slice A0_5 n0_5 c0_5, .slice A0_6 n0_6 c0_6, .int .i64 p0_7] 27)
      replace R0_6 := R0_6.alloc (.cells #[.int .i64 p0_0, .int .i64 p0_1, .int .i64 p0_2, .slice A0_3 n0_3 c0_3, .slice A0_4 n0_4 c0_4, .slice A0_5 n0_5 c0_5, .slice A0_6 n0_6 c0_6, .int .i64 p0_7] 27)
      replace R1_3 := R1_3.alloc (.cells #[.int .i64 p0_0, .int .i64 p0_1, .int .i64 p0_2, .slice A0_3 n0_3 c0_3, .slice A0_4 n0_4 c0_4, .slice A0_5 n0_5 c0_5, .slice A0_6 n0_6 c0_6, .int .i64 p0_7] 27)
      replace R1_4 := R1_4.alloc (.cells #[.int .i64 p0_0, .int .i64 p0_1, .int .i64 p0_2, .slice A0_3 n0_3 c0_3, .slice A0_4 n0_4 c0_4, .slice A0_5 n0_5 c0_5, .slice A0_6 n0_6 c0_6, .int .i64 p0_7] 27)
      replace R1_5 := R1_5.alloc (.cells #[.int .i64 p0_0, .int .i64 p0_1, .int .i64 p0_2, .slice A0_3 n0_3 c0_3, .slice A0_4 n0_4 c0_4, .slice A0_5 n0_5 c0_5, .slice A0_6 n0_6 c0_6, .int .i64 p0_7] 27)
      replace R1_6 := R1_6.alloc (.cells #[.int .i64 p0_0, .int .i64 p0_1, .int .i64 p0_2, .slice A0_3 n0_3 c0_3, .slice A0_4 n0_4 c0_4, .slice A0_5 n0_5 c0_5, .slice A0_6 n0_6 c0_6, .int .i64 p0_7] 27)
      have KB0 : BoxAt (w.alloc (.cells #[.int .i64 p0_0, .int .i64 p0_1, .int .i64 p0_2, .slice A0_3 n0_3 c0_3, .slice A0_4 n0_4 c0_4, .slice A0_5 n0_5 c0_5, .slice A0_6 n0_6 c0_6, .int .i64 p0_7] 27)) (w.heap.size) 27 #[.int .i64 p0_0, .int .i64 p0_1, .int .i64 p0_2, .slice A0_3 n0_3 c0_3, .slice A0_4 n0_4 c0_4, .slice A0_5 n0_5 c0_5, .slice A0_6 n0_6 c0_6, .int .i64 p0_7] := box_new _ _ _
      replace R0_3 := R0_3.alloc (.cells #[.int .i64 p1_0, .int .i64 p1_1, .int .i64 p1_2, .slice A1_3 n1_3 c1_3, .slice A1_4 n1_4 c1_4, .slice A1_5 n1_5 c1_5, .slice A1_6 n1_6 c1_6, .int .i64 p1_7] 27)
      replace R0_4 := R0_4.alloc (.cells #[.int .i64 p1_0, .int .i64 p1_1, .int .i64 p1_2, .slice A1_3 n1_3 c1_3, .slice A1_4 n1_4 c1_4, .slice A1_5 n1_5 c1_5, .slice A1_6 n1_6 c1_6, .int .i64 p1_7] 27)
      replace R0_5 := R0_5.alloc (.cells #[.int .i64 p1_0, .int .i64 p1_1, .int .i64 p1_2, .slice A1_3 n1_3 c1_3, .slice A1_4 n1_4 c1_4, .slice A1_5 n1_5 c1_5, .slice A1_6 n1_6 c1_6, .int .i64 p1_7] 27)
      replace R0_6 := R0_6.alloc (.cells #[.int .i64 p1_0, .int .i64 p1_1, .int .i64 p1_2, .slice A1_3 n1_3 c1_3, .slice A1_4 n1_4 c1_4, .slice A1_5 n1_5 c1_5, .slice A1_6 n1_6 c1_6, .int .i64 p1_7] 27)
      replace R1_3 := R1_3.alloc (.cells #[.int .i64 p1_0, .int .i64 p1_1, .int .i64 p1_2, .slice A1_3 n1_3 c1_3, .slice A1_4 n1_4 c1_4, .slice A1_5 n1_5 c1_5, .slice A1_6 n1_6 c1_6, .int .i64 p1_7] 27)
      replace R1_4 := R1_4.alloc (.cells #[.int .i64 p1_0, .int .i64 p1_1, .int .i64 p1_2, .slice A1_3 n1_3 c1_3, .slice A1_4 n1_4 c1_4, .slice A1_5 n1_5 c1_5, .slice A1_6 n1_6 c1_6, .int .i64 p1_7] 27)
      replace R1_5 := R1_5.alloc (.cells #[.int .i64 p1_0, .int .i64 p1_1, .int .i64 p1_2, .slice A1_3 n1_3 c1_3, .slice A1_4 n1_4 c1_4, .slice A1_5 n1_5 c1_5, .slice A1_6 n1_6 c1_6, .int .i64 p1_7] 27)
      replace R1_6 := R1_6.alloc (.cells #[.int .i64 p1_0, .int .i64 p1_1, .int .i64 p1_2, .slice A1_3 n1_3 c1_3, .slice A1_4 n1_4 c1_4, .slice A1_5 n1_5 c1_5, .slice A1_6 n1_6 c1_6, .int .i64 p1_7] 27)
      replace KB0 := KB0.alloc_ (.cells #[.int .i64 p1_0, .int .i64 p1_1, .int .i64 p1_2, .slice A1_3 n1_3 c1_3, .slice A1_4 n1_4 c1_4, .slice A1_5 n1_5 c1_5, .slice A1_6 n1_6 c1_6, .int .i64 p1_7] 27)
      have KB1 : BoxAt ((w.alloc (.cells #[.int .i64 p0_0, .int .i64 p0_1, .int .i64 p0_2, .slice A0_3 n0_3 c0_3, .slice A0_4 n0_4 c0_4, .slice A0_5 n0_5 c0_5, .slice A0_6 n0_6 c0_6, .int .i64 p0_7] 27)).alloc (.cells #[.int .i64 p1_0, .int .i64 p1_1, .int .i64 p1_2, .slice A1_3 n1_3 c1_3, .slice A1_4 n1_4 c1_4, .slice A1_5 n1_5 c1_5, .slice A1_6 n1_6 c1_6, .int .i64 p1_7] 27)) (w.heap.size + 1) 27 #[.int .i64 p1_0, .int .i64 p1_1, .int .i64 p1_2, .slice A1_3 n1_3 c1_3, .slice A1_4 n1_4 c1_4, .slice A1_5 n1_5 c1_5, .slice A1_6 n1_6 c1_6, .int .i64 p1_7] := by simpa using box_new (w.alloc (.cells #[.int .i64 p0_0, .int .i64 p0_1, .int .i64 p0_2, .slice A0_3 n0_3 c0_3, .slice A0_4 n0_4 c0_4, .slice A0_5 n0_5 c0_5, .slice A0_6 n0_6 c0_6, .int .i64 p0_7] 27)) 27 #[.int .i64 p1_0, .int .i64 p1_1, .int .i64 p1_2, .slice A1_3 n1_3 c1_3, .slice A1_4 n1_4 c1_4, .slice A1_5 n1_5 c1_5, .slice A1_6 n1_6 c1_6, .int .i64 p1_7]
      go_enter Try.func5, Try.ntmps5
      have xKB0_0 : ((w.alloc (.cells #[.int .i64 p0_0, .int .i64 p0_1, .int .i64 p0_2, .slice A0_3 n0_3 c0_3, .slice A0_4 n0_4 c0_4, .slice A0_5 n0_5 c0_5, .slice A0_6 n0_6 c0_6, .int .i64 p0_7] 27)).alloc (.cells #[.int .i64 p1_0, .int .i64 p1_1, .int .i64 p1_2, .slice A1_3 n1_3 c1_3, .slice A1_4 n1_4 c1_4, .slice A1_5 n1_5 c1_5, .slice A1_6 n1_6 c1_6, .int .i64 p1_7] 27)).cell? ⟨w.heap.size, 0, none⟩ = some (.int .i64 p0_0) := KB0.at_ rfl
      have xKB0_1 : ((w.alloc (.cells #[.int .i64 p0_0, .int .i64 p0_1, .int .i64 p0_2, .slice A0_3 n0_3 c0_3, .slice A0_4 n0_4 c0_4, .slice A0_5 n0_5 c0_5, .slice A0_6 n0_6 c0_6, .int .i64 p0_7] 27)).alloc (.cells #[.int .i64 p1_0, .int .i64 p1_1, .int .i64 p1_2, .slice A1_3 n1_3 c1_3, .slice A1_4 n1_4 c1_4, .slice A1_5 n1_5 c1_5, .slice A1_6 n1_6 c1_6, .int .i64 p1_7] 27)).cell? ⟨w.heap.size, 1, none⟩ = some (.int .i64 p0_1) := KB0.at_ rfl
      have xKB0_2 : ((w.alloc (.cells #[.int .i64 p0_0, .int .i64 p0_1, .int .i64 p0_2, .slice A0_3 n0_3 c0_3, .slice A0_4 n0_4 c0_4, .slice A0_5 n0_5 c0_5, .slice A0_6 n0_6 c0_6, .int .i64 p0_7] 27)).alloc (.cells #[.int .i64 p1_0, .int .i64 p1_1, .int .i64 p1_2, .slice A1_3 n1_3 c1_3, .slice A1_4 n1_4 c1_4, .slice A1_5 n1_5 c1_5, .slice A1_6 n1_6 c1_6, .int .i64 p1_7] 27)).cell? ⟨w.heap.size, 2, none⟩ = some (.int .i64 p0_2) := KB0.at_ rfl
      have xKB0_3 : ((w.alloc (.cells #[.int .i64 p0_0, .int .i64 p0_1, .int .i64 p0_2, .slice A0_3 n0_3 c0_3, .slice A0_4 n0_4 c0_4, .slice A0_5 n0_5 c0_5, .slice A0_6 n0_6 c0_6, .int .i64 p0_7] 27)).alloc (.cells #[.int .i64 p1_0, .int .i64 p1_1, .int .i64 p1_2, .slice A1_3 n1_3 c1_3, .slice A1_4 n1_4 c1_4, .slice A1_5 n1_5 c1_5, .slice A1_6 n1_6 c1_6, .int .i64 p1_7] 27)).cell? ⟨w.heap.size, 3, none⟩ = some (.slice A0_3 n0_3 c0_3) := KB0.at_ rfl
      have xKB0_4 : ((w.alloc (.cells #[.int .i64 p0_0, .int .i64 p0_1, .int .i64 p0_2, .slice A0_3 n0_3 c0_3, .slice A0_4 n0_4 c0_4, .slice A0_5 n0_5 c0_5, .slice A0_6 n0_6 c0_6, .int .i64 p0_7] 27)).alloc (.cells #[.int .i64 p1_0, .int .i64 p1_1, .int .i64 p1_2, .slice A1_3 n1_3 c1_3, .slice A1_4 n1_4 c1_4, .slice A1_5 n1_5 c1_5, .slice A1_6 n1_6 c1_6, .int .i64 p1_7] 27)).cell? ⟨w.heap.size, 4, none⟩ = some (.slice A0_4 n0_4 c0_4) := KB0.at_ rfl
      have xKB0_5 : ((w.alloc (.cells #[.int .i64 p0_0, .int .i64 p0_1, .int .i64 p0_2, .slice A0_3 n0_3 c0_3, .slice A0_4 n0_4 c0_4, .slice A0_5 n0_5 c0_5, .slice A0_6 n0_6 c0_6, .int .i64 p0_7] 27)).alloc (.cells #[.int .i64 p1_0, .int .i64 p1_1, .int .i64 p1_2, .slice A1_3 n1_3 c1_3, .slice A1_4 n1_4 c1_4, .slice A1_5 n1_5 c1_5, .slice A1_6 n1_6 c1_6, .int .i64 p1_7] 27)).cell? ⟨w.heap.size, 5, none⟩ = some (.slice A0_5 n0_5 c0_5) := KB0.at_ rfl
      have xKB0_6 : ((w.alloc (.cells #[.int .i64 p0_0, .int .i64 p0_1, .int .i64 p0_2, .slice A0_3 n0_3 c0_3, .slice A0_4 n0_4 c0_4, .slice A0_5 n0_5 c0_5, .slice A0_6 n0_6 c0_6, .int .i64 p0_7] 27)).alloc (.cells #[.int .i64 p1_0, .int .i64 p1_1, .int .i64 p1_2, .slice A1_3 n1_3 c1_3, .slice A1_4 n1_4 c1_4, .slice A1_5 n1_5 c1_5, .slice A1_6 n1_6 c1_6, .int .i64 p1_7] 27)).cell? ⟨w.heap.size, 6, none⟩ = some (.slice A0_6 n0_6 c0_6) := KB0.at_ rfl
      have xKB0_7 : ((w.alloc (.cells #[.int .i64 p0_0, .int .i64 p0_1, .int .i64 p0_2, .slice A0_3 n0_3 c0_3, .slice A0_4 n0_4 c0_4, .slice A0_5 n0_5 c0_5, .slice A0_6 n0_6 c0_6, .int .i64 p0_7] 27)).alloc (.cells #[.int .i64 p1_0, .int .i64 p1_1, .int .i64 p1_2, .slice A1_3 n1_3 c1_3, .slice A1_4 n1_4 c1_4, .slice A1_5 n1_5 c1_5, .slice A1_6 n1_6 c1_6, .int .i64 p1_7] 27)).cell? ⟨w.heap.size, 7, none⟩ = some (.int .i64 p0_7) := KB0.at_ rfl
      go_wp2_with fail
      refine Calls.mono (sz_package p0_0 p0_1 p0_2 A0_3 n0_3 c0_3 A0_4 n0_4 c0_4 A0_5 n0_5 c0_5 A0_6 n0_6 c0_6 p0_7 (1048576) _ hm0_3 hm0_4 hm0_5 hm0_6 (by omega) (by omega)) ?_
      rintro e w1 ⟨rfl, B1⟩
      replace R0_3 := (R0_3).new B1
      replace R0_4 := (R0_4).new B1
      replace R0_5 := (R0_5).new B1
      replace R0_6 := (R0_6).new B1
      replace R1_3 := (R1_3).new B1
      replace R1_4 := (R1_4).new B1
      replace R1_5 := (R1_5).new B1
      replace R1_6 := (R1_6).new B1
      replace KB0 := (KB0).new B1
      replace KB1 := (KB1).new B1
      replace G := below_trans G B1 (Nat.le_refl _)
      have S1 := Lib.hid (show ((w.alloc (.cells #[.int .i64 p0_0, .int .i64 p0_1, .int .i64 p0_2, .slice A0_3 n0_3 c0_3, .slice A0_4 n0_4 c0_4, .slice A0_5 n0_5 c0_5, .slice A0_6 n0_6 c0_6, .int .i64 p0_7] 27)).alloc (.cells #[.int .i64 p1_0, .int .i64 p1_1, .int .i64 p1_2, .slice A1_3 n1_3 c1_3, .slice A1_4 n1_4 c1_4, .slice A1_5 n1_5 c1_5, .slice A1_6 n1_6 c1_6, .int .i64 p1_7] 27)).heap.size + 0 ≤ w1.heap.size by have := B1.size; first | (simpa using this) | ((try simp at this); omega))
      clear B1
      clear xKB0_0 xKB0_1 xKB0_2 xKB0_3 xKB0_4 xKB0_5 xKB0_6 xKB0_7
      have xKB1_0 : w1.cell? ⟨w.heap.size + 1, 0, none⟩ = some (.int .i64 p1_0) := KB1.at_ rfl
      have xKB1_1 : w1.cell? ⟨w.heap.size + 1, 1, none⟩ = some (.int .i64 p1_1) := KB1.at_ rfl
      have xKB1_2 : w1.cell? ⟨w.heap.size + 1, 2, none⟩ = some (.int .i64 p1_2) := KB1.at_ rfl
      have xKB1_3 : w1.cell? ⟨w.heap.size + 1, 3, none⟩ = some (.slice A1_3 n1_3 c1_3) := KB1.at_ rfl
      have xKB1_4 : w1.cell? ⟨w.heap.size + 1, 4, none⟩ = some (.slice A1_4 n1_4 c1_4) := KB1.at_ rfl
      have xKB1_5 : w1.cell? ⟨w.heap.size + 1, 5, none⟩ = some (.slice A1_5 n1_5 c1_5) := KB1.at_ rfl
      have xKB1_6 : w1.cell? ⟨w.heap.size + 1, 6, none⟩ = some (.slice A1_6 n1_6 c1_6) := KB1.at_ rfl
      have xKB1_7 : w1.cell? ⟨w.heap.size + 1, 7, none⟩ = some (.int .i64 p1_7) := KB1.at_ rfl
      go_wp2_with fail
      refine Calls.mono (sz_package p1_0 p1_1 p1_2 A1_3 n1_3 c1_3 A1_4 n1_4 c1_4 A1_5 n1_5 c1_5 A1_6 n1_6 c1_6 p1_7 (1048576 - (n0_3 : Int) - (n0_4 : Int) - (n0_5 : Int) - (n0_6 : Int)) _ hm1_3 hm1_4 hm1_5 hm1_6 (by omega) (by omega)) ?_
      rintro e w2 ⟨rfl, B2⟩
      replace R0_3 := (R0_3).new B2
      replace R0_4 := (R0_4).new B2
      replace R0_5 := (R0_5).new B2
      replace R0_6 := (R0_6).new B2
      replace R1_3 := (R1_3).new B2
      replace R1_4 := (R1_4).new B2
      replace R1_5 := (R1_5).new B2
      replace R1_6 := (R1_6).new B2
      replace KB0 := (KB0).new B2
      replace KB1 := (KB1).new B2
      replace G := below_trans G B2 (Nat.le_refl _)
      have S2 := Lib.hid (show w1.heap.size + 0 ≤ w2.heap.size by have := B2.size; first | (simpa using this) | ((try simp at this); omega))
      clear B2
      clear xKB1_0 xKB1_1 xKB1_2 xKB1_3 xKB1_4 xKB1_5 xKB1_6 xKB1_7
      go_wp2_with fail
      replace G := G.drew
      replace R0_3 := R0_3.drw
      replace R0_4 := R0_4.drw
      replace R0_5 := R0_5.drw
      replace R0_6 := R0_6.drw
      replace R1_3 := R1_3.drw
      replace R1_4 := R1_4.drw
      replace R1_5 := R1_5.drw
      replace R1_6 := R1_6.drw
      replace KB0 := KB0.drw
      replace KB1 := KB1.drw
      go_region_held3 (fun w' => w'.cell? ⟨w.heap.size, 0, none⟩ = some (.int .i64 p0_0) ∧ w'.cell? ⟨w.heap.size, 1, none⟩ = some (.int .i64 p0_1) ∧ w'.cell? ⟨w.heap.size, 2, none⟩ = some (.int .i64 p0_2) ∧ w'.cell? ⟨w.heap.size, 3, none⟩ = some (.slice A0_3 n0_3 c0_3) ∧ w'.cell? ⟨w.heap.size, 4, none⟩ = some (.slice A0_4 n0_4 c0_4) ∧ w'.cell? ⟨w.heap.size, 5, none⟩ = some (.slice A0_5 n0_5 c0_5) ∧ w'.cell? ⟨w.heap.size, 6, none⟩ = some (.slice A0_6 n0_6 c0_6) ∧ w'.cell? ⟨w.heap.size, 7, none⟩ = some (.int .i64 p0_7) ∧ w'.cell? ⟨w.heap.size + 1, 0, none⟩ = some (.int .i64 p1_0) ∧ w'.cell? ⟨w.heap.size + 1, 1, none⟩ = some (.int .i64 p1_1) ∧ w'.cell? ⟨w.heap.size + 1, 2, none⟩ = some (.int .i64 p1_2) ∧ w'.cell? ⟨w.heap.size + 1, 3, none⟩ = some (.slice A1_3 n1_3 c1_3) ∧ w'.cell? ⟨w.heap.size + 1, 4, none⟩ = some (.slice A1_4 n1_4 c1_4) ∧ w'.cell? ⟨w.heap.size + 1, 5, none⟩ = some (.slice A1_5 n1_5 c1_5) ∧ w'.cell? ⟨w.heap.size + 1, 6, none⟩ = some (.slice A1_6 n1_6 c1_6) ∧ w'.cell? ⟨w.heap.size + 1, 7, none⟩ = some (.int .i64 p1_7))
        (exact ⟨KB0.at_ rfl, KB0.at_ rfl, KB0.at_ rfl, KB0.at_ rfl, KB0.at_ rfl, KB0.at_ rfl, KB0.at_ rfl, KB0.at_ rfl, KB1.at_ rfl, KB1.at_ rfl, KB1.at_ rfl, KB1.at_ rfl, KB1.at_ rfl, KB1.at_ rfl, KB1.at_ rfl, KB1.at_ rfl⟩)
        (first
          | (go_at_call 17; (fail_if_success (have hx := B3)); refine Calls.mono (to_package p0_0 p0_1 p0_2 l0_3 A0_3 n0_3 c0_3 _ _ l0_4 A0_4 n0_4 c0_4 _ _ l0_5 A0_5 n0_5 c0_5 _ _ l0_6 A0_6 n0_6 c0_6 _ _ p0_7 _ hqn0_3 R0_3 hqn0_4 R0_4 hqn0_5 R0_5 hqn0_6 R0_6) ?_; rintro e w3 ⟨T3_3, T3_4, T3_5, T3_6, tc3_3, tlo3_3, thi3_3, tc3_4, tlo3_4, thi3_4, tc3_5, tlo3_5, thi3_5, tc3_6, tlo3_6, thi3_6, rfl, FT3_3, FT3_4, FT3_5, FT3_6, MT3, B3⟩; (replace R0_3 := rd_nw B3 R0_3); (replace R0_4 := rd_nw B3 R0_4); (replace R0_5 := rd_nw B3 R0_5); (replace R0_6 := rd_nw B3 R0_6); (replace R1_3 := rd_nw B3 R1_3); (replace R1_4 := rd_nw B3 R1_4); (replace R1_5 := rd_nw B3 R1_5); (replace R1_6 := rd_nw B3 R1_6); (replace KB0 := box_nw B3 KB0); (replace KB1 := box_nw B3 KB1); (replace G := (by first | exact below_trans G B3 (Nat.le_refl _) | exact below_trans G.drew B3 (Nat.le_refl _) | exact below_trans (below_dN G _) B3 (Nat.le_refl _))); (have S3 := Lib.hid (show w2.heap.size ≤ w3.heap.size from B3.size)))
          | (go_at_call 17; (fail_if_success (have hx := B4)); refine Calls.mono (to_package p1_0 p1_1 p1_2 l1_3 A1_3 n1_3 c1_3 _ _ l1_4 A1_4 n1_4 c1_4 _ _ l1_5 A1_5 n1_5 c1_5 _ _ l1_6 A1_6 n1_6 c1_6 _ _ p1_7 _ hqn1_3 R1_3 hqn1_4 R1_4 hqn1_5 R1_5 hqn1_6 R1_6) ?_; rintro e w4 ⟨T4_3, T4_4, T4_5, T4_6, tc4_3, tlo4_3, thi4_3, tc4_4, tlo4_4, thi4_4, tc4_5, tlo4_5, thi4_5, tc4_6, tlo4_6, thi4_6, rfl, FT4_3, FT4_4, FT4_5, FT4_6, MT4, B4⟩; (replace R0_3 := rd_nw B4 R0_3); (replace R0_4 := rd_nw B4 R0_4); (replace R0_5 := rd_nw B4 R0_5); (replace R0_6 := rd_nw B4 R0_6); (replace R1_3 := rd_nw B4 R1_3); (replace R1_4 := rd_nw B4 R1_4); (replace R1_5 := rd_nw B4 R1_5); (replace R1_6 := rd_nw B4 R1_6); (replace KB0 := box_nw B4 KB0); (replace KB1 := box_nw B4 KB1); (replace FT3_3 := fr_nw B4 FT3_3); (replace FT3_4 := fr_nw B4 FT3_4); (replace FT3_5 := fr_nw B4 FT3_5); (replace FT3_6 := fr_nw B4 FT3_6); (replace G := (by first | exact below_trans G B4 (Nat.le_refl _) | exact below_trans G.drew B4 (Nat.le_refl _) | exact below_trans (below_dN G _) B4 (Nat.le_refl _))); (have S4 := Lib.hid (show w3.heap.size ≤ w4.heap.size from B4.size)))
          | (go_at_call 22; (fail_if_success (have hx := B5)); refine Calls.mono (spec_WidenedGrants p0_0 p0_1 p0_2 l0_3 T3_3 n0_3 tc3_3 _ _ l0_4 T3_4 n0_4 tc3_4 _ _ l0_5 T3_5 n0_5 tc3_5 _ _ l0_6 T3_6 n0_6 tc3_6 _ _ p0_7 p1_0 p1_1 p1_2 l1_3 T4_3 n1_3 tc4_3 _ _ l1_4 T4_4 n1_4 tc4_4 _ _ l1_5 T4_5 n1_5 tc4_5 _ _ l1_6 T4_6 n1_6 tc4_6 _ _ p1_7 _ (by omega) FT3_3.rd FT3_3.cap H0_3 (by omega) FT3_4.rd FT3_4.cap H0_4 (by omega) FT3_5.rd FT3_5.cap H0_5 (by omega) FT3_6.rd FT3_6.cap H0_6 (by omega) FT4_3.rd FT4_3.cap H1_3 (by omega) FT4_4.rd FT4_4.cap H1_4 (by omega) FT4_5.rd FT4_5.cap H1_5 (by omega) FT4_6.rd FT4_6.cap H1_6) ?_; rintro e w5 ⟨P5_0, pc5_0, rfl, FP5_0, B5⟩; (replace R0_3 := rd_nw B5 R0_3); (replace R0_4 := rd_nw B5 R0_4); (replace R0_5 := rd_nw B5 R0_5); (replace R0_6 := rd_nw B5 R0_6); (replace R1_3 := rd_nw B5 R1_3); (replace R1_4 := rd_nw B5 R1_4); (replace R1_5 := rd_nw B5 R1_5); (replace R1_6 := rd_nw B5 R1_6); (replace KB0 := box_nw B5 KB0); (replace KB1 := box_nw B5 KB1); (replace FT3_3 := fr_nw B5 FT3_3); (replace FT3_4 := fr_nw B5 FT3_4); (replace FT3_5 := fr_nw B5 FT3_5); (replace FT3_6 := fr_nw B5 FT3_6); (replace FT4_3 := fr_nw B5 FT4_3); (replace FT4_4 := fr_nw B5 FT4_4); (replace FT4_5 := fr_nw B5 FT4_5); (replace FT4_6 := fr_nw B5 FT4_6); (replace G := (by first | exact below_trans G B5 (Nat.le_refl _) | exact below_trans G.drew B5 (Nat.le_refl _) | exact below_trans (below_dN G _) B5 (Nat.le_refl _))); (have S5 := Lib.hid (show w4.heap.size ≤ w5.heap.size from B5.size))))
      clear B3
      clear B4
      clear B5
      clear FT3_3
      clear FT3_4
      clear FT3_5
      clear FT3_6
      clear FT4_3
      clear FT4_4
      clear FT4_5
      clear FT4_6
      have xKB0_0 : w5.cell? ⟨w.heap.size, 0, none⟩ = some (.int .i64 p0_0) := KB0.at_ rfl
      have xKB0_1 : w5.cell? ⟨w.heap.size, 1, none⟩ = some (.int .i64 p0_1) := KB0.at_ rfl
      have xKB0_2 : w5.cell? ⟨w.heap.size, 2, none⟩ = some (.int .i64 p0_2) := KB0.at_ rfl
      have xKB0_3 : w5.cell? ⟨w.heap.size, 3, none⟩ = some (.slice A0_3 n0_3 c0_3) := KB0.at_ rfl
      have xKB0_4 : w5.cell? ⟨w.heap.size, 4, none⟩ = some (.slice A0_4 n0_4 c0_4) := KB0.at_ rfl
      have xKB0_5 : w5.cell? ⟨w.heap.size, 5, none⟩ = some (.slice A0_5 n0_5 c0_5) := KB0.at_ rfl
      have xKB0_6 : w5.cell? ⟨w.heap.size, 6, none⟩ = some (.slice A0_6 n0_6 c0_6) := KB0.at_ rfl
      have xKB0_7 : w5.cell? ⟨w.heap.size, 7, none⟩ = some (.int .i64 p0_7) := KB0.at_ rfl
      go_wp2_with fail
      refine Calls.mono (to_package p0_0 p0_1 p0_2 l0_3 A0_3 n0_3 c0_3 _ _ l0_4 A0_4 n0_4 c0_4 _ _ l0_5 A0_5 n0_5 c0_5 _ _ l0_6 A0_6 n0_6 c0_6 _ _ p0_7 _ hqn0_3 R0_3 hqn0_4 R0_4 hqn0_5 R0_5 hqn0_6 R0_6) ?_
      rintro e w6 ⟨T6_3, T6_4, T6_5, T6_6, tc6_3, tlo6_3, thi6_3, tc6_4, tlo6_4, thi6_4, tc6_5, tlo6_5, thi6_5, tc6_6, tlo6_6, thi6_6, rfl, FT6_3, FT6_4, FT6_5, FT6_6, MT6, B6⟩
      replace R0_3 := (R0_3).new B6
      replace R0_4 := (R0_4).new B6
      replace R0_5 := (R0_5).new B6
      replace R0_6 := (R0_6).new B6
      replace R1_3 := (R1_3).new B6
      replace R1_4 := (R1_4).new B6
      replace R1_5 := (R1_5).new B6
      replace R1_6 := (R1_6).new B6
      replace KB0 := (KB0).new B6
      replace KB1 := (KB1).new B6
      replace FP5_0 := (FP5_0).new B6
      replace G := below_trans G B6 (Nat.le_refl _)
      have S6 := Lib.hid (show w5.heap.size + 0 ≤ w6.heap.size by have := B6.size; first | (simpa using this) | ((try simp at this); omega))
      clear B6
      clear xKB0_0 xKB0_1 xKB0_2 xKB0_3 xKB0_4 xKB0_5 xKB0_6 xKB0_7
      have SA8 := Lib.hid (show (w6.alloc (.cells #[.int .i64 p0_0, .int .i64 p0_1, .int .i64 p0_2, .slice T6_3 n0_3 tc6_3, .slice T6_4 n0_4 tc6_4, .slice T6_5 n0_5 tc6_5, .slice T6_6 n0_6 tc6_6, .int .i64 p0_7] 35)).heap.size = w6.heap.size + 1 by simp)
      replace R0_3 := R0_3.alloc (.cells #[.int .i64 p0_0, .int .i64 p0_1, .int .i64 p0_2, .slice T6_3 n0_3 tc6_3, .slice T6_4 n0_4 tc6_4, .slice T6_5 n0_5 tc6_5, .slice T6_6 n0_6 tc6_6, .int .i64 p0_7] 35)
      replace R0_4 := R0_4.alloc (.cells #[.int .i64 p0_0, .int .i64 p0_1, .int .i64 p0_2, .slice T6_3 n0_3 tc6_3, .slice T6_4 n0_4 tc6_4, .slice T6_5 n0_5 tc6_5, .slice T6_6 n0_6 tc6_6, .int .i64 p0_7] 35)
      replace R0_5 := R0_5.alloc (.cells #[.int .i64 p0_0, .int .i64 p0_1, .int .i64 p0_2, .slice T6_3 n0_3 tc6_3, .slice T6_4 n0_4 tc6_4, .slice T6_5 n0_5 tc6_5, .slice T6_6 n0_6 tc6_6, .int .i64 p0_7] 35)
      replace R0_6 := R0_6.alloc (.cells #[.int .i64 p0_0, .int .i64 p0_1, .int .i64 p0_2, .slice T6_3 n0_3 tc6_3, .slice T6_4 n0_4 tc6_4, .slice T6_5 n0_5 tc6_5, .slice T6_6 n0_6 tc6_6, .int .i64 p0_7] 35)
      replace R1_3 := R1_3.alloc (.cells #[.int .i64 p0_0, .int .i64 p0_1, .int .i64 p0_2, .slice T6_3 n0_3 tc6_3, .slice T6_4 n0_4 tc6_4, .slice T6_5 n0_5 tc6_5, .slice T6_6 n0_6 tc6_6, .int .i64 p0_7] 35)
      replace R1_4 := R1_4.alloc (.cells #[.int .i64 p0_0, .int .i64 p0_1, .int .i64 p0_2, .slice T6_3 n0_3 tc6_3, .slice T6_4 n0_4 tc6_4, .slice T6_5 n0_5 tc6_5, .slice T6_6 n0_6 tc6_6, .int .i64 p0_7] 35)
      replace R1_5 := R1_5.alloc (.cells #[.int .i64 p0_0, .int .i64 p0_1, .int .i64 p0_2, .slice T6_3 n0_3 tc6_3, .slice T6_4 n0_4 tc6_4, .slice T6_5 n0_5 tc6_5, .slice T6_6 n0_6 tc6_6, .int .i64 p0_7] 35)
      replace R1_6 := R1_6.alloc (.cells #[.int .i64 p0_0, .int .i64 p0_1, .int .i64 p0_2, .slice T6_3 n0_3 tc6_3, .slice T6_4 n0_4 tc6_4, .slice T6_5 n0_5 tc6_5, .slice T6_6 n0_6 tc6_6, .int .i64 p0_7] 35)
      replace KB0 := KB0.alloc_ (.cells #[.int .i64 p0_0, .int .i64 p0_1, .int .i64 p0_2, .slice T6_3 n0_3 tc6_3, .slice T6_4 n0_4 tc6_4, .slice T6_5 n0_5 tc6_5, .slice T6_6 n0_6 tc6_6, .int .i64 p0_7] 35)
      replace KB1 := KB1.alloc_ (.cells #[.int .i64 p0_0, .int .i64 p0_1, .int .i64 p0_2, .slice T6_3 n0_3 tc6_3, .slice T6_4 n0_4 tc6_4, .slice T6_5 n0_5 tc6_5, .slice T6_6 n0_6 tc6_6, .int .i64 p0_7] 35)
      replace FP5_0 := FP5_0.alloc (.cells #[.int .i64 p0_0, .int .i64 p0_1, .int .i64 p0_2, .slice T6_3 n0_3 tc6_3, .slice T6_4 n0_4 tc6_4, .slice T6_5 n0_5 tc6_5, .slice T6_6 n0_6 tc6_6, .int .i64 p0_7] 35)
      replace FT6_3 := FT6_3.alloc (.cells #[.int .i64 p0_0, .int .i64 p0_1, .int .i64 p0_2, .slice T6_3 n0_3 tc6_3, .slice T6_4 n0_4 tc6_4, .slice T6_5 n0_5 tc6_5, .slice T6_6 n0_6 tc6_6, .int .i64 p0_7] 35)
      replace FT6_4 := FT6_4.alloc (.cells #[.int .i64 p0_0, .int .i64 p0_1, .int .i64 p0_2, .slice T6_3 n0_3 tc6_3, .slice T6_4 n0_4 tc6_4, .slice T6_5 n0_5 tc6_5, .slice T6_6 n0_6 tc6_6, .int .i64 p0_7] 35)
      replace FT6_5 := FT6_5.alloc (.cells #[.int .i64 p0_0, .int .i64 p0_1, .int .i64 p0_2, .slice T6_3 n0_3 tc6_3, .slice T6_4 n0_4 tc6_4, .slice T6_5 n0_5 tc6_5, .slice T6_6 n0_6 tc6_6, .int .i64 p0_7] 35)
      replace FT6_6 := FT6_6.alloc (.cells #[.int .i64 p0_0, .int .i64 p0_1, .int .i64 p0_2, .slice T6_3 n0_3 tc6_3, .slice T6_4 n0_4 tc6_4, .slice T6_5 n0_5 tc6_5, .slice T6_6 n0_6 tc6_6, .int .i64 p0_7] 35)
      have KX7 : BoxAt (w6.alloc (.cells #[.int .i64 p0_0, .int .i64 p0_1, .int .i64 p0_2, .slice T6_3 n0_3 tc6_3, .slice T6_4 n0_4 tc6_4, .slice T6_5 n0_5 tc6_5, .slice T6_6 n0_6 tc6_6, .int .i64 p0_7] 35)) (w6.heap.size) 35 #[.int .i64 p0_0, .int .i64 p0_1, .int .i64 p0_2, .slice T6_3 n0_3 tc6_3, .slice T6_4 n0_4 tc6_4, .slice T6_5 n0_5 tc6_5, .slice T6_6 n0_6 tc6_6, .int .i64 p0_7] := box_new _ _ _
      replace G := G.alloc (by have := S0.out; have := S1.out; have := S2.out; have := S3.out; have := S4.out; have := S5.out; have := S6.out; have := SA8.out; have := MT3.out; unfold SepPackage at this; have := MT4.out; unfold SepPackage at this; have := MT6.out; unfold SepPackage at this; first | omega | (simp; omega)) (.cells #[.int .i64 p0_0, .int .i64 p0_1, .int .i64 p0_2, .slice T6_3 n0_3 tc6_3, .slice T6_4 n0_4 tc6_4, .slice T6_5 n0_5 tc6_5, .slice T6_6 n0_6 tc6_6, .int .i64 p0_7] 35)
      have xKB1_0 : (w6.alloc (.cells #[.int .i64 p0_0, .int .i64 p0_1, .int .i64 p0_2, .slice T6_3 n0_3 tc6_3, .slice T6_4 n0_4 tc6_4, .slice T6_5 n0_5 tc6_5, .slice T6_6 n0_6 tc6_6, .int .i64 p0_7] 35)).cell? ⟨w.heap.size + 1, 0, none⟩ = some (.int .i64 p1_0) := KB1.at_ rfl
      have xKB1_1 : (w6.alloc (.cells #[.int .i64 p0_0, .int .i64 p0_1, .int .i64 p0_2, .slice T6_3 n0_3 tc6_3, .slice T6_4 n0_4 tc6_4, .slice T6_5 n0_5 tc6_5, .slice T6_6 n0_6 tc6_6, .int .i64 p0_7] 35)).cell? ⟨w.heap.size + 1, 1, none⟩ = some (.int .i64 p1_1) := KB1.at_ rfl
      have xKB1_2 : (w6.alloc (.cells #[.int .i64 p0_0, .int .i64 p0_1, .int .i64 p0_2, .slice T6_3 n0_3 tc6_3, .slice T6_4 n0_4 tc6_4, .slice T6_5 n0_5 tc6_5, .slice T6_6 n0_6 tc6_6, .int .i64 p0_7] 35)).cell? ⟨w.heap.size + 1, 2, none⟩ = some (.int .i64 p1_2) := KB1.at_ rfl
      have xKB1_3 : (w6.alloc (.cells #[.int .i64 p0_0, .int .i64 p0_1, .int .i64 p0_2, .slice T6_3 n0_3 tc6_3, .slice T6_4 n0_4 tc6_4, .slice T6_5 n0_5 tc6_5, .slice T6_6 n0_6 tc6_6, .int .i64 p0_7] 35)).cell? ⟨w.heap.size + 1, 3, none⟩ = some (.slice A1_3 n1_3 c1_3) := KB1.at_ rfl
      have xKB1_4 : (w6.alloc (.cells #[.int .i64 p0_0, .int .i64 p0_1, .int .i64 p0_2, .slice T6_3 n0_3 tc6_3, .slice T6_4 n0_4 tc6_4, .slice T6_5 n0_5 tc6_5, .slice T6_6 n0_6 tc6_6, .int .i64 p0_7] 35)).cell? ⟨w.heap.size + 1, 4, none⟩ = some (.slice A1_4 n1_4 c1_4) := KB1.at_ rfl
      have xKB1_5 : (w6.alloc (.cells #[.int .i64 p0_0, .int .i64 p0_1, .int .i64 p0_2, .slice T6_3 n0_3 tc6_3, .slice T6_4 n0_4 tc6_4, .slice T6_5 n0_5 tc6_5, .slice T6_6 n0_6 tc6_6, .int .i64 p0_7] 35)).cell? ⟨w.heap.size + 1, 5, none⟩ = some (.slice A1_5 n1_5 c1_5) := KB1.at_ rfl
      have xKB1_6 : (w6.alloc (.cells #[.int .i64 p0_0, .int .i64 p0_1, .int .i64 p0_2, .slice T6_3 n0_3 tc6_3, .slice T6_4 n0_4 tc6_4, .slice T6_5 n0_5 tc6_5, .slice T6_6 n0_6 tc6_6, .int .i64 p0_7] 35)).cell? ⟨w.heap.size + 1, 6, none⟩ = some (.slice A1_6 n1_6 c1_6) := KB1.at_ rfl
      have xKB1_7 : (w6.alloc (.cells #[.int .i64 p0_0, .int .i64 p0_1, .int .i64 p0_2, .slice T6_3 n0_3 tc6_3, .slice T6_4 n0_4 tc6_4, .slice T6_5 n0_5 tc6_5, .slice T6_6 n0_6 tc6_6, .int .i64 p0_7] 35)).cell? ⟨w.heap.size + 1, 7, none⟩ = some (.int .i64 p1_7) := KB1.at_ rfl
      go_wp2_with fail
      refine Calls.mono (to_package p1_0 p1_1 p1_2 l1_3 A1_3 n1_3 c1_3 _ _ l1_4 A1_4 n1_4 c1_4 _ _ l1_5 A1_5 n1_5 c1_5 _ _ l1_6 A1_6 n1_6 c1_6 _ _ p1_7 _ hqn1_3 R1_3 hqn1_4 R1_4 hqn1_5 R1_5 hqn1_6 R1_6) ?_
      rintro e w7 ⟨T9_3, T9_4, T9_5, T9_6, tc9_3, tlo9_3, thi9_3, tc9_4, tlo9_4, thi9_4, tc9_5, tlo9_5, thi9_5, tc9_6, tlo9_6, thi9_6, rfl, FT9_3, FT9_4, FT9_5, FT9_6, MT9, B9⟩
      replace R0_3 := (R0_3).new B9
      replace R0_4 := (R0_4).new B9
      replace R0_5 := (R0_5).new B9
      replace R0_6 := (R0_6).new B9
      replace R1_3 := (R1_3).new B9
      replace R1_4 := (R1_4).new B9
      replace R1_5 := (R1_5).new B9
      replace R1_6 := (R1_6).new B9
      replace KB0 := (KB0).new B9
      replace KB1 := (KB1).new B9
      replace FP5_0 := (FP5_0).new B9
      replace FT6_3 := (FT6_3).new B9
      replace FT6_4 := (FT6_4).new B9
      replace FT6_5 := (FT6_5).new B9
      replace FT6_6 := (FT6_6).new B9
      replace KX7 := (KX7).new B9
      replace G := below_trans G B9 (Nat.le_refl _)
      have S7 := Lib.hid (show (w6.alloc (.cells #[.int .i64 p0_0, .int .i64 p0_1, .int .i64 p0_2, .slice T6_3 n0_3 tc6_3, .slice T6_4 n0_4 tc6_4, .slice T6_5 n0_5 tc6_5, .slice T6_6 n0_6 tc6_6, .int .i64 p0_7] 35)).heap.size + 0 ≤ w7.heap.size by have := B9.size; first | (simpa using this) | ((try simp at this); omega))
      clear B9
      clear xKB1_0 xKB1_1 xKB1_2 xKB1_3 xKB1_4 xKB1_5 xKB1_6 xKB1_7
      have SA11 := Lib.hid (show (w7.alloc (.cells #[.int .i64 p1_0, .int .i64 p1_1, .int .i64 p1_2, .slice T9_3 n1_3 tc9_3, .slice T9_4 n1_4 tc9_4, .slice T9_5 n1_5 tc9_5, .slice T9_6 n1_6 tc9_6, .int .i64 p1_7] 35)).heap.size = w7.heap.size + 1 by simp)
      replace R0_3 := R0_3.alloc (.cells #[.int .i64 p1_0, .int .i64 p1_1, .int .i64 p1_2, .slice T9_3 n1_3 tc9_3, .slice T9_4 n1_4 tc9_4, .slice T9_5 n1_5 tc9_5, .slice T9_6 n1_6 tc9_6, .int .i64 p1_7] 35)
      replace R0_4 := R0_4.alloc (.cells #[.int .i64 p1_0, .int .i64 p1_1, .int .i64 p1_2, .slice T9_3 n1_3 tc9_3, .slice T9_4 n1_4 tc9_4, .slice T9_5 n1_5 tc9_5, .slice T9_6 n1_6 tc9_6, .int .i64 p1_7] 35)
      replace R0_5 := R0_5.alloc (.cells #[.int .i64 p1_0, .int .i64 p1_1, .int .i64 p1_2, .slice T9_3 n1_3 tc9_3, .slice T9_4 n1_4 tc9_4, .slice T9_5 n1_5 tc9_5, .slice T9_6 n1_6 tc9_6, .int .i64 p1_7] 35)
      replace R0_6 := R0_6.alloc (.cells #[.int .i64 p1_0, .int .i64 p1_1, .int .i64 p1_2, .slice T9_3 n1_3 tc9_3, .slice T9_4 n1_4 tc9_4, .slice T9_5 n1_5 tc9_5, .slice T9_6 n1_6 tc9_6, .int .i64 p1_7] 35)
      replace R1_3 := R1_3.alloc (.cells #[.int .i64 p1_0, .int .i64 p1_1, .int .i64 p1_2, .slice T9_3 n1_3 tc9_3, .slice T9_4 n1_4 tc9_4, .slice T9_5 n1_5 tc9_5, .slice T9_6 n1_6 tc9_6, .int .i64 p1_7] 35)
      replace R1_4 := R1_4.alloc (.cells #[.int .i64 p1_0, .int .i64 p1_1, .int .i64 p1_2, .slice T9_3 n1_3 tc9_3, .slice T9_4 n1_4 tc9_4, .slice T9_5 n1_5 tc9_5, .slice T9_6 n1_6 tc9_6, .int .i64 p1_7] 35)
      replace R1_5 := R1_5.alloc (.cells #[.int .i64 p1_0, .int .i64 p1_1, .int .i64 p1_2, .slice T9_3 n1_3 tc9_3, .slice T9_4 n1_4 tc9_4, .slice T9_5 n1_5 tc9_5, .slice T9_6 n1_6 tc9_6, .int .i64 p1_7] 35)
      replace R1_6 := R1_6.alloc (.cells #[.int .i64 p1_0, .int .i64 p1_1, .int .i64 p1_2, .slice T9_3 n1_3 tc9_3, .slice T9_4 n1_4 tc9_4, .slice T9_5 n1_5 tc9_5, .slice T9_6 n1_6 tc9_6, .int .i64 p1_7] 35)
      replace KB0 := KB0.alloc_ (.cells #[.int .i64 p1_0, .int .i64 p1_1, .int .i64 p1_2, .slice T9_3 n1_3 tc9_3, .slice T9_4 n1_4 tc9_4, .slice T9_5 n1_5 tc9_5, .slice T9_6 n1_6 tc9_6, .int .i64 p1_7] 35)
      replace KB1 := KB1.alloc_ (.cells #[.int .i64 p1_0, .int .i64 p1_1, .int .i64 p1_2, .slice T9_3 n1_3 tc9_3, .slice T9_4 n1_4 tc9_4, .slice T9_5 n1_5 tc9_5, .slice T9_6 n1_6 tc9_6, .int .i64 p1_7] 35)
      replace FP5_0 := FP5_0.alloc (.cells #[.int .i64 p1_0, .int .i64 p1_1, .int .i64 p1_2, .slice T9_3 n1_3 tc9_3, .slice T9_4 n1_4 tc9_4, .slice T9_5 n1_5 tc9_5, .slice T9_6 n1_6 tc9_6, .int .i64 p1_7] 35)
      replace FT6_3 := FT6_3.alloc (.cells #[.int .i64 p1_0, .int .i64 p1_1, .int .i64 p1_2, .slice T9_3 n1_3 tc9_3, .slice T9_4 n1_4 tc9_4, .slice T9_5 n1_5 tc9_5, .slice T9_6 n1_6 tc9_6, .int .i64 p1_7] 35)
      replace FT6_4 := FT6_4.alloc (.cells #[.int .i64 p1_0, .int .i64 p1_1, .int .i64 p1_2, .slice T9_3 n1_3 tc9_3, .slice T9_4 n1_4 tc9_4, .slice T9_5 n1_5 tc9_5, .slice T9_6 n1_6 tc9_6, .int .i64 p1_7] 35)
      replace FT6_5 := FT6_5.alloc (.cells #[.int .i64 p1_0, .int .i64 p1_1, .int .i64 p1_2, .slice T9_3 n1_3 tc9_3, .slice T9_4 n1_4 tc9_4, .slice T9_5 n1_5 tc9_5, .slice T9_6 n1_6 tc9_6, .int .i64 p1_7] 35)
      replace FT6_6 := FT6_6.alloc (.cells #[.int .i64 p1_0, .int .i64 p1_1, .int .i64 p1_2, .slice T9_3 n1_3 tc9_3, .slice T9_4 n1_4 tc9_4, .slice T9_5 n1_5 tc9_5, .slice T9_6 n1_6 tc9_6, .int .i64 p1_7] 35)
      replace KX7 := KX7.alloc_ (.cells #[.int .i64 p1_0, .int .i64 p1_1, .int .i64 p1_2, .slice T9_3 n1_3 tc9_3, .slice T9_4 n1_4 tc9_4, .slice T9_5 n1_5 tc9_5, .slice T9_6 n1_6 tc9_6, .int .i64 p1_7] 35)
      replace FT9_3 := FT9_3.alloc (.cells #[.int .i64 p1_0, .int .i64 p1_1, .int .i64 p1_2, .slice T9_3 n1_3 tc9_3, .slice T9_4 n1_4 tc9_4, .slice T9_5 n1_5 tc9_5, .slice T9_6 n1_6 tc9_6, .int .i64 p1_7] 35)
      replace FT9_4 := FT9_4.alloc (.cells #[.int .i64 p1_0, .int .i64 p1_1, .int .i64 p1_2, .slice T9_3 n1_3 tc9_3, .slice T9_4 n1_4 tc9_4, .slice T9_5 n1_5 tc9_5, .slice T9_6 n1_6 tc9_6, .int .i64 p1_7] 35)
      replace FT9_5 := FT9_5.alloc (.cells #[.int .i64 p1_0, .int .i64 p1_1, .int .i64 p1_2, .slice T9_3 n1_3 tc9_3, .slice T9_4 n1_4 tc9_4, .slice T9_5 n1_5 tc9_5, .slice T9_6 n1_6 tc9_6, .int .i64 p1_7] 35)
      replace FT9_6 := FT9_6.alloc (.cells #[.int .i64 p1_0, .int .i64 p1_1, .int .i64 p1_2, .slice T9_3 n1_3 tc9_3, .slice T9_4 n1_4 tc9_4, .slice T9_5 n1_5 tc9_5, .slice T9_6 n1_6 tc9_6, .int .i64 p1_7] 35)
      have KX10 : BoxAt (w7.alloc (.cells #[.int .i64 p1_0, .int .i64 p1_1, .int .i64 p1_2, .slice T9_3 n1_3 tc9_3, .slice T9_4 n1_4 tc9_4, .slice T9_5 n1_5 tc9_5, .slice T9_6 n1_6 tc9_6, .int .i64 p1_7] 35)) (w7.heap.size) 35 #[.int .i64 p1_0, .int .i64 p1_1, .int .i64 p1_2, .slice T9_3 n1_3 tc9_3, .slice T9_4 n1_4 tc9_4, .slice T9_5 n1_5 tc9_5, .slice T9_6 n1_6 tc9_6, .int .i64 p1_7] := box_new _ _ _
      replace G := G.alloc (by have := S0.out; have := S1.out; have := S2.out; have := S3.out; have := S4.out; have := S5.out; have := S6.out; have := SA8.out; have := S7.out; have := SA11.out; have := MT3.out; unfold SepPackage at this; have := MT4.out; unfold SepPackage at this; have := MT6.out; unfold SepPackage at this; have := MT9.out; unfold SepPackage at this; first | omega | (simp; omega)) (.cells #[.int .i64 p1_0, .int .i64 p1_1, .int .i64 p1_2, .slice T9_3 n1_3 tc9_3, .slice T9_4 n1_4 tc9_4, .slice T9_5 n1_5 tc9_5, .slice T9_6 n1_6 tc9_6, .int .i64 p1_7] 35)
      have xKX7_0 : (w7.alloc (.cells #[.int .i64 p1_0, .int .i64 p1_1, .int .i64 p1_2, .slice T9_3 n1_3 tc9_3, .slice T9_4 n1_4 tc9_4, .slice T9_5 n1_5 tc9_5, .slice T9_6 n1_6 tc9_6, .int .i64 p1_7] 35)).cell? ⟨w6.heap.size, 0, none⟩ = some (.int .i64 p0_0) := KX7.at_ rfl
      have xKX7_1 : (w7.alloc (.cells #[.int .i64 p1_0, .int .i64 p1_1, .int .i64 p1_2, .slice T9_3 n1_3 tc9_3, .slice T9_4 n1_4 tc9_4, .slice T9_5 n1_5 tc9_5, .slice T9_6 n1_6 tc9_6, .int .i64 p1_7] 35)).cell? ⟨w6.heap.size, 1, none⟩ = some (.int .i64 p0_1) := KX7.at_ rfl
      have xKX7_2 : (w7.alloc (.cells #[.int .i64 p1_0, .int .i64 p1_1, .int .i64 p1_2, .slice T9_3 n1_3 tc9_3, .slice T9_4 n1_4 tc9_4, .slice T9_5 n1_5 tc9_5, .slice T9_6 n1_6 tc9_6, .int .i64 p1_7] 35)).cell? ⟨w6.heap.size, 2, none⟩ = some (.int .i64 p0_2) := KX7.at_ rfl
      have xKX7_3 : (w7.alloc (.cells #[.int .i64 p1_0, .int .i64 p1_1, .int .i64 p1_2, .slice T9_3 n1_3 tc9_3, .slice T9_4 n1_4 tc9_4, .slice T9_5 n1_5 tc9_5, .slice T9_6 n1_6 tc9_6, .int .i64 p1_7] 35)).cell? ⟨w6.heap.size, 3, none⟩ = some (.slice T6_3 n0_3 tc6_3) := KX7.at_ rfl
      have xKX7_4 : (w7.alloc (.cells #[.int .i64 p1_0, .int .i64 p1_1, .int .i64 p1_2, .slice T9_3 n1_3 tc9_3, .slice T9_4 n1_4 tc9_4, .slice T9_5 n1_5 tc9_5, .slice T9_6 n1_6 tc9_6, .int .i64 p1_7] 35)).cell? ⟨w6.heap.size, 4, none⟩ = some (.slice T6_4 n0_4 tc6_4) := KX7.at_ rfl
      have xKX7_5 : (w7.alloc (.cells #[.int .i64 p1_0, .int .i64 p1_1, .int .i64 p1_2, .slice T9_3 n1_3 tc9_3, .slice T9_4 n1_4 tc9_4, .slice T9_5 n1_5 tc9_5, .slice T9_6 n1_6 tc9_6, .int .i64 p1_7] 35)).cell? ⟨w6.heap.size, 5, none⟩ = some (.slice T6_5 n0_5 tc6_5) := KX7.at_ rfl
      have xKX7_6 : (w7.alloc (.cells #[.int .i64 p1_0, .int .i64 p1_1, .int .i64 p1_2, .slice T9_3 n1_3 tc9_3, .slice T9_4 n1_4 tc9_4, .slice T9_5 n1_5 tc9_5, .slice T9_6 n1_6 tc9_6, .int .i64 p1_7] 35)).cell? ⟨w6.heap.size, 6, none⟩ = some (.slice T6_6 n0_6 tc6_6) := KX7.at_ rfl
      have xKX7_7 : (w7.alloc (.cells #[.int .i64 p1_0, .int .i64 p1_1, .int .i64 p1_2, .slice T9_3 n1_3 tc9_3, .slice T9_4 n1_4 tc9_4, .slice T9_5 n1_5 tc9_5, .slice T9_6 n1_6 tc9_6, .int .i64 p1_7] 35)).cell? ⟨w6.heap.size, 7, none⟩ = some (.int .i64 p0_7) := KX7.at_ rfl
      have xKX10_0 : (w7.alloc (.cells #[.int .i64 p1_0, .int .i64 p1_1, .int .i64 p1_2, .slice T9_3 n1_3 tc9_3, .slice T9_4 n1_4 tc9_4, .slice T9_5 n1_5 tc9_5, .slice T9_6 n1_6 tc9_6, .int .i64 p1_7] 35)).cell? ⟨w7.heap.size, 0, none⟩ = some (.int .i64 p1_0) := KX10.at_ rfl
      have xKX10_1 : (w7.alloc (.cells #[.int .i64 p1_0, .int .i64 p1_1, .int .i64 p1_2, .slice T9_3 n1_3 tc9_3, .slice T9_4 n1_4 tc9_4, .slice T9_5 n1_5 tc9_5, .slice T9_6 n1_6 tc9_6, .int .i64 p1_7] 35)).cell? ⟨w7.heap.size, 1, none⟩ = some (.int .i64 p1_1) := KX10.at_ rfl
      have xKX10_2 : (w7.alloc (.cells #[.int .i64 p1_0, .int .i64 p1_1, .int .i64 p1_2, .slice T9_3 n1_3 tc9_3, .slice T9_4 n1_4 tc9_4, .slice T9_5 n1_5 tc9_5, .slice T9_6 n1_6 tc9_6, .int .i64 p1_7] 35)).cell? ⟨w7.heap.size, 2, none⟩ = some (.int .i64 p1_2) := KX10.at_ rfl
      have xKX10_3 : (w7.alloc (.cells #[.int .i64 p1_0, .int .i64 p1_1, .int .i64 p1_2, .slice T9_3 n1_3 tc9_3, .slice T9_4 n1_4 tc9_4, .slice T9_5 n1_5 tc9_5, .slice T9_6 n1_6 tc9_6, .int .i64 p1_7] 35)).cell? ⟨w7.heap.size, 3, none⟩ = some (.slice T9_3 n1_3 tc9_3) := KX10.at_ rfl
      have xKX10_4 : (w7.alloc (.cells #[.int .i64 p1_0, .int .i64 p1_1, .int .i64 p1_2, .slice T9_3 n1_3 tc9_3, .slice T9_4 n1_4 tc9_4, .slice T9_5 n1_5 tc9_5, .slice T9_6 n1_6 tc9_6, .int .i64 p1_7] 35)).cell? ⟨w7.heap.size, 4, none⟩ = some (.slice T9_4 n1_4 tc9_4) := KX10.at_ rfl
      have xKX10_5 : (w7.alloc (.cells #[.int .i64 p1_0, .int .i64 p1_1, .int .i64 p1_2, .slice T9_3 n1_3 tc9_3, .slice T9_4 n1_4 tc9_4, .slice T9_5 n1_5 tc9_5, .slice T9_6 n1_6 tc9_6, .int .i64 p1_7] 35)).cell? ⟨w7.heap.size, 5, none⟩ = some (.slice T9_5 n1_5 tc9_5) := KX10.at_ rfl
      have xKX10_6 : (w7.alloc (.cells #[.int .i64 p1_0, .int .i64 p1_1, .int .i64 p1_2, .slice T9_3 n1_3 tc9_3, .slice T9_4 n1_4 tc9_4, .slice T9_5 n1_5 tc9_5, .slice T9_6 n1_6 tc9_6, .int .i64 p1_7] 35)).cell? ⟨w7.heap.size, 6, none⟩ = some (.slice T9_6 n1_6 tc9_6) := KX10.at_ rfl
      have xKX10_7 : (w7.alloc (.cells #[.int .i64 p1_0, .int .i64 p1_1, .int .i64 p1_2, .slice T9_3 n1_3 tc9_3, .slice T9_4 n1_4 tc9_4, .slice T9_5 n1_5 tc9_5, .slice T9_6 n1_6 tc9_6, .int .i64 p1_7] 35)).cell? ⟨w7.heap.size, 7, none⟩ = some (.int .i64 p1_7) := KX10.at_ rfl
      go_wp2_with fail
      refine Calls.mono (impl_WidenedGrantsC p0_0 p0_1 p0_2 l0_3 T6_3 n0_3 tc6_3 _ _ l0_4 T6_4 n0_4 tc6_4 _ _ l0_5 T6_5 n0_5 tc6_5 _ _ l0_6 T6_6 n0_6 tc6_6 _ _ p0_7 p1_0 p1_1 p1_2 l1_3 T9_3 n1_3 tc9_3 _ _ l1_4 T9_4 n1_4 tc9_4 _ _ l1_5 T9_5 n1_5 tc9_5 _ _ l1_6 T9_6 n1_6 tc9_6 _ _ p1_7 _ (by omega) FT6_3.rd FT6_3.cap H0_3 (by omega) FT6_4.rd FT6_4.cap H0_4 (by omega) FT6_5.rd FT6_5.cap H0_5 (by omega) FT6_6.rd FT6_6.cap H0_6 (by omega) FT9_3.rd FT9_3.cap H1_3 (by omega) FT9_4.rd FT9_4.cap H1_4 (by omega) FT9_5.rd FT9_5.cap H1_5 (by omega) FT9_6.rd FT9_6.cap H1_6) ?_
      rintro e w8 ⟨P12_0, pc12_0, rfl, FP12_0, B12⟩
      replace R0_3 := (R0_3).new B12
      replace R0_4 := (R0_4).new B12
      replace R0_5 := (R0_5).new B12
      replace R0_6 := (R0_6).new B12
      replace R1_3 := (R1_3).new B12
      replace R1_4 := (R1_4).new B12
      replace R1_5 := (R1_5).new B12
      replace R1_6 := (R1_6).new B12
      replace KB0 := (KB0).new B12
      replace KB1 := (KB1).new B12
      replace FP5_0 := (FP5_0).new B12
      replace FT6_3 := (FT6_3).new B12
      replace FT6_4 := (FT6_4).new B12
      replace FT6_5 := (FT6_5).new B12
      replace FT6_6 := (FT6_6).new B12
      replace KX7 := (KX7).new B12
      replace FT9_3 := (FT9_3).new B12
      replace FT9_4 := (FT9_4).new B12
      replace FT9_5 := (FT9_5).new B12
      replace FT9_6 := (FT9_6).new B12
      replace KX10 := (KX10).new B12
      replace G := below_trans G B12 (Nat.le_refl _)
      have S8 := Lib.hid (show (w7.alloc (.cells #[.int .i64 p1_0, .int .i64 p1_1, .int .i64 p1_2, .slice T9_3 n1_3 tc9_3, .slice T9_4 n1_4 tc9_4, .slice T9_5 n1_5 tc9_5, .slice T9_6 n1_6 tc9_6, .int .i64 p1_7] 35)).heap.size + 0 ≤ w8.heap.size by have := B12.size; first | (simpa using this) | ((try simp at this); omega))
      clear B12
      clear xKX7_0 xKX7_1 xKX7_2 xKX7_3 xKX7_4 xKX7_5 xKX7_6 xKX7_7 xKX10_0 xKX10_1 xKX10_2 xKX10_3 xKX10_4 xKX10_5 xKX10_6 xKX10_7
      go_wp2_with fail
      refine Calls.mono (eq_grant_same ((l1_3.filter fun x => !(l0_3.any (mWithin x)))) P12_0 P5_0 (((l1_3.filter fun x => !(l0_3.any (mWithin x)))).length) (((l1_3.filter fun x => !(l0_3.any (mWithin x)))).length) pc12_0 pc5_0 _ _ _ _ _ (by omega) (by omega) FP12_0.rd FP5_0.rd) ?_
      rintro e w9 ⟨rfl, B13⟩
      replace R0_3 := (R0_3).new B13
      replace R0_4 := (R0_4).new B13
      replace R0_5 := (R0_5).new B13
      replace R0_6 := (R0_6).new B13
      replace R1_3 := (R1_3).new B13
      replace R1_4 := (R1_4).new B13
      replace R1_5 := (R1_5).new B13
      replace R1_6 := (R1_6).new B13
      replace KB0 := (KB0).new B13
      replace KB1 := (KB1).new B13
      replace FP5_0 := (FP5_0).new B13
      replace FT6_3 := (FT6_3).new B13
      replace FT6_4 := (FT6_4).new B13
      replace FT6_5 := (FT6_5).new B13
      replace FT6_6 := (FT6_6).new B13
      replace KX7 := (KX7).new B13
      replace FT9_3 := (FT9_3).new B13
      replace FT9_4 := (FT9_4).new B13
      replace FT9_5 := (FT9_5).new B13
      replace FT9_6 := (FT9_6).new B13
      replace KX10 := (KX10).new B13
      replace FP12_0 := (FP12_0).new B13
      replace G := below_trans G B13 (Nat.le_refl _)
      have S9 := Lib.hid (show w8.heap.size + 0 ≤ w9.heap.size by have := B13.size; first | (simpa using this) | ((try simp at this); omega))
      clear B13
      go_wp2_with fail
      replace G := G.drew
      replace R0_3 := R0_3.drw
      replace R0_4 := R0_4.drw
      replace R0_5 := R0_5.drw
      replace R0_6 := R0_6.drw
      replace R1_3 := R1_3.drw
      replace R1_4 := R1_4.drw
      replace R1_5 := R1_5.drw
      replace R1_6 := R1_6.drw
      replace KB0 := KB0.drw
      replace KB1 := KB1.drw
      replace FP5_0 := FP5_0.drw
      replace FT6_3 := FT6_3.drw
      replace FT6_4 := FT6_4.drw
      replace FT6_5 := FT6_5.drw
      replace FT6_6 := FT6_6.drw
      replace KX7 := KX7.drw
      replace FT9_3 := FT9_3.drw
      replace FT9_4 := FT9_4.drw
      replace FT9_5 := FT9_5.drw
      replace FT9_6 := FT9_6.drw
      replace KX10 := KX10.drw
      replace FP12_0 := FP12_0.drw
      go_region_held3 (fun w' => w'.cell? ⟨w6.heap.size, 0, none⟩ = some (.int .i64 p0_0) ∧ w'.cell? ⟨w6.heap.size, 1, none⟩ = some (.int .i64 p0_1) ∧ w'.cell? ⟨w6.heap.size, 2, none⟩ = some (.int .i64 p0_2) ∧ w'.cell? ⟨w6.heap.size, 3, none⟩ = some (.slice T6_3 n0_3 tc6_3) ∧ w'.cell? ⟨w6.heap.size, 4, none⟩ = some (.slice T6_4 n0_4 tc6_4) ∧ w'.cell? ⟨w6.heap.size, 5, none⟩ = some (.slice T6_5 n0_5 tc6_5) ∧ w'.cell? ⟨w6.heap.size, 6, none⟩ = some (.slice T6_6 n0_6 tc6_6) ∧ w'.cell? ⟨w6.heap.size, 7, none⟩ = some (.int .i64 p0_7) ∧ w'.cell? ⟨w.heap.size, 0, none⟩ = some (.int .i64 p0_0) ∧ w'.cell? ⟨w.heap.size, 1, none⟩ = some (.int .i64 p0_1) ∧ w'.cell? ⟨w.heap.size, 2, none⟩ = some (.int .i64 p0_2) ∧ w'.cell? ⟨w.heap.size, 3, none⟩ = some (.slice A0_3 n0_3 c0_3) ∧ w'.cell? ⟨w.heap.size, 4, none⟩ = some (.slice A0_4 n0_4 c0_4) ∧ w'.cell? ⟨w.heap.size, 5, none⟩ = some (.slice A0_5 n0_5 c0_5) ∧ w'.cell? ⟨w.heap.size, 6, none⟩ = some (.slice A0_6 n0_6 c0_6) ∧ w'.cell? ⟨w.heap.size, 7, none⟩ = some (.int .i64 p0_7))
        (exact ⟨KX7.at_ rfl, KX7.at_ rfl, KX7.at_ rfl, KX7.at_ rfl, KX7.at_ rfl, KX7.at_ rfl, KX7.at_ rfl, KX7.at_ rfl, KB0.at_ rfl, KB0.at_ rfl, KB0.at_ rfl, KB0.at_ rfl, KB0.at_ rfl, KB0.at_ rfl, KB0.at_ rfl, KB0.at_ rfl⟩)
        (first
          | (go_at_call 17; (fail_if_success (have hx := B14)); refine Calls.mono (to_package p0_0 p0_1 p0_2 l0_3 A0_3 n0_3 c0_3 _ _ l0_4 A0_4 n0_4 c0_4 _ _ l0_5 A0_5 n0_5 c0_5 _ _ l0_6 A0_6 n0_6 c0_6 _ _ p0_7 _ hqn0_3 R0_3 hqn0_4 R0_4 hqn0_5 R0_5 hqn0_6 R0_6) ?_; rintro e w10 ⟨T14_3, T14_4, T14_5, T14_6, tc14_3, tlo14_3, thi14_3, tc14_4, tlo14_4, thi14_4, tc14_5, tlo14_5, thi14_5, tc14_6, tlo14_6, thi14_6, rfl, FT14_3, FT14_4, FT14_5, FT14_6, MT14, B14⟩; (replace R0_3 := rd_nw B14 R0_3); (replace R0_4 := rd_nw B14 R0_4); (replace R0_5 := rd_nw B14 R0_5); (replace R0_6 := rd_nw B14 R0_6); (replace R1_3 := rd_nw B14 R1_3); (replace R1_4 := rd_nw B14 R1_4); (replace R1_5 := rd_nw B14 R1_5); (replace R1_6 := rd_nw B14 R1_6); (replace KB0 := box_nw B14 KB0); (replace KB1 := box_nw B14 KB1); (replace FP5_0 := fr_nw B14 FP5_0); (replace FT6_3 := fr_nw B14 FT6_3); (replace FT6_4 := fr_nw B14 FT6_4); (replace FT6_5 := fr_nw B14 FT6_5); (replace FT6_6 := fr_nw B14 FT6_6); (replace KX7 := box_nw B14 KX7); (replace FT9_3 := fr_nw B14 FT9_3); (replace FT9_4 := fr_nw B14 FT9_4); (replace FT9_5 := fr_nw B14 FT9_5); (replace FT9_6 := fr_nw B14 FT9_6); (replace KX10 := box_nw B14 KX10); (replace FP12_0 := fr_nw B14 FP12_0); (replace G := (by first | exact below_trans G B14 (Nat.le_refl _) | exact below_trans G.drew B14 (Nat.le_refl _) | exact below_trans (below_dN G _) B14 (Nat.le_refl _))); (have S10 := Lib.hid (show w9.heap.size ≤ w10.heap.size from B14.size)))
          | (go_at_call 19; (fail_if_success (have hx := B15)); refine Calls.mono (eq_package_same p0_0 p0_1 p0_2 l0_3 n0_3 T6_3 T14_3 tc6_3 tc14_3 _ _ _ _ l0_4 n0_4 T6_4 T14_4 tc6_4 tc14_4 _ _ _ _ l0_5 n0_5 T6_5 T14_5 tc6_5 tc14_5 _ _ _ _ l0_6 n0_6 T6_6 T14_6 tc6_6 tc14_6 _ _ _ _ p0_7 _ (by omega) (by omega) (by omega) (by omega) FT6_3.rd FT6_4.rd FT6_5.rd FT6_6.rd FT14_3.rd FT14_4.rd FT14_5.rd FT14_6.rd) ?_; rintro e w11 ⟨rfl, B15⟩; (replace R0_3 := rd_nw B15 R0_3); (replace R0_4 := rd_nw B15 R0_4); (replace R0_5 := rd_nw B15 R0_5); (replace R0_6 := rd_nw B15 R0_6); (replace R1_3 := rd_nw B15 R1_3); (replace R1_4 := rd_nw B15 R1_4); (replace R1_5 := rd_nw B15 R1_5); (replace R1_6 := rd_nw B15 R1_6); (replace KB0 := box_nw B15 KB0); (replace KB1 := box_nw B15 KB1); (replace FP5_0 := fr_nw B15 FP5_0); (replace FT6_3 := fr_nw B15 FT6_3); (replace FT6_4 := fr_nw B15 FT6_4); (replace FT6_5 := fr_nw B15 FT6_5); (replace FT6_6 := fr_nw B15 FT6_6); (replace KX7 := box_nw B15 KX7); (replace FT9_3 := fr_nw B15 FT9_3); (replace FT9_4 := fr_nw B15 FT9_4); (replace FT9_5 := fr_nw B15 FT9_5); (replace FT9_6 := fr_nw B15 FT9_6); (replace KX10 := box_nw B15 KX10); (replace FP12_0 := fr_nw B15 FP12_0); (replace FT14_3 := fr_nw B15 FT14_3); (replace FT14_4 := fr_nw B15 FT14_4); (replace FT14_5 := fr_nw B15 FT14_5); (replace FT14_6 := fr_nw B15 FT14_6); (replace G := (by first | exact below_trans G B15 (Nat.le_refl _) | exact below_trans G.drew B15 (Nat.le_refl _) | exact below_trans (below_dN G _) B15 (Nat.le_refl _))); (have S11 := Lib.hid (show w10.heap.size ≤ w11.heap.size from B15.size))))
      clear B14
      clear B15
      clear FT14_3
      clear FT14_4
      clear FT14_5
      clear FT14_6
      go_wp2_with fail
      replace G := G.drew
      replace R0_3 := R0_3.drw
      replace R0_4 := R0_4.drw
      replace R0_5 := R0_5.drw
      replace R0_6 := R0_6.drw
      replace R1_3 := R1_3.drw
      replace R1_4 := R1_4.drw
      replace R1_5 := R1_5.drw
      replace R1_6 := R1_6.drw
      replace KB0 := KB0.drw
      replace KB1 := KB1.drw
      replace FP5_0 := FP5_0.drw
      replace FT6_3 := FT6_3.drw
      replace FT6_4 := FT6_4.drw
      replace FT6_5 := FT6_5.drw
      replace FT6_6 := FT6_6.drw
      replace KX7 := KX7.drw
      replace FT9_3 := FT9_3.drw
      replace FT9_4 := FT9_4.drw
      replace FT9_5 := FT9_5.drw
      replace FT9_6 := FT9_6.drw
      replace KX10 := KX10.drw
      replace FP12_0 := FP12_0.drw
      go_region_held3 (fun w' => w'.cell? ⟨w7.heap.size, 0, none⟩ = some (.int .i64 p1_0) ∧ w'.cell? ⟨w7.heap.size, 1, none⟩ = some (.int .i64 p1_1) ∧ w'.cell? ⟨w7.heap.size, 2, none⟩ = some (.int .i64 p1_2) ∧ w'.cell? ⟨w7.heap.size, 3, none⟩ = some (.slice T9_3 n1_3 tc9_3) ∧ w'.cell? ⟨w7.heap.size, 4, none⟩ = some (.slice T9_4 n1_4 tc9_4) ∧ w'.cell? ⟨w7.heap.size, 5, none⟩ = some (.slice T9_5 n1_5 tc9_5) ∧ w'.cell? ⟨w7.heap.size, 6, none⟩ = some (.slice T9_6 n1_6 tc9_6) ∧ w'.cell? ⟨w7.heap.size, 7, none⟩ = some (.int .i64 p1_7) ∧ w'.cell? ⟨w.heap.size + 1, 0, none⟩ = some (.int .i64 p1_0) ∧ w'.cell? ⟨w.heap.size + 1, 1, none⟩ = some (.int .i64 p1_1) ∧ w'.cell? ⟨w.heap.size + 1, 2, none⟩ = some (.int .i64 p1_2) ∧ w'.cell? ⟨w.heap.size + 1, 3, none⟩ = some (.slice A1_3 n1_3 c1_3) ∧ w'.cell? ⟨w.heap.size + 1, 4, none⟩ = some (.slice A1_4 n1_4 c1_4) ∧ w'.cell? ⟨w.heap.size + 1, 5, none⟩ = some (.slice A1_5 n1_5 c1_5) ∧ w'.cell? ⟨w.heap.size + 1, 6, none⟩ = some (.slice A1_6 n1_6 c1_6) ∧ w'.cell? ⟨w.heap.size + 1, 7, none⟩ = some (.int .i64 p1_7))
        (exact ⟨KX10.at_ rfl, KX10.at_ rfl, KX10.at_ rfl, KX10.at_ rfl, KX10.at_ rfl, KX10.at_ rfl, KX10.at_ rfl, KX10.at_ rfl, KB1.at_ rfl, KB1.at_ rfl, KB1.at_ rfl, KB1.at_ rfl, KB1.at_ rfl, KB1.at_ rfl, KB1.at_ rfl, KB1.at_ rfl⟩)
        (first
          | (go_at_call 17; (fail_if_success (have hx := B16)); refine Calls.mono (to_package p1_0 p1_1 p1_2 l1_3 A1_3 n1_3 c1_3 _ _ l1_4 A1_4 n1_4 c1_4 _ _ l1_5 A1_5 n1_5 c1_5 _ _ l1_6 A1_6 n1_6 c1_6 _ _ p1_7 _ hqn1_3 R1_3 hqn1_4 R1_4 hqn1_5 R1_5 hqn1_6 R1_6) ?_; rintro e w12 ⟨T16_3, T16_4, T16_5, T16_6, tc16_3, tlo16_3, thi16_3, tc16_4, tlo16_4, thi16_4, tc16_5, tlo16_5, thi16_5, tc16_6, tlo16_6, thi16_6, rfl, FT16_3, FT16_4, FT16_5, FT16_6, MT16, B16⟩; (replace R0_3 := rd_nw B16 R0_3); (replace R0_4 := rd_nw B16 R0_4); (replace R0_5 := rd_nw B16 R0_5); (replace R0_6 := rd_nw B16 R0_6); (replace R1_3 := rd_nw B16 R1_3); (replace R1_4 := rd_nw B16 R1_4); (replace R1_5 := rd_nw B16 R1_5); (replace R1_6 := rd_nw B16 R1_6); (replace KB0 := box_nw B16 KB0); (replace KB1 := box_nw B16 KB1); (replace FP5_0 := fr_nw B16 FP5_0); (replace FT6_3 := fr_nw B16 FT6_3); (replace FT6_4 := fr_nw B16 FT6_4); (replace FT6_5 := fr_nw B16 FT6_5); (replace FT6_6 := fr_nw B16 FT6_6); (replace KX7 := box_nw B16 KX7); (replace FT9_3 := fr_nw B16 FT9_3); (replace FT9_4 := fr_nw B16 FT9_4); (replace FT9_5 := fr_nw B16 FT9_5); (replace FT9_6 := fr_nw B16 FT9_6); (replace KX10 := box_nw B16 KX10); (replace FP12_0 := fr_nw B16 FP12_0); (replace G := (by first | exact below_trans G B16 (Nat.le_refl _) | exact below_trans G.drew B16 (Nat.le_refl _) | exact below_trans (below_dN G _) B16 (Nat.le_refl _))); (have S12 := Lib.hid (show w11.heap.size ≤ w12.heap.size from B16.size)))
          | (go_at_call 19; (fail_if_success (have hx := B17)); refine Calls.mono (eq_package_same p1_0 p1_1 p1_2 l1_3 n1_3 T9_3 T16_3 tc9_3 tc16_3 _ _ _ _ l1_4 n1_4 T9_4 T16_4 tc9_4 tc16_4 _ _ _ _ l1_5 n1_5 T9_5 T16_5 tc9_5 tc16_5 _ _ _ _ l1_6 n1_6 T9_6 T16_6 tc9_6 tc16_6 _ _ _ _ p1_7 _ (by omega) (by omega) (by omega) (by omega) FT9_3.rd FT9_4.rd FT9_5.rd FT9_6.rd FT16_3.rd FT16_4.rd FT16_5.rd FT16_6.rd) ?_; rintro e w13 ⟨rfl, B17⟩; (replace R0_3 := rd_nw B17 R0_3); (replace R0_4 := rd_nw B17 R0_4); (replace R0_5 := rd_nw B17 R0_5); (replace R0_6 := rd_nw B17 R0_6); (replace R1_3 := rd_nw B17 R1_3); (replace R1_4 := rd_nw B17 R1_4); (replace R1_5 := rd_nw B17 R1_5); (replace R1_6 := rd_nw B17 R1_6); (replace KB0 := box_nw B17 KB0); (replace KB1 := box_nw B17 KB1); (replace FP5_0 := fr_nw B17 FP5_0); (replace FT6_3 := fr_nw B17 FT6_3); (replace FT6_4 := fr_nw B17 FT6_4); (replace FT6_5 := fr_nw B17 FT6_5); (replace FT6_6 := fr_nw B17 FT6_6); (replace KX7 := box_nw B17 KX7); (replace FT9_3 := fr_nw B17 FT9_3); (replace FT9_4 := fr_nw B17 FT9_4); (replace FT9_5 := fr_nw B17 FT9_5); (replace FT9_6 := fr_nw B17 FT9_6); (replace KX10 := box_nw B17 KX10); (replace FP12_0 := fr_nw B17 FP12_0); (replace FT16_3 := fr_nw B17 FT16_3); (replace FT16_4 := fr_nw B17 FT16_4); (replace FT16_5 := fr_nw B17 FT16_5); (replace FT16_6 := fr_nw B17 FT16_6); (replace G := (by first | exact below_trans G B17 (Nat.le_refl _) | exact below_trans G.drew B17 (Nat.le_refl _) | exact below_trans (below_dN G _) B17 (Nat.le_refl _))); (have S13 := Lib.hid (show w12.heap.size ≤ w13.heap.size from B17.size))))
      clear B16
      clear B17
      clear FT16_3
      clear FT16_4
      clear FT16_5
      clear FT16_6
      have xKX7_0 : w13.cell? ⟨w6.heap.size, 0, none⟩ = some (.int .i64 p0_0) := KX7.at_ rfl
      have xKX7_1 : w13.cell? ⟨w6.heap.size, 1, none⟩ = some (.int .i64 p0_1) := KX7.at_ rfl
      have xKX7_2 : w13.cell? ⟨w6.heap.size, 2, none⟩ = some (.int .i64 p0_2) := KX7.at_ rfl
      have xKX7_3 : w13.cell? ⟨w6.heap.size, 3, none⟩ = some (.slice T6_3 n0_3 tc6_3) := KX7.at_ rfl
      have xKX7_4 : w13.cell? ⟨w6.heap.size, 4, none⟩ = some (.slice T6_4 n0_4 tc6_4) := KX7.at_ rfl
      have xKX7_5 : w13.cell? ⟨w6.heap.size, 5, none⟩ = some (.slice T6_5 n0_5 tc6_5) := KX7.at_ rfl
      have xKX7_6 : w13.cell? ⟨w6.heap.size, 6, none⟩ = some (.slice T6_6 n0_6 tc6_6) := KX7.at_ rfl
      have xKX7_7 : w13.cell? ⟨w6.heap.size, 7, none⟩ = some (.int .i64 p0_7) := KX7.at_ rfl
      go_wp2_with fail
      refine Calls.mono (mark_package p0_0 p0_1 p0_2 _ T6_3 n0_3 tc6_3 _ _ _ T6_4 n0_4 tc6_4 _ _ _ T6_5 n0_5 tc6_5 _ _ _ T6_6 n0_6 tc6_6 _ _ p0_7 (1) w5.heap.size w6.heap.size _ (by omega) (by omega) (by omega) (by omega) (by omega) (by have := S0.out; have := S1.out; have := S2.out; have := S3.out; have := S4.out; have := S5.out; have := S6.out; have := SA8.out; have := S7.out; have := SA11.out; have := S8.out; have := S9.out; have := S10.out; have := S11.out; have := S12.out; have := S13.out; have := MT3.out; unfold SepPackage at this; have := MT4.out; unfold SepPackage at this; have := MT6.out; unfold SepPackage at this; have := MT9.out; unfold SepPackage at this; have := MT14.out; unfold SepPackage at this; have := MT16.out; unfold SepPackage at this; omega) MT6 FT6_3 FT6_4 FT6_5 FT6_6) ?_
      rintro e w14 ⟨rfl, FM18_3, FM18_4, FM18_5, FM18_6, B18⟩
      replace R0_3 := (R0_3).chg B18 (by have := S0.out; have := S1.out; have := S2.out; have := S3.out; have := S4.out; have := S5.out; have := S6.out; have := SA8.out; have := S7.out; have := SA11.out; have := S8.out; have := S9.out; have := S10.out; have := S11.out; have := S12.out; have := S13.out; have := MT3.out; unfold SepPackage at this; have := MT4.out; unfold SepPackage at this; have := MT6.out; unfold SepPackage at this; have := MT9.out; unfold SepPackage at this; have := MT14.out; unfold SepPackage at this; have := MT16.out; unfold SepPackage at this; omega)
      replace R0_4 := (R0_4).chg B18 (by have := S0.out; have := S1.out; have := S2.out; have := S3.out; have := S4.out; have := S5.out; have := S6.out; have := SA8.out; have := S7.out; have := SA11.out; have := S8.out; have := S9.out; have := S10.out; have := S11.out; have := S12.out; have := S13.out; have := MT3.out; unfold SepPackage at this; have := MT4.out; unfold SepPackage at this; have := MT6.out; unfold SepPackage at this; have := MT9.out; unfold SepPackage at this; have := MT14.out; unfold SepPackage at this; have := MT16.out; unfold SepPackage at this; omega)
      replace R0_5 := (R0_5).chg B18 (by have := S0.out; have := S1.out; have := S2.out; have := S3.out; have := S4.out; have := S5.out; have := S6.out; have := SA8.out; have := S7.out; have := SA11.out; have := S8.out; have := S9.out; have := S10.out; have := S11.out; have := S12.out; have := S13.out; have := MT3.out; unfold SepPackage at this; have := MT4.out; unfold SepPackage at this; have := MT6.out; unfold SepPackage at this; have := MT9.out; unfold SepPackage at this; have := MT14.out; unfold SepPackage at this; have := MT16.out; unfold SepPackage at this; omega)
      replace R0_6 := (R0_6).chg B18 (by have := S0.out; have := S1.out; have := S2.out; have := S3.out; have := S4.out; have := S5.out; have := S6.out; have := SA8.out; have := S7.out; have := SA11.out; have := S8.out; have := S9.out; have := S10.out; have := S11.out; have := S12.out; have := S13.out; have := MT3.out; unfold SepPackage at this; have := MT4.out; unfold SepPackage at this; have := MT6.out; unfold SepPackage at this; have := MT9.out; unfold SepPackage at this; have := MT14.out; unfold SepPackage at this; have := MT16.out; unfold SepPackage at this; omega)
      replace R1_3 := (R1_3).chg B18 (by have := S0.out; have := S1.out; have := S2.out; have := S3.out; have := S4.out; have := S5.out; have := S6.out; have := SA8.out; have := S7.out; have := SA11.out; have := S8.out; have := S9.out; have := S10.out; have := S11.out; have := S12.out; have := S13.out; have := MT3.out; unfold SepPackage at this; have := MT4.out; unfold SepPackage at this; have := MT6.out; unfold SepPackage at this; have := MT9.out; unfold SepPackage at this; have := MT14.out; unfold SepPackage at this; have := MT16.out; unfold SepPackage at this; omega)
      replace R1_4 := (R1_4).chg B18 (by have := S0.out; have := S1.out; have := S2.out; have := S3.out; have := S4.out; have := S5.out; have := S6.out; have := SA8.out; have := S7.out; have := SA11.out; have := S8.out; have := S9.out; have := S10.out; have := S11.out; have := S12.out; have := S13.out; have := MT3.out; unfold SepPackage at this; have := MT4.out; unfold SepPackage at this; have := MT6.out; unfold SepPackage at this; have := MT9.out; unfold SepPackage at this; have := MT14.out; unfold SepPackage at this; have := MT16.out; unfold SepPackage at this; omega)
      replace R1_5 := (R1_5).chg B18 (by have := S0.out; have := S1.out; have := S2.out; have := S3.out; have := S4.out; have := S5.out; have := S6.out; have := SA8.out; have := S7.out; have := SA11.out; have := S8.out; have := S9.out; have := S10.out; have := S11.out; have := S12.out; have := S13.out; have := MT3.out; unfold SepPackage at this; have := MT4.out; unfold SepPackage at this; have := MT6.out; unfold SepPackage at this; have := MT9.out; unfold SepPackage at this; have := MT14.out; unfold SepPackage at this; have := MT16.out; unfold SepPackage at this; omega)
      replace R1_6 := (R1_6).chg B18 (by have := S0.out; have := S1.out; have := S2.out; have := S3.out; have := S4.out; have := S5.out; have := S6.out; have := SA8.out; have := S7.out; have := SA11.out; have := S8.out; have := S9.out; have := S10.out; have := S11.out; have := S12.out; have := S13.out; have := MT3.out; unfold SepPackage at this; have := MT4.out; unfold SepPackage at this; have := MT6.out; unfold SepPackage at this; have := MT9.out; unfold SepPackage at this; have := MT14.out; unfold SepPackage at this; have := MT16.out; unfold SepPackage at this; omega)
      replace KB0 := (KB0).chg B18 (by have := S0.out; have := S1.out; have := S2.out; have := S3.out; have := S4.out; have := S5.out; have := S6.out; have := SA8.out; have := S7.out; have := SA11.out; have := S8.out; have := S9.out; have := S10.out; have := S11.out; have := S12.out; have := S13.out; have := MT3.out; unfold SepPackage at this; have := MT4.out; unfold SepPackage at this; have := MT6.out; unfold SepPackage at this; have := MT9.out; unfold SepPackage at this; have := MT14.out; unfold SepPackage at this; have := MT16.out; unfold SepPackage at this; omega)
      replace KB1 := (KB1).chg B18 (by have := S0.out; have := S1.out; have := S2.out; have := S3.out; have := S4.out; have := S5.out; have := S6.out; have := SA8.out; have := S7.out; have := SA11.out; have := S8.out; have := S9.out; have := S10.out; have := S11.out; have := S12.out; have := S13.out; have := MT3.out; unfold SepPackage at this; have := MT4.out; unfold SepPackage at this; have := MT6.out; unfold SepPackage at this; have := MT9.out; unfold SepPackage at this; have := MT14.out; unfold SepPackage at this; have := MT16.out; unfold SepPackage at this; omega)
      replace FP5_0 := (FP5_0).chg B18 (by have := S0.out; have := S1.out; have := S2.out; have := S3.out; have := S4.out; have := S5.out; have := S6.out; have := SA8.out; have := S7.out; have := SA11.out; have := S8.out; have := S9.out; have := S10.out; have := S11.out; have := S12.out; have := S13.out; have := MT3.out; unfold SepPackage at this; have := MT4.out; unfold SepPackage at this; have := MT6.out; unfold SepPackage at this; have := MT9.out; unfold SepPackage at this; have := MT14.out; unfold SepPackage at this; have := MT16.out; unfold SepPackage at this; omega)
      replace KX7 := (KX7).chg B18 (by have := S0.out; have := S1.out; have := S2.out; have := S3.out; have := S4.out; have := S5.out; have := S6.out; have := SA8.out; have := S7.out; have := SA11.out; have := S8.out; have := S9.out; have := S10.out; have := S11.out; have := S12.out; have := S13.out; have := MT3.out; unfold SepPackage at this; have := MT4.out; unfold SepPackage at this; have := MT6.out; unfold SepPackage at this; have := MT9.out; unfold SepPackage at this; have := MT14.out; unfold SepPackage at this; have := MT16.out; unfold SepPackage at this; omega)
      replace FT9_3 := (FT9_3).chg B18 (by have := S0.out; have := S1.out; have := S2.out; have := S3.out; have := S4.out; have := S5.out; have := S6.out; have := SA8.out; have := S7.out; have := SA11.out; have := S8.out; have := S9.out; have := S10.out; have := S11.out; have := S12.out; have := S13.out; have := MT3.out; unfold SepPackage at this; have := MT4.out; unfold SepPackage at this; have := MT6.out; unfold SepPackage at this; have := MT9.out; unfold SepPackage at this; have := MT14.out; unfold SepPackage at this; have := MT16.out; unfold SepPackage at this; omega)
      replace FT9_4 := (FT9_4).chg B18 (by have := S0.out; have := S1.out; have := S2.out; have := S3.out; have := S4.out; have := S5.out; have := S6.out; have := SA8.out; have := S7.out; have := SA11.out; have := S8.out; have := S9.out; have := S10.out; have := S11.out; have := S12.out; have := S13.out; have := MT3.out; unfold SepPackage at this; have := MT4.out; unfold SepPackage at this; have := MT6.out; unfold SepPackage at this; have := MT9.out; unfold SepPackage at this; have := MT14.out; unfold SepPackage at this; have := MT16.out; unfold SepPackage at this; omega)
      replace FT9_5 := (FT9_5).chg B18 (by have := S0.out; have := S1.out; have := S2.out; have := S3.out; have := S4.out; have := S5.out; have := S6.out; have := SA8.out; have := S7.out; have := SA11.out; have := S8.out; have := S9.out; have := S10.out; have := S11.out; have := S12.out; have := S13.out; have := MT3.out; unfold SepPackage at this; have := MT4.out; unfold SepPackage at this; have := MT6.out; unfold SepPackage at this; have := MT9.out; unfold SepPackage at this; have := MT14.out; unfold SepPackage at this; have := MT16.out; unfold SepPackage at this; omega)
      replace FT9_6 := (FT9_6).chg B18 (by have := S0.out; have := S1.out; have := S2.out; have := S3.out; have := S4.out; have := S5.out; have := S6.out; have := SA8.out; have := S7.out; have := SA11.out; have := S8.out; have := S9.out; have := S10.out; have := S11.out; have := S12.out; have := S13.out; have := MT3.out; unfold SepPackage at this; have := MT4.out; unfold SepPackage at this; have := MT6.out; unfold SepPackage at this; have := MT9.out; unfold SepPackage at this; have := MT14.out; unfold SepPackage at this; have := MT16.out; unfold SepPackage at this; omega)
      replace KX10 := (KX10).chg B18 (by have := S0.out; have := S1.out; have := S2.out; have := S3.out; have := S4.out; have := S5.out; have := S6.out; have := SA8.out; have := S7.out; have := SA11.out; have := S8.out; have := S9.out; have := S10.out; have := S11.out; have := S12.out; have := S13.out; have := MT3.out; unfold SepPackage at this; have := MT4.out; unfold SepPackage at this; have := MT6.out; unfold SepPackage at this; have := MT9.out; unfold SepPackage at this; have := MT14.out; unfold SepPackage at this; have := MT16.out; unfold SepPackage at this; omega)
      replace FP12_0 := (FP12_0).chg B18 (by have := S0.out; have := S1.out; have := S2.out; have := S3.out; have := S4.out; have := S5.out; have := S6.out; have := SA8.out; have := S7.out; have := SA11.out; have := S8.out; have := S9.out; have := S10.out; have := S11.out; have := S12.out; have := S13.out; have := MT3.out; unfold SepPackage at this; have := MT4.out; unfold SepPackage at this; have := MT6.out; unfold SepPackage at this; have := MT9.out; unfold SepPackage at this; have := MT14.out; unfold SepPackage at this; have := MT16.out; unfold SepPackage at this; omega)
      replace G := G.trans (B18.below (.inl (by have := S0.out; have := S1.out; have := S2.out; have := S3.out; have := S4.out; have := S5.out; have := S6.out; have := SA8.out; have := S7.out; have := SA11.out; have := S8.out; have := S9.out; have := S10.out; have := S11.out; have := S12.out; have := S13.out; have := MT3.out; unfold SepPackage at this; have := MT4.out; unfold SepPackage at this; have := MT6.out; unfold SepPackage at this; have := MT9.out; unfold SepPackage at this; have := MT14.out; unfold SepPackage at this; have := MT16.out; unfold SepPackage at this; omega)) (by have := S0.out; have := S1.out; have := S2.out; have := S3.out; have := S4.out; have := S5.out; have := S6.out; have := SA8.out; have := S7.out; have := SA11.out; have := S8.out; have := S9.out; have := S10.out; have := S11.out; have := S12.out; have := S13.out; have := MT3.out; unfold SepPackage at this; have := MT4.out; unfold SepPackage at this; have := MT6.out; unfold SepPackage at this; have := MT9.out; unfold SepPackage at this; have := MT14.out; unfold SepPackage at this; have := MT16.out; unfold SepPackage at this; first | omega | (simp; omega)))
      have S14 := Lib.hid (show w13.heap.size + 0 ≤ w14.heap.size by have := B18.size; first | (simpa using this) | ((try simp at this); omega))
      clear FT6_3
      clear FT6_4
      clear FT6_5
      clear FT6_6
      clear B18
      clear xKX7_0 xKX7_1 xKX7_2 xKX7_3 xKX7_4 xKX7_5 xKX7_6 xKX7_7
      have xKX10_0 : w14.cell? ⟨w7.heap.size, 0, none⟩ = some (.int .i64 p1_0) := KX10.at_ rfl
      have xKX10_1 : w14.cell? ⟨w7.heap.size, 1, none⟩ = some (.int .i64 p1_1) := KX10.at_ rfl
      have xKX10_2 : w14.cell? ⟨w7.heap.size, 2, none⟩ = some (.int .i64 p1_2) := KX10.at_ rfl
      have xKX10_3 : w14.cell? ⟨w7.heap.size, 3, none⟩ = some (.slice T9_3 n1_3 tc9_3) := KX10.at_ rfl
      have xKX10_4 : w14.cell? ⟨w7.heap.size, 4, none⟩ = some (.slice T9_4 n1_4 tc9_4) := KX10.at_ rfl
      have xKX10_5 : w14.cell? ⟨w7.heap.size, 5, none⟩ = some (.slice T9_5 n1_5 tc9_5) := KX10.at_ rfl
      have xKX10_6 : w14.cell? ⟨w7.heap.size, 6, none⟩ = some (.slice T9_6 n1_6 tc9_6) := KX10.at_ rfl
      have xKX10_7 : w14.cell? ⟨w7.heap.size, 7, none⟩ = some (.int .i64 p1_7) := KX10.at_ rfl
      go_wp2_with fail
      refine Calls.mono (mark_package p1_0 p1_1 p1_2 _ T9_3 n1_3 tc9_3 _ _ _ T9_4 n1_4 tc9_4 _ _ _ T9_5 n1_5 tc9_5 _ _ _ T9_6 n1_6 tc9_6 _ _ p1_7 (1 + n0_3 * 7 + n0_4 * 3 + n0_5 * 8 + n0_6 * 4) ((w6.alloc (.cells #[.int .i64 p0_0, .int .i64 p0_1, .int .i64 p0_2, .slice T6_3 n0_3 tc6_3, .slice T6_4 n0_4 tc6_4, .slice T6_5 n0_5 tc6_5, .slice T6_6 n0_6 tc6_6, .int .i64 p0_7] 35)).heap.size) w7.heap.size _ (by omega) (by omega) (by omega) (by omega) (by omega) (by have := S0.out; have := S1.out; have := S2.out; have := S3.out; have := S4.out; have := S5.out; have := S6.out; have := SA8.out; have := S7.out; have := SA11.out; have := S8.out; have := S9.out; have := S10.out; have := S11.out; have := S12.out; have := S13.out; have := S14.out; have := MT3.out; unfold SepPackage at this; have := MT4.out; unfold SepPackage at this; have := MT6.out; unfold SepPackage at this; have := MT9.out; unfold SepPackage at this; have := MT14.out; unfold SepPackage at this; have := MT16.out; unfold SepPackage at this; omega) MT9 FT9_3 FT9_4 FT9_5 FT9_6) ?_
      rintro e w15 ⟨rfl, FM19_3, FM19_4, FM19_5, FM19_6, B19⟩
      replace R0_3 := (R0_3).chg B19 (by have := S0.out; have := S1.out; have := S2.out; have := S3.out; have := S4.out; have := S5.out; have := S6.out; have := SA8.out; have := S7.out; have := SA11.out; have := S8.out; have := S9.out; have := S10.out; have := S11.out; have := S12.out; have := S13.out; have := S14.out; have := MT3.out; unfold SepPackage at this; have := MT4.out; unfold SepPackage at this; have := MT6.out; unfold SepPackage at this; have := MT9.out; unfold SepPackage at this; have := MT14.out; unfold SepPackage at this; have := MT16.out; unfold SepPackage at this; omega)
      replace R0_4 := (R0_4).chg B19 (by have := S0.out; have := S1.out; have := S2.out; have := S3.out; have := S4.out; have := S5.out; have := S6.out; have := SA8.out; have := S7.out; have := SA11.out; have := S8.out; have := S9.out; have := S10.out; have := S11.out; have := S12.out; have := S13.out; have := S14.out; have := MT3.out; unfold SepPackage at this; have := MT4.out; unfold SepPackage at this; have := MT6.out; unfold SepPackage at this; have := MT9.out; unfold SepPackage at this; have := MT14.out; unfold SepPackage at this; have := MT16.out; unfold SepPackage at this; omega)
      replace R0_5 := (R0_5).chg B19 (by have := S0.out; have := S1.out; have := S2.out; have := S3.out; have := S4.out; have := S5.out; have := S6.out; have := SA8.out; have := S7.out; have := SA11.out; have := S8.out; have := S9.out; have := S10.out; have := S11.out; have := S12.out; have := S13.out; have := S14.out; have := MT3.out; unfold SepPackage at this; have := MT4.out; unfold SepPackage at this; have := MT6.out; unfold SepPackage at this; have := MT9.out; unfold SepPackage at this; have := MT14.out; unfold SepPackage at this; have := MT16.out; unfold SepPackage at this; omega)
      replace R0_6 := (R0_6).chg B19 (by have := S0.out; have := S1.out; have := S2.out; have := S3.out; have := S4.out; have := S5.out; have := S6.out; have := SA8.out; have := S7.out; have := SA11.out; have := S8.out; have := S9.out; have := S10.out; have := S11.out; have := S12.out; have := S13.out; have := S14.out; have := MT3.out; unfold SepPackage at this; have := MT4.out; unfold SepPackage at this; have := MT6.out; unfold SepPackage at this; have := MT9.out; unfold SepPackage at this; have := MT14.out; unfold SepPackage at this; have := MT16.out; unfold SepPackage at this; omega)
      replace R1_3 := (R1_3).chg B19 (by have := S0.out; have := S1.out; have := S2.out; have := S3.out; have := S4.out; have := S5.out; have := S6.out; have := SA8.out; have := S7.out; have := SA11.out; have := S8.out; have := S9.out; have := S10.out; have := S11.out; have := S12.out; have := S13.out; have := S14.out; have := MT3.out; unfold SepPackage at this; have := MT4.out; unfold SepPackage at this; have := MT6.out; unfold SepPackage at this; have := MT9.out; unfold SepPackage at this; have := MT14.out; unfold SepPackage at this; have := MT16.out; unfold SepPackage at this; omega)
      replace R1_4 := (R1_4).chg B19 (by have := S0.out; have := S1.out; have := S2.out; have := S3.out; have := S4.out; have := S5.out; have := S6.out; have := SA8.out; have := S7.out; have := SA11.out; have := S8.out; have := S9.out; have := S10.out; have := S11.out; have := S12.out; have := S13.out; have := S14.out; have := MT3.out; unfold SepPackage at this; have := MT4.out; unfold SepPackage at this; have := MT6.out; unfold SepPackage at this; have := MT9.out; unfold SepPackage at this; have := MT14.out; unfold SepPackage at this; have := MT16.out; unfold SepPackage at this; omega)
      replace R1_5 := (R1_5).chg B19 (by have := S0.out; have := S1.out; have := S2.out; have := S3.out; have := S4.out; have := S5.out; have := S6.out; have := SA8.out; have := S7.out; have := SA11.out; have := S8.out; have := S9.out; have := S10.out; have := S11.out; have := S12.out; have := S13.out; have := S14.out; have := MT3.out; unfold SepPackage at this; have := MT4.out; unfold SepPackage at this; have := MT6.out; unfold SepPackage at this; have := MT9.out; unfold SepPackage at this; have := MT14.out; unfold SepPackage at this; have := MT16.out; unfold SepPackage at this; omega)
      replace R1_6 := (R1_6).chg B19 (by have := S0.out; have := S1.out; have := S2.out; have := S3.out; have := S4.out; have := S5.out; have := S6.out; have := SA8.out; have := S7.out; have := SA11.out; have := S8.out; have := S9.out; have := S10.out; have := S11.out; have := S12.out; have := S13.out; have := S14.out; have := MT3.out; unfold SepPackage at this; have := MT4.out; unfold SepPackage at this; have := MT6.out; unfold SepPackage at this; have := MT9.out; unfold SepPackage at this; have := MT14.out; unfold SepPackage at this; have := MT16.out; unfold SepPackage at this; omega)
      replace KB0 := (KB0).chg B19 (by have := S0.out; have := S1.out; have := S2.out; have := S3.out; have := S4.out; have := S5.out; have := S6.out; have := SA8.out; have := S7.out; have := SA11.out; have := S8.out; have := S9.out; have := S10.out; have := S11.out; have := S12.out; have := S13.out; have := S14.out; have := MT3.out; unfold SepPackage at this; have := MT4.out; unfold SepPackage at this; have := MT6.out; unfold SepPackage at this; have := MT9.out; unfold SepPackage at this; have := MT14.out; unfold SepPackage at this; have := MT16.out; unfold SepPackage at this; omega)
      replace KB1 := (KB1).chg B19 (by have := S0.out; have := S1.out; have := S2.out; have := S3.out; have := S4.out; have := S5.out; have := S6.out; have := SA8.out; have := S7.out; have := SA11.out; have := S8.out; have := S9.out; have := S10.out; have := S11.out; have := S12.out; have := S13.out; have := S14.out; have := MT3.out; unfold SepPackage at this; have := MT4.out; unfold SepPackage at this; have := MT6.out; unfold SepPackage at this; have := MT9.out; unfold SepPackage at this; have := MT14.out; unfold SepPackage at this; have := MT16.out; unfold SepPackage at this; omega)
      replace FP5_0 := (FP5_0).chg B19 (by have := S0.out; have := S1.out; have := S2.out; have := S3.out; have := S4.out; have := S5.out; have := S6.out; have := SA8.out; have := S7.out; have := SA11.out; have := S8.out; have := S9.out; have := S10.out; have := S11.out; have := S12.out; have := S13.out; have := S14.out; have := MT3.out; unfold SepPackage at this; have := MT4.out; unfold SepPackage at this; have := MT6.out; unfold SepPackage at this; have := MT9.out; unfold SepPackage at this; have := MT14.out; unfold SepPackage at this; have := MT16.out; unfold SepPackage at this; omega)
      replace KX7 := (KX7).chg B19 (by have := S0.out; have := S1.out; have := S2.out; have := S3.out; have := S4.out; have := S5.out; have := S6.out; have := SA8.out; have := S7.out; have := SA11.out; have := S8.out; have := S9.out; have := S10.out; have := S11.out; have := S12.out; have := S13.out; have := S14.out; have := MT3.out; unfold SepPackage at this; have := MT4.out; unfold SepPackage at this; have := MT6.out; unfold SepPackage at this; have := MT9.out; unfold SepPackage at this; have := MT14.out; unfold SepPackage at this; have := MT16.out; unfold SepPackage at this; omega)
      replace KX10 := (KX10).chg B19 (by have := S0.out; have := S1.out; have := S2.out; have := S3.out; have := S4.out; have := S5.out; have := S6.out; have := SA8.out; have := S7.out; have := SA11.out; have := S8.out; have := S9.out; have := S10.out; have := S11.out; have := S12.out; have := S13.out; have := S14.out; have := MT3.out; unfold SepPackage at this; have := MT4.out; unfold SepPackage at this; have := MT6.out; unfold SepPackage at this; have := MT9.out; unfold SepPackage at this; have := MT14.out; unfold SepPackage at this; have := MT16.out; unfold SepPackage at this; omega)
      replace FP12_0 := (FP12_0).chg B19 (by have := S0.out; have := S1.out; have := S2.out; have := S3.out; have := S4.out; have := S5.out; have := S6.out; have := SA8.out; have := S7.out; have := SA11.out; have := S8.out; have := S9.out; have := S10.out; have := S11.out; have := S12.out; have := S13.out; have := S14.out; have := MT3.out; unfold SepPackage at this; have := MT4.out; unfold SepPackage at this; have := MT6.out; unfold SepPackage at this; have := MT9.out; unfold SepPackage at this; have := MT14.out; unfold SepPackage at this; have := MT16.out; unfold SepPackage at this; omega)
      replace FM18_3 := (FM18_3).chg B19 (by have := S0.out; have := S1.out; have := S2.out; have := S3.out; have := S4.out; have := S5.out; have := S6.out; have := SA8.out; have := S7.out; have := SA11.out; have := S8.out; have := S9.out; have := S10.out; have := S11.out; have := S12.out; have := S13.out; have := S14.out; have := MT3.out; unfold SepPackage at this; have := MT4.out; unfold SepPackage at this; have := MT6.out; unfold SepPackage at this; have := MT9.out; unfold SepPackage at this; have := MT14.out; unfold SepPackage at this; have := MT16.out; unfold SepPackage at this; omega)
      replace FM18_4 := (FM18_4).chg B19 (by have := S0.out; have := S1.out; have := S2.out; have := S3.out; have := S4.out; have := S5.out; have := S6.out; have := SA8.out; have := S7.out; have := SA11.out; have := S8.out; have := S9.out; have := S10.out; have := S11.out; have := S12.out; have := S13.out; have := S14.out; have := MT3.out; unfold SepPackage at this; have := MT4.out; unfold SepPackage at this; have := MT6.out; unfold SepPackage at this; have := MT9.out; unfold SepPackage at this; have := MT14.out; unfold SepPackage at this; have := MT16.out; unfold SepPackage at this; omega)
      replace FM18_5 := (FM18_5).chg B19 (by have := S0.out; have := S1.out; have := S2.out; have := S3.out; have := S4.out; have := S5.out; have := S6.out; have := SA8.out; have := S7.out; have := SA11.out; have := S8.out; have := S9.out; have := S10.out; have := S11.out; have := S12.out; have := S13.out; have := S14.out; have := MT3.out; unfold SepPackage at this; have := MT4.out; unfold SepPackage at this; have := MT6.out; unfold SepPackage at this; have := MT9.out; unfold SepPackage at this; have := MT14.out; unfold SepPackage at this; have := MT16.out; unfold SepPackage at this; omega)
      replace FM18_6 := (FM18_6).chg B19 (by have := S0.out; have := S1.out; have := S2.out; have := S3.out; have := S4.out; have := S5.out; have := S6.out; have := SA8.out; have := S7.out; have := SA11.out; have := S8.out; have := S9.out; have := S10.out; have := S11.out; have := S12.out; have := S13.out; have := S14.out; have := MT3.out; unfold SepPackage at this; have := MT4.out; unfold SepPackage at this; have := MT6.out; unfold SepPackage at this; have := MT9.out; unfold SepPackage at this; have := MT14.out; unfold SepPackage at this; have := MT16.out; unfold SepPackage at this; omega)
      replace G := G.trans (B19.below (.inl (by have := S0.out; have := S1.out; have := S2.out; have := S3.out; have := S4.out; have := S5.out; have := S6.out; have := SA8.out; have := S7.out; have := SA11.out; have := S8.out; have := S9.out; have := S10.out; have := S11.out; have := S12.out; have := S13.out; have := S14.out; have := MT3.out; unfold SepPackage at this; have := MT4.out; unfold SepPackage at this; have := MT6.out; unfold SepPackage at this; have := MT9.out; unfold SepPackage at this; have := MT14.out; unfold SepPackage at this; have := MT16.out; unfold SepPackage at this; omega)) (by have := S0.out; have := S1.out; have := S2.out; have := S3.out; have := S4.out; have := S5.out; have := S6.out; have := SA8.out; have := S7.out; have := SA11.out; have := S8.out; have := S9.out; have := S10.out; have := S11.out; have := S12.out; have := S13.out; have := S14.out; have := MT3.out; unfold SepPackage at this; have := MT4.out; unfold SepPackage at this; have := MT6.out; unfold SepPackage at this; have := MT9.out; unfold SepPackage at this; have := MT14.out; unfold SepPackage at this; have := MT16.out; unfold SepPackage at this; first | omega | (simp; omega)))
      have S15 := Lib.hid (show w14.heap.size + 0 ≤ w15.heap.size by have := B19.size; first | (simpa using this) | ((try simp at this); omega))
      clear FT9_3
      clear FT9_4
      clear FT9_5
      clear FT9_6
      clear B19
      clear xKX10_0 xKX10_1 xKX10_2 xKX10_3 xKX10_4 xKX10_5 xKX10_6 xKX10_7
      go_wp2_with fail
      refine Calls.mono (eq_grant_same ((l1_3.filter fun x => !(l0_3.any (mWithin x)))) P12_0 P5_0 (((l1_3.filter fun x => !(l0_3.any (mWithin x)))).length) (((l1_3.filter fun x => !(l0_3.any (mWithin x)))).length) pc12_0 pc5_0 _ _ _ _ _ (by omega) (by omega) FP12_0.rd FP5_0.rd) ?_
      rintro e w16 ⟨rfl, B20⟩
      replace R0_3 := (R0_3).new B20
      replace R0_4 := (R0_4).new B20
      replace R0_5 := (R0_5).new B20
      replace R0_6 := (R0_6).new B20
      replace R1_3 := (R1_3).new B20
      replace R1_4 := (R1_4).new B20
      replace R1_5 := (R1_5).new B20
      replace R1_6 := (R1_6).new B20
      replace KB0 := (KB0).new B20
      replace KB1 := (KB1).new B20
      replace FP5_0 := (FP5_0).new B20
      replace KX7 := (KX7).new B20
      replace KX10 := (KX10).new B20
      replace FP12_0 := (FP12_0).new B20
      replace FM18_3 := (FM18_3).new B20
      replace FM18_4 := (FM18_4).new B20
      replace FM18_5 := (FM18_5).new B20
      replace FM18_6 := (FM18_6).new B20
      replace FM19_3 := (FM19_3).new B20
      replace FM19_4 := (FM19_4).new B20
      replace FM19_5 := (FM19_5).new B20
      replace FM19_6 := (FM19_6).new B20
      replace G := below_trans G B20 (Nat.le_refl _)
      have S16 := Lib.hid (show w15.heap.size + 0 ≤ w16.heap.size by have := B20.size; first | (simpa using this) | ((try simp at this); omega))
      clear B20
      go_wp2_with fail
      refine Calls.mono (mark_grant _ P12_0 (((l1_3.filter fun x => !(l0_3.any (mWithin x)))).length) pc12_0 _ _ (1) _ (by omega) (by omega) FP12_0) ?_
      rintro e w17 ⟨rfl, FM21, B21, E21⟩
      replace R0_3 := (R0_3).chg B21 (by have := S0.out; have := S1.out; have := S2.out; have := S3.out; have := S4.out; have := S5.out; have := S6.out; have := SA8.out; have := S7.out; have := SA11.out; have := S8.out; have := S9.out; have := S10.out; have := S11.out; have := S12.out; have := S13.out; have := S14.out; have := S15.out; have := S16.out; have := MT3.out; unfold SepPackage at this; have := MT4.out; unfold SepPackage at this; have := MT6.out; unfold SepPackage at this; have := MT9.out; unfold SepPackage at this; have := MT14.out; unfold SepPackage at this; have := MT16.out; unfold SepPackage at this; omega)
      replace R0_4 := (R0_4).chg B21 (by have := S0.out; have := S1.out; have := S2.out; have := S3.out; have := S4.out; have := S5.out; have := S6.out; have := SA8.out; have := S7.out; have := SA11.out; have := S8.out; have := S9.out; have := S10.out; have := S11.out; have := S12.out; have := S13.out; have := S14.out; have := S15.out; have := S16.out; have := MT3.out; unfold SepPackage at this; have := MT4.out; unfold SepPackage at this; have := MT6.out; unfold SepPackage at this; have := MT9.out; unfold SepPackage at this; have := MT14.out; unfold SepPackage at this; have := MT16.out; unfold SepPackage at this; omega)
      replace R0_5 := (R0_5).chg B21 (by have := S0.out; have := S1.out; have := S2.out; have := S3.out; have := S4.out; have := S5.out; have := S6.out; have := SA8.out; have := S7.out; have := SA11.out; have := S8.out; have := S9.out; have := S10.out; have := S11.out; have := S12.out; have := S13.out; have := S14.out; have := S15.out; have := S16.out; have := MT3.out; unfold SepPackage at this; have := MT4.out; unfold SepPackage at this; have := MT6.out; unfold SepPackage at this; have := MT9.out; unfold SepPackage at this; have := MT14.out; unfold SepPackage at this; have := MT16.out; unfold SepPackage at this; omega)
      replace R0_6 := (R0_6).chg B21 (by have := S0.out; have := S1.out; have := S2.out; have := S3.out; have := S4.out; have := S5.out; have := S6.out; have := SA8.out; have := S7.out; have := SA11.out; have := S8.out; have := S9.out; have := S10.out; have := S11.out; have := S12.out; have := S13.out; have := S14.out; have := S15.out; have := S16.out; have := MT3.out; unfold SepPackage at this; have := MT4.out; unfold SepPackage at this; have := MT6.out; unfold SepPackage at this; have := MT9.out; unfold SepPackage at this; have := MT14.out; unfold SepPackage at this; have := MT16.out; unfold SepPackage at this; omega)
      replace R1_3 := (R1_3).chg B21 (by have := S0.out; have := S1.out; have := S2.out; have := S3.out; have := S4.out; have := S5.out; have := S6.out; have := SA8.out; have := S7.out; have := SA11.out; have := S8.out; have := S9.out; have := S10.out; have := S11.out; have := S12.out; have := S13.out; have := S14.out; have := S15.out; have := S16.out; have := MT3.out; unfold SepPackage at this; have := MT4.out; unfold SepPackage at this; have := MT6.out; unfold SepPackage at this; have := MT9.out; unfold SepPackage at this; have := MT14.out; unfold SepPackage at this; have := MT16.out; unfold SepPackage at this; omega)
      replace R1_4 := (R1_4).chg B21 (by have := S0.out; have := S1.out; have := S2.out; have := S3.out; have := S4.out; have := S5.out; have := S6.out; have := SA8.out; have := S7.out; have := SA11.out; have := S8.out; have := S9.out; have := S10.out; have := S11.out; have := S12.out; have := S13.out; have := S14.out; have := S15.out; have := S16.out; have := MT3.out; unfold SepPackage at this; have := MT4.out; unfold SepPackage at this; have := MT6.out; unfold SepPackage at this; have := MT9.out; unfold SepPackage at this; have := MT14.out; unfold SepPackage at this; have := MT16.out; unfold SepPackage at this; omega)
      replace R1_5 := (R1_5).chg B21 (by have := S0.out; have := S1.out; have := S2.out; have := S3.out; have := S4.out; have := S5.out; have := S6.out; have := SA8.out; have := S7.out; have := SA11.out; have := S8.out; have := S9.out; have := S10.out; have := S11.out; have := S12.out; have := S13.out; have := S14.out; have := S15.out; have := S16.out; have := MT3.out; unfold SepPackage at this; have := MT4.out; unfold SepPackage at this; have := MT6.out; unfold SepPackage at this; have := MT9.out; unfold SepPackage at this; have := MT14.out; unfold SepPackage at this; have := MT16.out; unfold SepPackage at this; omega)
      replace R1_6 := (R1_6).chg B21 (by have := S0.out; have := S1.out; have := S2.out; have := S3.out; have := S4.out; have := S5.out; have := S6.out; have := SA8.out; have := S7.out; have := SA11.out; have := S8.out; have := S9.out; have := S10.out; have := S11.out; have := S12.out; have := S13.out; have := S14.out; have := S15.out; have := S16.out; have := MT3.out; unfold SepPackage at this; have := MT4.out; unfold SepPackage at this; have := MT6.out; unfold SepPackage at this; have := MT9.out; unfold SepPackage at this; have := MT14.out; unfold SepPackage at this; have := MT16.out; unfold SepPackage at this; omega)
      replace KB0 := (KB0).chg B21 (by have := S0.out; have := S1.out; have := S2.out; have := S3.out; have := S4.out; have := S5.out; have := S6.out; have := SA8.out; have := S7.out; have := SA11.out; have := S8.out; have := S9.out; have := S10.out; have := S11.out; have := S12.out; have := S13.out; have := S14.out; have := S15.out; have := S16.out; have := MT3.out; unfold SepPackage at this; have := MT4.out; unfold SepPackage at this; have := MT6.out; unfold SepPackage at this; have := MT9.out; unfold SepPackage at this; have := MT14.out; unfold SepPackage at this; have := MT16.out; unfold SepPackage at this; omega)
      replace KB1 := (KB1).chg B21 (by have := S0.out; have := S1.out; have := S2.out; have := S3.out; have := S4.out; have := S5.out; have := S6.out; have := SA8.out; have := S7.out; have := SA11.out; have := S8.out; have := S9.out; have := S10.out; have := S11.out; have := S12.out; have := S13.out; have := S14.out; have := S15.out; have := S16.out; have := MT3.out; unfold SepPackage at this; have := MT4.out; unfold SepPackage at this; have := MT6.out; unfold SepPackage at this; have := MT9.out; unfold SepPackage at this; have := MT14.out; unfold SepPackage at this; have := MT16.out; unfold SepPackage at this; omega)
      replace FP5_0 := (FP5_0).chg B21 (by have := S0.out; have := S1.out; have := S2.out; have := S3.out; have := S4.out; have := S5.out; have := S6.out; have := SA8.out; have := S7.out; have := SA11.out; have := S8.out; have := S9.out; have := S10.out; have := S11.out; have := S12.out; have := S13.out; have := S14.out; have := S15.out; have := S16.out; have := MT3.out; unfold SepPackage at this; have := MT4.out; unfold SepPackage at this; have := MT6.out; unfold SepPackage at this; have := MT9.out; unfold SepPackage at this; have := MT14.out; unfold SepPackage at this; have := MT16.out; unfold SepPackage at this; omega)
      replace KX7 := (KX7).chg B21 (by have := S0.out; have := S1.out; have := S2.out; have := S3.out; have := S4.out; have := S5.out; have := S6.out; have := SA8.out; have := S7.out; have := SA11.out; have := S8.out; have := S9.out; have := S10.out; have := S11.out; have := S12.out; have := S13.out; have := S14.out; have := S15.out; have := S16.out; have := MT3.out; unfold SepPackage at this; have := MT4.out; unfold SepPackage at this; have := MT6.out; unfold SepPackage at this; have := MT9.out; unfold SepPackage at this; have := MT14.out; unfold SepPackage at this; have := MT16.out; unfold SepPackage at this; omega)
      replace KX10 := (KX10).chg B21 (by have := S0.out; have := S1.out; have := S2.out; have := S3.out; have := S4.out; have := S5.out; have := S6.out; have := SA8.out; have := S7.out; have := SA11.out; have := S8.out; have := S9.out; have := S10.out; have := S11.out; have := S12.out; have := S13.out; have := S14.out; have := S15.out; have := S16.out; have := MT3.out; unfold SepPackage at this; have := MT4.out; unfold SepPackage at this; have := MT6.out; unfold SepPackage at this; have := MT9.out; unfold SepPackage at this; have := MT14.out; unfold SepPackage at this; have := MT16.out; unfold SepPackage at this; omega)
      replace FM18_3 := (FM18_3).chg B21 (by have := S0.out; have := S1.out; have := S2.out; have := S3.out; have := S4.out; have := S5.out; have := S6.out; have := SA8.out; have := S7.out; have := SA11.out; have := S8.out; have := S9.out; have := S10.out; have := S11.out; have := S12.out; have := S13.out; have := S14.out; have := S15.out; have := S16.out; have := MT3.out; unfold SepPackage at this; have := MT4.out; unfold SepPackage at this; have := MT6.out; unfold SepPackage at this; have := MT9.out; unfold SepPackage at this; have := MT14.out; unfold SepPackage at this; have := MT16.out; unfold SepPackage at this; omega)
      replace FM18_4 := (FM18_4).chg B21 (by have := S0.out; have := S1.out; have := S2.out; have := S3.out; have := S4.out; have := S5.out; have := S6.out; have := SA8.out; have := S7.out; have := SA11.out; have := S8.out; have := S9.out; have := S10.out; have := S11.out; have := S12.out; have := S13.out; have := S14.out; have := S15.out; have := S16.out; have := MT3.out; unfold SepPackage at this; have := MT4.out; unfold SepPackage at this; have := MT6.out; unfold SepPackage at this; have := MT9.out; unfold SepPackage at this; have := MT14.out; unfold SepPackage at this; have := MT16.out; unfold SepPackage at this; omega)
      replace FM18_5 := (FM18_5).chg B21 (by have := S0.out; have := S1.out; have := S2.out; have := S3.out; have := S4.out; have := S5.out; have := S6.out; have := SA8.out; have := S7.out; have := SA11.out; have := S8.out; have := S9.out; have := S10.out; have := S11.out; have := S12.out; have := S13.out; have := S14.out; have := S15.out; have := S16.out; have := MT3.out; unfold SepPackage at this; have := MT4.out; unfold SepPackage at this; have := MT6.out; unfold SepPackage at this; have := MT9.out; unfold SepPackage at this; have := MT14.out; unfold SepPackage at this; have := MT16.out; unfold SepPackage at this; omega)
      replace FM18_6 := (FM18_6).chg B21 (by have := S0.out; have := S1.out; have := S2.out; have := S3.out; have := S4.out; have := S5.out; have := S6.out; have := SA8.out; have := S7.out; have := SA11.out; have := S8.out; have := S9.out; have := S10.out; have := S11.out; have := S12.out; have := S13.out; have := S14.out; have := S15.out; have := S16.out; have := MT3.out; unfold SepPackage at this; have := MT4.out; unfold SepPackage at this; have := MT6.out; unfold SepPackage at this; have := MT9.out; unfold SepPackage at this; have := MT14.out; unfold SepPackage at this; have := MT16.out; unfold SepPackage at this; omega)
      replace FM19_3 := (FM19_3).chg B21 (by have := S0.out; have := S1.out; have := S2.out; have := S3.out; have := S4.out; have := S5.out; have := S6.out; have := SA8.out; have := S7.out; have := SA11.out; have := S8.out; have := S9.out; have := S10.out; have := S11.out; have := S12.out; have := S13.out; have := S14.out; have := S15.out; have := S16.out; have := MT3.out; unfold SepPackage at this; have := MT4.out; unfold SepPackage at this; have := MT6.out; unfold SepPackage at this; have := MT9.out; unfold SepPackage at this; have := MT14.out; unfold SepPackage at this; have := MT16.out; unfold SepPackage at this; omega)
      replace FM19_4 := (FM19_4).chg B21 (by have := S0.out; have := S1.out; have := S2.out; have := S3.out; have := S4.out; have := S5.out; have := S6.out; have := SA8.out; have := S7.out; have := SA11.out; have := S8.out; have := S9.out; have := S10.out; have := S11.out; have := S12.out; have := S13.out; have := S14.out; have := S15.out; have := S16.out; have := MT3.out; unfold SepPackage at this; have := MT4.out; unfold SepPackage at this; have := MT6.out; unfold SepPackage at this; have := MT9.out; unfold SepPackage at this; have := MT14.out; unfold SepPackage at this; have := MT16.out; unfold SepPackage at this; omega)
      replace FM19_5 := (FM19_5).chg B21 (by have := S0.out; have := S1.out; have := S2.out; have := S3.out; have := S4.out; have := S5.out; have := S6.out; have := SA8.out; have := S7.out; have := SA11.out; have := S8.out; have := S9.out; have := S10.out; have := S11.out; have := S12.out; have := S13.out; have := S14.out; have := S15.out; have := S16.out; have := MT3.out; unfold SepPackage at this; have := MT4.out; unfold SepPackage at this; have := MT6.out; unfold SepPackage at this; have := MT9.out; unfold SepPackage at this; have := MT14.out; unfold SepPackage at this; have := MT16.out; unfold SepPackage at this; omega)
      replace FM19_6 := (FM19_6).chg B21 (by have := S0.out; have := S1.out; have := S2.out; have := S3.out; have := S4.out; have := S5.out; have := S6.out; have := SA8.out; have := S7.out; have := SA11.out; have := S8.out; have := S9.out; have := S10.out; have := S11.out; have := S12.out; have := S13.out; have := S14.out; have := S15.out; have := S16.out; have := MT3.out; unfold SepPackage at this; have := MT4.out; unfold SepPackage at this; have := MT6.out; unfold SepPackage at this; have := MT9.out; unfold SepPackage at this; have := MT14.out; unfold SepPackage at this; have := MT16.out; unfold SepPackage at this; omega)
      replace G := G.trans (B21.below (.inl (by have := S0.out; have := S1.out; have := S2.out; have := S3.out; have := S4.out; have := S5.out; have := S6.out; have := SA8.out; have := S7.out; have := SA11.out; have := S8.out; have := S9.out; have := S10.out; have := S11.out; have := S12.out; have := S13.out; have := S14.out; have := S15.out; have := S16.out; have := MT3.out; unfold SepPackage at this; have := MT4.out; unfold SepPackage at this; have := MT6.out; unfold SepPackage at this; have := MT9.out; unfold SepPackage at this; have := MT14.out; unfold SepPackage at this; have := MT16.out; unfold SepPackage at this; omega)) (by have := S0.out; have := S1.out; have := S2.out; have := S3.out; have := S4.out; have := S5.out; have := S6.out; have := SA8.out; have := S7.out; have := SA11.out; have := S8.out; have := S9.out; have := S10.out; have := S11.out; have := S12.out; have := S13.out; have := S14.out; have := S15.out; have := S16.out; have := MT3.out; unfold SepPackage at this; have := MT4.out; unfold SepPackage at this; have := MT6.out; unfold SepPackage at this; have := MT9.out; unfold SepPackage at this; have := MT14.out; unfold SepPackage at this; have := MT16.out; unfold SepPackage at this; first | omega | (simp; omega)))
      have S17 := Lib.hid (show w16.heap.size + 0 ≤ w17.heap.size by have := B21.size; first | (simpa using this) | ((try simp at this); omega))
      clear FP12_0
      clear E21
      clear B21
      go_wp2_with fail
      refine Calls.mono (held_grant P12_0 (((l1_3.filter fun x => !(l0_3.any (mWithin x)))).length) pc12_0 _ _ (1) _ (by omega) (by omega) FM21.rd) ?_
      rintro e w18 hq
      obtain ⟨rfl, B22⟩ := hq.says
      replace R0_3 := (R0_3).new B22
      replace R0_4 := (R0_4).new B22
      replace R0_5 := (R0_5).new B22
      replace R0_6 := (R0_6).new B22
      replace R1_3 := (R1_3).new B22
      replace R1_4 := (R1_4).new B22
      replace R1_5 := (R1_5).new B22
      replace R1_6 := (R1_6).new B22
      replace KB0 := (KB0).new B22
      replace KB1 := (KB1).new B22
      replace FP5_0 := (FP5_0).new B22
      replace KX7 := (KX7).new B22
      replace KX10 := (KX10).new B22
      replace FM18_3 := (FM18_3).new B22
      replace FM18_4 := (FM18_4).new B22
      replace FM18_5 := (FM18_5).new B22
      replace FM18_6 := (FM18_6).new B22
      replace FM19_3 := (FM19_3).new B22
      replace FM19_4 := (FM19_4).new B22
      replace FM19_5 := (FM19_5).new B22
      replace FM19_6 := (FM19_6).new B22
      replace FM21 := (FM21).new B22
      replace G := below_trans G B22 (Nat.le_refl _)
      have S18 := Lib.hid (show w17.heap.size + 0 ≤ w18.heap.size by have := B22.size; first | (simpa using this) | ((try simp at this); omega))
      clear B22
      go_wp2_with fail
      replace G := G.drew
      replace R0_3 := R0_3.drw
      replace R0_4 := R0_4.drw
      replace R0_5 := R0_5.drw
      replace R0_6 := R0_6.drw
      replace R1_3 := R1_3.drw
      replace R1_4 := R1_4.drw
      replace R1_5 := R1_5.drw
      replace R1_6 := R1_6.drw
      replace KB0 := KB0.drw
      replace KB1 := KB1.drw
      replace FP5_0 := FP5_0.drw
      replace KX7 := KX7.drw
      replace KX10 := KX10.drw
      replace FM18_3 := FM18_3.drw
      replace FM18_4 := FM18_4.drw
      replace FM18_5 := FM18_5.drw
      replace FM18_6 := FM18_6.drw
      replace FM19_3 := FM19_3.drw
      replace FM19_4 := FM19_4.drw
      replace FM19_5 := FM19_5.drw
      replace FM19_6 := FM19_6.drw
      replace FM21 := FM21.drw
      go_region_held3 (fun w' => w'.cell? ⟨w.heap.size, 0, none⟩ = some (.int .i64 p0_0) ∧ w'.cell? ⟨w.heap.size, 1, none⟩ = some (.int .i64 p0_1) ∧ w'.cell? ⟨w.heap.size, 2, none⟩ = some (.int .i64 p0_2) ∧ w'.cell? ⟨w.heap.size, 3, none⟩ = some (.slice A0_3 n0_3 c0_3) ∧ w'.cell? ⟨w.heap.size, 4, none⟩ = some (.slice A0_4 n0_4 c0_4) ∧ w'.cell? ⟨w.heap.size, 5, none⟩ = some (.slice A0_5 n0_5 c0_5) ∧ w'.cell? ⟨w.heap.size, 6, none⟩ = some (.slice A0_6 n0_6 c0_6) ∧ w'.cell? ⟨w.heap.size, 7, none⟩ = some (.int .i64 p0_7) ∧ w'.cell? ⟨w.heap.size + 1, 0, none⟩ = some (.int .i64 p1_0) ∧ w'.cell? ⟨w.heap.size + 1, 1, none⟩ = some (.int .i64 p1_1) ∧ w'.cell? ⟨w.heap.size + 1, 2, none⟩ = some (.int .i64 p1_2) ∧ w'.cell? ⟨w.heap.size + 1, 3, none⟩ = some (.slice A1_3 n1_3 c1_3) ∧ w'.cell? ⟨w.heap.size + 1, 4, none⟩ = some (.slice A1_4 n1_4 c1_4) ∧ w'.cell? ⟨w.heap.size + 1, 5, none⟩ = some (.slice A1_5 n1_5 c1_5) ∧ w'.cell? ⟨w.heap.size + 1, 6, none⟩ = some (.slice A1_6 n1_6 c1_6) ∧ w'.cell? ⟨w.heap.size + 1, 7, none⟩ = some (.int .i64 p1_7))
        (exact ⟨KB0.at_ rfl, KB0.at_ rfl, KB0.at_ rfl, KB0.at_ rfl, KB0.at_ rfl, KB0.at_ rfl, KB0.at_ rfl, KB0.at_ rfl, KB1.at_ rfl, KB1.at_ rfl, KB1.at_ rfl, KB1.at_ rfl, KB1.at_ rfl, KB1.at_ rfl, KB1.at_ rfl, KB1.at_ rfl⟩)
        (first
          | (go_at_call 17; (fail_if_success (have hx := B23)); refine Calls.mono (to_package p0_0 p0_1 p0_2 l0_3 A0_3 n0_3 c0_3 _ _ l0_4 A0_4 n0_4 c0_4 _ _ l0_5 A0_5 n0_5 c0_5 _ _ l0_6 A0_6 n0_6 c0_6 _ _ p0_7 _ hqn0_3 R0_3 hqn0_4 R0_4 hqn0_5 R0_5 hqn0_6 R0_6) ?_; rintro e w19 ⟨T23_3, T23_4, T23_5, T23_6, tc23_3, tlo23_3, thi23_3, tc23_4, tlo23_4, thi23_4, tc23_5, tlo23_5, thi23_5, tc23_6, tlo23_6, thi23_6, rfl, FT23_3, FT23_4, FT23_5, FT23_6, MT23, B23⟩; (replace R0_3 := rd_nw B23 R0_3); (replace R0_4 := rd_nw B23 R0_4); (replace R0_5 := rd_nw B23 R0_5); (replace R0_6 := rd_nw B23 R0_6); (replace R1_3 := rd_nw B23 R1_3); (replace R1_4 := rd_nw B23 R1_4); (replace R1_5 := rd_nw B23 R1_5); (replace R1_6 := rd_nw B23 R1_6); (replace KB0 := box_nw B23 KB0); (replace KB1 := box_nw B23 KB1); (replace FP5_0 := fr_nw B23 FP5_0); (replace KX7 := box_nw B23 KX7); (replace KX10 := box_nw B23 KX10); (replace FM18_3 := fr_nw B23 FM18_3); (replace FM18_4 := fr_nw B23 FM18_4); (replace FM18_5 := fr_nw B23 FM18_5); (replace FM18_6 := fr_nw B23 FM18_6); (replace FM19_3 := fr_nw B23 FM19_3); (replace FM19_4 := fr_nw B23 FM19_4); (replace FM19_5 := fr_nw B23 FM19_5); (replace FM19_6 := fr_nw B23 FM19_6); (replace FM21 := fr_nw B23 FM21); (replace G := (by first | exact below_trans G B23 (Nat.le_refl _) | exact below_trans G.drew B23 (Nat.le_refl _) | exact below_trans (below_dN G _) B23 (Nat.le_refl _))); (have S19 := Lib.hid (show w18.heap.size ≤ w19.heap.size from B23.size)))
          | (go_at_call 17; (fail_if_success (have hx := B24)); refine Calls.mono (to_package p1_0 p1_1 p1_2 l1_3 A1_3 n1_3 c1_3 _ _ l1_4 A1_4 n1_4 c1_4 _ _ l1_5 A1_5 n1_5 c1_5 _ _ l1_6 A1_6 n1_6 c1_6 _ _ p1_7 _ hqn1_3 R1_3 hqn1_4 R1_4 hqn1_5 R1_5 hqn1_6 R1_6) ?_; rintro e w20 ⟨T24_3, T24_4, T24_5, T24_6, tc24_3, tlo24_3, thi24_3, tc24_4, tlo24_4, thi24_4, tc24_5, tlo24_5, thi24_5, tc24_6, tlo24_6, thi24_6, rfl, FT24_3, FT24_4, FT24_5, FT24_6, MT24, B24⟩; (replace R0_3 := rd_nw B24 R0_3); (replace R0_4 := rd_nw B24 R0_4); (replace R0_5 := rd_nw B24 R0_5); (replace R0_6 := rd_nw B24 R0_6); (replace R1_3 := rd_nw B24 R1_3); (replace R1_4 := rd_nw B24 R1_4); (replace R1_5 := rd_nw B24 R1_5); (replace R1_6 := rd_nw B24 R1_6); (replace KB0 := box_nw B24 KB0); (replace KB1 := box_nw B24 KB1); (replace FP5_0 := fr_nw B24 FP5_0); (replace KX7 := box_nw B24 KX7); (replace KX10 := box_nw B24 KX10); (replace FM18_3 := fr_nw B24 FM18_3); (replace FM18_4 := fr_nw B24 FM18_4); (replace FM18_5 := fr_nw B24 FM18_5); (replace FM18_6 := fr_nw B24 FM18_6); (replace FM19_3 := fr_nw B24 FM19_3); (replace FM19_4 := fr_nw B24 FM19_4); (replace FM19_5 := fr_nw B24 FM19_5); (replace FM19_6 := fr_nw B24 FM19_6); (replace FM21 := fr_nw B24 FM21); (replace FT23_3 := fr_nw B24 FT23_3); (replace FT23_4 := fr_nw B24 FT23_4); (replace FT23_5 := fr_nw B24 FT23_5); (replace FT23_6 := fr_nw B24 FT23_6); (replace G := (by first | exact below_trans G B24 (Nat.le_refl _) | exact below_trans G.drew B24 (Nat.le_refl _) | exact below_trans (below_dN G _) B24 (Nat.le_refl _))); (have S20 := Lib.hid (show w19.heap.size ≤ w20.heap.size from B24.size)))
          | (go_at_call 23; (fail_if_success (have hx := B25)); refine Calls.mono (impl_WidenedGrantsC p0_0 p0_1 p0_2 l0_3 T23_3 n0_3 tc23_3 _ _ l0_4 T23_4 n0_4 tc23_4 _ _ l0_5 T23_5 n0_5 tc23_5 _ _ l0_6 T23_6 n0_6 tc23_6 _ _ p0_7 p1_0 p1_1 p1_2 l1_3 T24_3 n1_3 tc24_3 _ _ l1_4 T24_4 n1_4 tc24_4 _ _ l1_5 T24_5 n1_5 tc24_5 _ _ l1_6 T24_6 n1_6 tc24_6 _ _ p1_7 _ (by omega) FT23_3.rd FT23_3.cap H0_3 (by omega) FT23_4.rd FT23_4.cap H0_4 (by omega) FT23_5.rd FT23_5.cap H0_5 (by omega) FT23_6.rd FT23_6.cap H0_6 (by omega) FT24_3.rd FT24_3.cap H1_3 (by omega) FT24_4.rd FT24_4.cap H1_4 (by omega) FT24_5.rd FT24_5.cap H1_5 (by omega) FT24_6.rd FT24_6.cap H1_6) ?_; rintro e w21 ⟨P25_0, pc25_0, rfl, FP25_0, B25⟩; (replace R0_3 := rd_nw B25 R0_3); (replace R0_4 := rd_nw B25 R0_4); (replace R0_5 := rd_nw B25 R0_5); (replace R0_6 := rd_nw B25 R0_6); (replace R1_3 := rd_nw B25 R1_3); (replace R1_4 := rd_nw B25 R1_4); (replace R1_5 := rd_nw B25 R1_5); (replace R1_6 := rd_nw B25 R1_6); (replace KB0 := box_nw B25 KB0); (replace KB1 := box_nw B25 KB1); (replace FP5_0 := fr_nw B25 FP5_0); (replace KX7 := box_nw B25 KX7); (replace KX10 := box_nw B25 KX10); (replace FM18_3 := fr_nw B25 FM18_3); (replace FM18_4 := fr_nw B25 FM18_4); (replace FM18_5 := fr_nw B25 FM18_5); (replace FM18_6 := fr_nw B25 FM18_6); (replace FM19_3 := fr_nw B25 FM19_3); (replace FM19_4 := fr_nw B25 FM19_4); (replace FM19_5 := fr_nw B25 FM19_5); (replace FM19_6 := fr_nw B25 FM19_6); (replace FM21 := fr_nw B25 FM21); (replace FT23_3 := fr_nw B25 FT23_3); (replace FT23_4 := fr_nw B25 FT23_4); (replace FT23_5 := fr_nw B25 FT23_5); (replace FT23_6 := fr_nw B25 FT23_6); (replace FT24_3 := fr_nw B25 FT24_3); (replace FT24_4 := fr_nw B25 FT24_4); (replace FT24_5 := fr_nw B25 FT24_5); (replace FT24_6 := fr_nw B25 FT24_6); (replace G := (by first | exact below_trans G B25 (Nat.le_refl _) | exact below_trans G.drew B25 (Nat.le_refl _) | exact below_trans (below_dN G _) B25 (Nat.le_refl _))); (have S21 := Lib.hid (show w20.heap.size ≤ w21.heap.size from B25.size))))
      clear B23
      clear B24
      clear B25
      go_wp2_with fail
      refine Calls.mono (eq_grant_same ((l1_3.filter fun x => !(l0_3.any (mWithin x)))) P25_0 P5_0 (((l1_3.filter fun x => !(l0_3.any (mWithin x)))).length) (((l1_3.filter fun x => !(l0_3.any (mWithin x)))).length) pc25_0 pc5_0 _ _ _ _ _ (by omega) (by omega) FP25_0.rd FP5_0.rd) ?_
      rintro e w22 ⟨rfl, B26⟩
      replace R0_3 := (R0_3).new B26
      replace R0_4 := (R0_4).new B26
      replace R0_5 := (R0_5).new B26
      replace R0_6 := (R0_6).new B26
      replace R1_3 := (R1_3).new B26
      replace R1_4 := (R1_4).new B26
      replace R1_5 := (R1_5).new B26
      replace R1_6 := (R1_6).new B26
      replace KB0 := (KB0).new B26
      replace KB1 := (KB1).new B26
      replace FP5_0 := (FP5_0).new B26
      replace KX7 := (KX7).new B26
      replace KX10 := (KX10).new B26
      replace FM18_3 := (FM18_3).new B26
      replace FM18_4 := (FM18_4).new B26
      replace FM18_5 := (FM18_5).new B26
      replace FM18_6 := (FM18_6).new B26
      replace FM19_3 := (FM19_3).new B26
      replace FM19_4 := (FM19_4).new B26
      replace FM19_5 := (FM19_5).new B26
      replace FM19_6 := (FM19_6).new B26
      replace FM21 := (FM21).new B26
      replace FT23_3 := (FT23_3).new B26
      replace FT23_4 := (FT23_4).new B26
      replace FT23_5 := (FT23_5).new B26
      replace FT23_6 := (FT23_6).new B26
      replace FT24_3 := (FT24_3).new B26
      replace FT24_4 := (FT24_4).new B26
      replace FT24_5 := (FT24_5).new B26
      replace FT24_6 := (FT24_6).new B26
      replace FP25_0 := (FP25_0).new B26
      replace G := below_trans G B26 (Nat.le_refl _)
      have S22 := Lib.hid (show w21.heap.size + 0 ≤ w22.heap.size by have := B26.size; first | (simpa using this) | ((try simp at this); omega))
      clear B26
      go_wp2_with fail
      refine Calls.mono (held_grant P12_0 (((l1_3.filter fun x => !(l0_3.any (mWithin x)))).length) pc12_0 _ _ (1) _ (by omega) (by omega) FM21.rd) ?_
      rintro e w23 hq
      obtain ⟨rfl, B27⟩ := hq.says
      replace R0_3 := (R0_3).new B27
      replace R0_4 := (R0_4).new B27
      replace R0_5 := (R0_5).new B27
      replace R0_6 := (R0_6).new B27
      replace R1_3 := (R1_3).new B27
      replace R1_4 := (R1_4).new B27
      replace R1_5 := (R1_5).new B27
      replace R1_6 := (R1_6).new B27
      replace KB0 := (KB0).new B27
      replace KB1 := (KB1).new B27
      replace FP5_0 := (FP5_0).new B27
      replace KX7 := (KX7).new B27
      replace KX10 := (KX10).new B27
      replace FM18_3 := (FM18_3).new B27
      replace FM18_4 := (FM18_4).new B27
      replace FM18_5 := (FM18_5).new B27
      replace FM18_6 := (FM18_6).new B27
      replace FM19_3 := (FM19_3).new B27
      replace FM19_4 := (FM19_4).new B27
      replace FM19_5 := (FM19_5).new B27
      replace FM19_6 := (FM19_6).new B27
      replace FM21 := (FM21).new B27
      replace FT23_3 := (FT23_3).new B27
      replace FT23_4 := (FT23_4).new B27
      replace FT23_5 := (FT23_5).new B27
      replace FT23_6 := (FT23_6).new B27
      replace FT24_3 := (FT24_3).new B27
      replace FT24_4 := (FT24_4).new B27
      replace FT24_5 := (FT24_5).new B27
      replace FT24_6 := (FT24_6).new B27
      replace FP25_0 := (FP25_0).new B27
      replace G := below_trans G B27 (Nat.le_refl _)
      have S23 := Lib.hid (show w22.heap.size + 0 ≤ w23.heap.size by have := B27.size; first | (simpa using this) | ((try simp at this); omega))
      clear B27
      go_wp2_with fail
      go_ret
      exact ⟨rfl, G⟩
    · skip
      have G : Below w.heap.size w ((w.alloc (.cells #[.int .i64 p0_0, .int .i64 p0_1, .int .i64 p0_2, .slice A0_3 n0_3 c0_3, .slice A0_4 n0_4 c0_4, .slice A0_5 n0_5 c0_5, .slice A0_6 n0_6 c0_6, .int .i64 p0_7] 27)).alloc (.cells #[.int .i64 p1_0, .int .i64 p1_1, .int .i64 p1_2, .slice A1_3 n1_3 c1_3, .slice A1_4 n1_4 c1_4, .slice A1_5 n1_5 c1_5, .slice A1_6 n1_6 c1_6, .int .i64 p1_7] 27)) := ((Below.refl _ _).alloc (by simp) _).alloc (by simp) _
      have S0 := Lib.hid (show ((w.alloc (.cells #[.int .i64 p0_0, .int .i64 p0_1, .int .i64 p0_2, .slice A0_3 n0_3 c0_3, .slice A0_4 n0_4 c0_4, .slice A0_5 n0_5 c0_5, .slice A0_6 n0_6 c0_6, .int .i64 p0_7] 27)).alloc (.cells #[.int .i64 p1_0, .int .i64 p1_1, .int .i64 p1_2, .slice A1_3 n1_3 c1_3, .slice A1_4 n1_4 c1_4, .slice A1_5 n1_5 c1_5, .slice A1_6 n1_6 c1_6, .int .i64 p1_7] 27)).heap.size = w.heap.size + 2 by simp)
      replace R0_3 := R0_3.alloc (.cells #[.int .i64 p0_0, .int .i64 p0_1, .int .i64 p0_2, .slice A0_3 n0_3 c0_3, .slice A0_4 n0_4 c0_4, .slice A0_5 n0_5 c0_5, .slice A0_6 n0_6 c0_6, .int .i64 p0_7] 27)
      replace R0_4 := R0_4.alloc (.cells #[.int .i64 p0_0, .int .i64 p0_1, .int .i64 p0_2, .slice A0_3 n0_3 c0_3, .slice A0_4 n0_4 c0_4, .slice A0_5 n0_5 c0_5, .slice A0_6 n0_6 c0_6, .int .i64 p0_7] 27)
      replace R0_5 := R0_5.alloc (.cells #[.int .i64 p0_0, .int .i64 p0_1, .int .i64 p0_2, .slice A0_3 n0_3 c0_3, .slice A0_4 n0_4 c0_4, .slice A0_5 n0_5 c0_5, .slice A0_6 n0_6 c0_6, .int .i64 p0_7] 27)
      replace R0_6 := R0_6.alloc (.cells #[.int .i64 p0_0, .int .i64 p0_1, .int .i64 p0_2, .slice A0_3 n0_3 c0_3, .slice A0_4 n0_4 c0_4, .slice A0_5 n0_5 c0_5, .slice A0_6 n0_6 c0_6, .int .i64 p0_7] 27)
      replace R1_3 := R1_3.alloc (.cells #[.int .i64 p0_0, .int .i64 p0_1, .int .i64 p0_2, .slice A0_3 n0_3 c0_3, .slice A0_4 n0_4 c0_4, .slice A0_5 n0_5 c0_5, .slice A0_6 n0_6 c0_6, .int .i64 p0_7] 27)
      replace R1_4 := R1_4.alloc (.cells #[.int .i64 p0_0, .int .i64 p0_1, .int .i64 p0_2, .slice A0_3 n0_3 c0_3, .slice A0_4 n0_4 c0_4, .slice A0_5 n0_5 c0_5, .slice A0_6 n0_6 c0_6, .int .i64 p0_7] 27)
      replace R1_5 := R1_5.alloc (.cells #[.int .i64 p0_0, .int .i64 p0_1, .int .i64 p0_2, .slice A0_3 n0_3 c0_3, .slice A0_4 n0_4 c0_4, .slice A0_5 n0_5 c0_5, .slice A0_6 n0_6 c0_6, .int .i64 p0_7] 27)
      replace R1_6 := R1_6.alloc (.cells #[.int .i64 p0_0, .int .i64 p0_1, .int .i64 p0_2, .slice A0_3 n0_3 c0_3, .slice A0_4 n0_4 c0_4, .slice A0_5 n0_5 c0_5, .slice A0_6 n0_6 c0_6, .int .i64 p0_7] 27)
      have KB0 : BoxAt (w.alloc (.cells #[.int .i64 p0_0, .int .i64 p0_1, .int .i64 p0_2, .slice A0_3 n0_3 c0_3, .slice A0_4 n0_4 c0_4, .slice A0_5 n0_5 c0_5, .slice A0_6 n0_6 c0_6, .int .i64 p0_7] 27)) (w.heap.size) 27 #[.int .i64 p0_0, .int .i64 p0_1, .int .i64 p0_2, .slice A0_3 n0_3 c0_3, .slice A0_4 n0_4 c0_4, .slice A0_5 n0_5 c0_5, .slice A0_6 n0_6 c0_6, .int .i64 p0_7] := box_new _ _ _
      replace R0_3 := R0_3.alloc (.cells #[.int .i64 p1_0, .int .i64 p1_1, .int .i64 p1_2, .slice A1_3 n1_3 c1_3, .slice A1_4 n1_4 c1_4, .slice A1_5 n1_5 c1_5, .slice A1_6 n1_6 c1_6, .int .i64 p1_7] 27)
      replace R0_4 := R0_4.alloc (.cells #[.int .i64 p1_0, .int .i64 p1_1, .int .i64 p1_2, .slice A1_3 n1_3 c1_3, .slice A1_4 n1_4 c1_4, .slice A1_5 n1_5 c1_5, .slice A1_6 n1_6 c1_6, .int .i64 p1_7] 27)
      replace R0_5 := R0_5.alloc (.cells #[.int .i64 p1_0, .int .i64 p1_1, .int .i64 p1_2, .slice A1_3 n1_3 c1_3, .slice A1_4 n1_4 c1_4, .slice A1_5 n1_5 c1_5, .slice A1_6 n1_6 c1_6, .int .i64 p1_7] 27)
      replace R0_6 := R0_6.alloc (.cells #[.int .i64 p1_0, .int .i64 p1_1, .int .i64 p1_2, .slice A1_3 n1_3 c1_3, .slice A1_4 n1_4 c1_4, .slice A1_5 n1_5 c1_5, .slice A1_6 n1_6 c1_6, .int .i64 p1_7] 27)
      replace R1_3 := R1_3.alloc (.cells #[.int .i64 p1_0, .int .i64 p1_1, .int .i64 p1_2, .slice A1_3 n1_3 c1_3, .slice A1_4 n1_4 c1_4, .slice A1_5 n1_5 c1_5, .slice A1_6 n1_6 c1_6, .int .i64 p1_7] 27)
      replace R1_4 := R1_4.alloc (.cells #[.int .i64 p1_0, .int .i64 p1_1, .int .i64 p1_2, .slice A1_3 n1_3 c1_3, .slice A1_4 n1_4 c1_4, .slice A1_5 n1_5 c1_5, .slice A1_6 n1_6 c1_6, .int .i64 p1_7] 27)
      replace R1_5 := R1_5.alloc (.cells #[.int .i64 p1_0, .int .i64 p1_1, .int .i64 p1_2, .slice A1_3 n1_3 c1_3, .slice A1_4 n1_4 c1_4, .slice A1_5 n1_5 c1_5, .slice A1_6 n1_6 c1_6, .int .i64 p1_7] 27)
      replace R1_6 := R1_6.alloc (.cells #[.int .i64 p1_0, .int .i64 p1_1, .int .i64 p1_2, .slice A1_3 n1_3 c1_3, .slice A1_4 n1_4 c1_4, .slice A1_5 n1_5 c1_5, .slice A1_6 n1_6 c1_6, .int .i64 p1_7] 27)
      replace KB0 := KB0.alloc_ (.cells #[.int .i64 p1_0, .int .i64 p1_1, .int .i64 p1_2, .slice A1_3 n1_3 c1_3, .slice A1_4 n1_4 c1_4, .slice A1_5 n1_5 c1_5, .slice A1_6 n1_6 c1_6, .int .i64 p1_7] 27)
      have KB1 : BoxAt ((w.alloc (.cells #[.int .i64 p0_0, .int .i64 p0_1, .int .i64 p0_2, .slice A0_3 n0_3 c0_3, .slice A0_4 n0_4 c0_4, .slice A0_5 n0_5 c0_5, .slice A0_6 n0_6 c0_6, .int .i64 p0_7] 27)).alloc (.cells #[.int .i64 p1_0, .int .i64 p1_1, .int .i64 p1_2, .slice A1_3 n1_3 c1_3, .slice A1_4 n1_4 c1_4, .slice A1_5 n1_5 c1_5, .slice A1_6 n1_6 c1_6, .int .i64 p1_7] 27)) (w.heap.size + 1) 27 #[.int .i64 p1_0, .int .i64 p1_1, .int .i64 p1_2, .slice A1_3 n1_3 c1_3, .slice A1_4 n1_4 c1_4, .slice A1_5 n1_5 c1_5, .slice A1_6 n1_6 c1_6, .int .i64 p1_7] := by simpa using box_new (w.alloc (.cells #[.int .i64 p0_0, .int .i64 p0_1, .int .i64 p0_2, .slice A0_3 n0_3 c0_3, .slice A0_4 n0_4 c0_4, .slice A0_5 n0_5 c0_5, .slice A0_6 n0_6 c0_6, .int .i64 p0_7] 27)) 27 #[.int .i64 p1_0, .int .i64 p1_1, .int .i64 p1_2, .slice A1_3 n1_3 c1_3, .slice A1_4 n1_4 c1_4, .slice A1_5 n1_5 c1_5, .slice A1_6 n1_6 c1_6, .int .i64 p1_7]
      go_enter Try.func5, Try.ntmps5
      have xKB0_0 : ((w.alloc (.cells #[.int .i64 p0_0, .int .i64 p0_1, .int .i64 p0_2, .slice A0_3 n0_3 c0_3, .slice A0_4 n0_4 c0_4, .slice A0_5 n0_5 c0_5, .slice A0_6 n0_6 c0_6, .int .i64 p0_7] 27)).alloc (.cells #[.int .i64 p1_0, .int .i64 p1_1, .int .i64 p1_2, .slice A1_3 n1_3 c1_3, .slice A1_4 n1_4 c1_4, .slice A1_5 n1_5 c1_5, .slice A1_6 n1_6 c1_6, .int .i64 p1_7] 27)).cell? ⟨w.heap.size, 0, none⟩ = some (.int .i64 p0_0) := KB0.at_ rfl
      have xKB0_1 : ((w.alloc (.cells #[.int .i64 p0_0, .int .i64 p0_1, .int .i64 p0_2, .slice A0_3 n0_3 c0_3, .slice A0_4 n0_4 c0_4, .slice A0_5 n0_5 c0_5, .slice A0_6 n0_6 c0_6, .int .i64 p0_7] 27)).alloc (.cells #[.int .i64 p1_0, .int .i64 p1_1, .int .i64 p1_2, .slice A1_3 n1_3 c1_3, .slice A1_4 n1_4 c1_4, .slice A1_5 n1_5 c1_5, .slice A1_6 n1_6 c1_6, .int .i64 p1_7] 27)).cell? ⟨w.heap.size, 1, none⟩ = some (.int .i64 p0_1) := KB0.at_ rfl
      have xKB0_2 : ((w.alloc (.cells #[.int .i64 p0_0, .int .i64 p0_1, .int .i64 p0_2, .slice A0_3 n0_3 c0_3, .slice A0_4 n0_4 c0_4, .slice A0_5 n0_5 c0_5, .slice A0_6 n0_6 c0_6, .int .i64 p0_7] 27)).alloc (.cells #[.int .i64 p1_0, .int .i64 p1_1, .int .i64 p1_2, .slice A1_3 n1_3 c1_3, .slice A1_4 n1_4 c1_4, .slice A1_5 n1_5 c1_5, .slice A1_6 n1_6 c1_6, .int .i64 p1_7] 27)).cell? ⟨w.heap.size, 2, none⟩ = some (.int .i64 p0_2) := KB0.at_ rfl
      have xKB0_3 : ((w.alloc (.cells #[.int .i64 p0_0, .int .i64 p0_1, .int .i64 p0_2, .slice A0_3 n0_3 c0_3, .slice A0_4 n0_4 c0_4, .slice A0_5 n0_5 c0_5, .slice A0_6 n0_6 c0_6, .int .i64 p0_7] 27)).alloc (.cells #[.int .i64 p1_0, .int .i64 p1_1, .int .i64 p1_2, .slice A1_3 n1_3 c1_3, .slice A1_4 n1_4 c1_4, .slice A1_5 n1_5 c1_5, .slice A1_6 n1_6 c1_6, .int .i64 p1_7] 27)).cell? ⟨w.heap.size, 3, none⟩ = some (.slice A0_3 n0_3 c0_3) := KB0.at_ rfl
      have xKB0_4 : ((w.alloc (.cells #[.int .i64 p0_0, .int .i64 p0_1, .int .i64 p0_2, .slice A0_3 n0_3 c0_3, .slice A0_4 n0_4 c0_4, .slice A0_5 n0_5 c0_5, .slice A0_6 n0_6 c0_6, .int .i64 p0_7] 27)).alloc (.cells #[.int .i64 p1_0, .int .i64 p1_1, .int .i64 p1_2, .slice A1_3 n1_3 c1_3, .slice A1_4 n1_4 c1_4, .slice A1_5 n1_5 c1_5, .slice A1_6 n1_6 c1_6, .int .i64 p1_7] 27)).cell? ⟨w.heap.size, 4, none⟩ = some (.slice A0_4 n0_4 c0_4) := KB0.at_ rfl
      have xKB0_5 : ((w.alloc (.cells #[.int .i64 p0_0, .int .i64 p0_1, .int .i64 p0_2, .slice A0_3 n0_3 c0_3, .slice A0_4 n0_4 c0_4, .slice A0_5 n0_5 c0_5, .slice A0_6 n0_6 c0_6, .int .i64 p0_7] 27)).alloc (.cells #[.int .i64 p1_0, .int .i64 p1_1, .int .i64 p1_2, .slice A1_3 n1_3 c1_3, .slice A1_4 n1_4 c1_4, .slice A1_5 n1_5 c1_5, .slice A1_6 n1_6 c1_6, .int .i64 p1_7] 27)).cell? ⟨w.heap.size, 5, none⟩ = some (.slice A0_5 n0_5 c0_5) := KB0.at_ rfl
      have xKB0_6 : ((w.alloc (.cells #[.int .i64 p0_0, .int .i64 p0_1, .int .i64 p0_2, .slice A0_3 n0_3 c0_3, .slice A0_4 n0_4 c0_4, .slice A0_5 n0_5 c0_5, .slice A0_6 n0_6 c0_6, .int .i64 p0_7] 27)).alloc (.cells #[.int .i64 p1_0, .int .i64 p1_1, .int .i64 p1_2, .slice A1_3 n1_3 c1_3, .slice A1_4 n1_4 c1_4, .slice A1_5 n1_5 c1_5, .slice A1_6 n1_6 c1_6, .int .i64 p1_7] 27)).cell? ⟨w.heap.size, 6, none⟩ = some (.slice A0_6 n0_6 c0_6) := KB0.at_ rfl
      have xKB0_7 : ((w.alloc (.cells #[.int .i64 p0_0, .int .i64 p0_1, .int .i64 p0_2, .slice A0_3 n0_3 c0_3, .slice A0_4 n0_4 c0_4, .slice A0_5 n0_5 c0_5, .slice A0_6 n0_6 c0_6, .int .i64 p0_7] 27)).alloc (.cells #[.int .i64 p1_0, .int .i64 p1_1, .int .i64 p1_2, .slice A1_3 n1_3 c1_3, .slice A1_4 n1_4 c1_4, .slice A1_5 n1_5 c1_5, .slice A1_6 n1_6 c1_6, .int .i64 p1_7] 27)).cell? ⟨w.heap.size, 7, none⟩ = some (.int .i64 p0_7) := KB0.at_ rfl
      go_wp2_with fail
      refine Calls.mono (sz_package p0_0 p0_1 p0_2 A0_3 n0_3 c0_3 A0_4 n0_4 c0_4 A0_5 n0_5 c0_5 A0_6 n0_6 c0_6 p0_7 (1048576) _ hm0_3 hm0_4 hm0_5 hm0_6 (by omega) (by omega)) ?_
      rintro e w1 ⟨rfl, B28⟩
      replace R0_3 := (R0_3).new B28
      replace R0_4 := (R0_4).new B28
      replace R0_5 := (R0_5).new B28
      replace R0_6 := (R0_6).new B28
      replace R1_3 := (R1_3).new B28
      replace R1_4 := (R1_4).new B28
      replace R1_5 := (R1_5).new B28
      replace R1_6 := (R1_6).new B28
      replace KB0 := (KB0).new B28
      replace KB1 := (KB1).new B28
      replace G := below_trans G B28 (Nat.le_refl _)
      have S1 := Lib.hid (show ((w.alloc (.cells #[.int .i64 p0_0, .int .i64 p0_1, .int .i64 p0_2, .slice A0_3 n0_3 c0_3, .slice A0_4 n0_4 c0_4, .slice A0_5 n0_5 c0_5, .slice A0_6 n0_6 c0_6, .int .i64 p0_7] 27)).alloc (.cells #[.int .i64 p1_0, .int .i64 p1_1, .int .i64 p1_2, .slice A1_3 n1_3 c1_3, .slice A1_4 n1_4 c1_4, .slice A1_5 n1_5 c1_5, .slice A1_6 n1_6 c1_6, .int .i64 p1_7] 27)).heap.size + 0 ≤ w1.heap.size by have := B28.size; first | (simpa using this) | ((try simp at this); omega))
      clear B28
      clear xKB0_0 xKB0_1 xKB0_2 xKB0_3 xKB0_4 xKB0_5 xKB0_6 xKB0_7
      have xKB1_0 : w1.cell? ⟨w.heap.size + 1, 0, none⟩ = some (.int .i64 p1_0) := KB1.at_ rfl
      have xKB1_1 : w1.cell? ⟨w.heap.size + 1, 1, none⟩ = some (.int .i64 p1_1) := KB1.at_ rfl
      have xKB1_2 : w1.cell? ⟨w.heap.size + 1, 2, none⟩ = some (.int .i64 p1_2) := KB1.at_ rfl
      have xKB1_3 : w1.cell? ⟨w.heap.size + 1, 3, none⟩ = some (.slice A1_3 n1_3 c1_3) := KB1.at_ rfl
      have xKB1_4 : w1.cell? ⟨w.heap.size + 1, 4, none⟩ = some (.slice A1_4 n1_4 c1_4) := KB1.at_ rfl
      have xKB1_5 : w1.cell? ⟨w.heap.size + 1, 5, none⟩ = some (.slice A1_5 n1_5 c1_5) := KB1.at_ rfl
      have xKB1_6 : w1.cell? ⟨w.heap.size + 1, 6, none⟩ = some (.slice A1_6 n1_6 c1_6) := KB1.at_ rfl
      have xKB1_7 : w1.cell? ⟨w.heap.size + 1, 7, none⟩ = some (.int .i64 p1_7) := KB1.at_ rfl
      go_wp2_with fail
      refine Calls.mono (szno_package p1_0 p1_1 p1_2 A1_3 n1_3 c1_3 A1_4 n1_4 c1_4 A1_5 n1_5 c1_5 A1_6 n1_6 c1_6 p1_7 (1048576 - (n0_3 : Int) - (n0_4 : Int) - (n0_5 : Int) - (n0_6 : Int)) _ hm1_3 hm1_4 hm1_5 hm1_6 (by omega) (by omega) (by omega)) ?_
      rintro e w2 ⟨rfl, B29⟩
      clear xKB1_0 xKB1_1 xKB1_2 xKB1_3 xKB1_4 xKB1_5 xKB1_6 xKB1_7
      go_wp2_with fail
      go_ret
      exact ⟨rfl, below_trans G B29 (Nat.le_refl _)⟩
  · skip
    have G : Below w.heap.size w ((w.alloc (.cells #[.int .i64 p0_0, .int .i64 p0_1, .int .i64 p0_2, .slice A0_3 n0_3 c0_3, .slice A0_4 n0_4 c0_4, .slice A0_5 n0_5 c0_5, .slice A0_6 n0_6 c0_6, .int .i64 p0_7] 27)).alloc (.cells #[.int .i64 p1_0, .int .i64 p1_1, .int .i64 p1_2, .slice A1_3 n1_3 c1_3, .slice A1_4 n1_4 c1_4, .slice A1_5 n1_5 c1_5, .slice A1_6 n1_6 c1_6, .int .i64 p1_7] 27)) := ((Below.refl _ _).alloc (by simp) _).alloc (by simp) _
    have S0 := Lib.hid (show ((w.alloc (.cells #[.int .i64 p0_0, .int .i64 p0_1, .int .i64 p0_2, .slice A0_3 n0_3 c0_3, .slice A0_4 n0_4 c0_4, .slice A0_5 n0_5 c0_5, .slice A0_6 n0_6 c0_6, .int .i64 p0_7] 27)).alloc (.cells #[.int .i64 p1_0, .int .i64 p1_1, .int .i64 p1_2, .slice A1_3 n1_3 c1_3, .slice A1_4 n1_4 c1_4, .slice A1_5 n1_5 c1_5, .slice A1_6 n1_6 c1_6, .int .i64 p1_7] 27)).heap.size = w.heap.size + 2 by simp)
    replace R0_3 := R0_3.alloc (.cells #[.int .i64 p0_0, .int .i64 p0_1, .int .i64 p0_2, .slice A0_3 n0_3 c0_3, .slice A0_4 n0_4 c0_4, .slice A0_5 n0_5 c0_5, .slice A0_6 n0_6 c0_6, .int .i64 p0_7] 27)
    replace R0_4 := R0_4.alloc (.cells #[.int .i64 p0_0, .int .i64 p0_1, .int .i64 p0_2, .slice A0_3 n0_3 c0_3, .slice A0_4 n0_4 c0_4, .slice A0_5 n0_5 c0_5, .slice A0_6 n0_6 c0_6, .int .i64 p0_7] 27)
    replace R0_5 := R0_5.alloc (.cells #[.int .i64 p0_0, .int .i64 p0_1, .int .i64 p0_2, .slice A0_3 n0_3 c0_3, .slice A0_4 n0_4 c0_4, .slice A0_5 n0_5 c0_5, .slice A0_6 n0_6 c0_6, .int .i64 p0_7] 27)
    replace R0_6 := R0_6.alloc (.cells #[.int .i64 p0_0, .int .i64 p0_1, .int .i64 p0_2, .slice A0_3 n0_3 c0_3, .slice A0_4 n0_4 c0_4, .slice A0_5 n0_5 c0_5, .slice A0_6 n0_6 c0_6, .int .i64 p0_7] 27)
    replace R1_3 := R1_3.alloc (.cells #[.int .i64 p0_0, .int .i64 p0_1, .int .i64 p0_2, .slice A0_3 n0_3 c0_3, .slice A0_4 n0_4 c0_4, .slice A0_5 n0_5 c0_5, .slice A0_6 n0_6 c0_6, .int .i64 p0_7] 27)
    replace R1_4 := R1_4.alloc (.cells #[.int .i64 p0_0, .int .i64 p0_1, .int .i64 p0_2, .slice A0_3 n0_3 c0_3, .slice A0_4 n0_4 c0_4, .slice A0_5 n0_5 c0_5, .slice A0_6 n0_6 c0_6, .int .i64 p0_7] 27)
    replace R1_5 := R1_5.alloc (.cells #[.int .i64 p0_0, .int .i64 p0_1, .int .i64 p0_2, .slice A0_3 n0_3 c0_3, .slice A0_4 n0_4 c0_4, .slice A0_5 n0_5 c0_5, .slice A0_6 n0_6 c0_6, .int .i64 p0_7] 27)
    replace R1_6 := R1_6.alloc (.cells #[.int .i64 p0_0, .int .i64 p0_1, .int .i64 p0_2, .slice A0_3 n0_3 c0_3, .slice A0_4 n0_4 c0_4, .slice A0_5 n0_5 c0_5, .slice A0_6 n0_6 c0_6, .int .i64 p0_7] 27)
    have KB0 : BoxAt (w.alloc (.cells #[.int .i64 p0_0, .int .i64 p0_1, .int .i64 p0_2, .slice A0_3 n0_3 c0_3, .slice A0_4 n0_4 c0_4, .slice A0_5 n0_5 c0_5, .slice A0_6 n0_6 c0_6, .int .i64 p0_7] 27)) (w.heap.size) 27 #[.int .i64 p0_0, .int .i64 p0_1, .int .i64 p0_2, .slice A0_3 n0_3 c0_3, .slice A0_4 n0_4 c0_4, .slice A0_5 n0_5 c0_5, .slice A0_6 n0_6 c0_6, .int .i64 p0_7] := box_new _ _ _
    replace R0_3 := R0_3.alloc (.cells #[.int .i64 p1_0, .int .i64 p1_1, .int .i64 p1_2, .slice A1_3 n1_3 c1_3, .slice A1_4 n1_4 c1_4, .slice A1_5 n1_5 c1_5, .slice A1_6 n1_6 c1_6, .int .i64 p1_7] 27)
    replace R0_4 := R0_4.alloc (.cells #[.int .i64 p1_0, .int .i64 p1_1, .int .i64 p1_2, .slice A1_3 n1_3 c1_3, .slice A1_4 n1_4 c1_4, .slice A1_5 n1_5 c1_5, .slice A1_6 n1_6 c1_6, .int .i64 p1_7] 27)
    replace R0_5 := R0_5.alloc (.cells #[.int .i64 p1_0, .int .i64 p1_1, .int .i64 p1_2, .slice A1_3 n1_3 c1_3, .slice A1_4 n1_4 c1_4, .slice A1_5 n1_5 c1_5, .slice A1_6 n1_6 c1_6, .int .i64 p1_7] 27)
    replace R0_6 := R0_6.alloc (.cells #[.int .i64 p1_0, .int .i64 p1_1, .int .i64 p1_2, .slice A1_3 n1_3 c1_3, .slice A1_4 n1_4 c1_4, .slice A1_5 n1_5 c1_5, .slice A1_6 n1_6 c1_6, .int .i64 p1_7] 27)
    replace R1_3 := R1_3.alloc (.cells #[.int .i64 p1_0, .int .i64 p1_1, .int .i64 p1_2, .slice A1_3 n1_3 c1_3, .slice A1_4 n1_4 c1_4, .slice A1_5 n1_5 c1_5, .slice A1_6 n1_6 c1_6, .int .i64 p1_7] 27)
    replace R1_4 := R1_4.alloc (.cells #[.int .i64 p1_0, .int .i64 p1_1, .int .i64 p1_2, .slice A1_3 n1_3 c1_3, .slice A1_4 n1_4 c1_4, .slice A1_5 n1_5 c1_5, .slice A1_6 n1_6 c1_6, .int .i64 p1_7] 27)
    replace R1_5 := R1_5.alloc (.cells #[.int .i64 p1_0, .int .i64 p1_1, .int .i64 p1_2, .slice A1_3 n1_3 c1_3, .slice A1_4 n1_4 c1_4, .slice A1_5 n1_5 c1_5, .slice A1_6 n1_6 c1_6, .int .i64 p1_7] 27)
    replace R1_6 := R1_6.alloc (.cells #[.int .i64 p1_0, .int .i64 p1_1, .int .i64 p1_2, .slice A1_3 n1_3 c1_3, .slice A1_4 n1_4 c1_4, .slice A1_5 n1_5 c1_5, .slice A1_6 n1_6 c1_6, .int .i64 p1_7] 27)
    replace KB0 := KB0.alloc_ (.cells #[.int .i64 p1_0, .int .i64 p1_1, .int .i64 p1_2, .slice A1_3 n1_3 c1_3, .slice A1_4 n1_4 c1_4, .slice A1_5 n1_5 c1_5, .slice A1_6 n1_6 c1_6, .int .i64 p1_7] 27)
    have KB1 : BoxAt ((w.alloc (.cells #[.int .i64 p0_0, .int .i64 p0_1, .int .i64 p0_2, .slice A0_3 n0_3 c0_3, .slice A0_4 n0_4 c0_4, .slice A0_5 n0_5 c0_5, .slice A0_6 n0_6 c0_6, .int .i64 p0_7] 27)).alloc (.cells #[.int .i64 p1_0, .int .i64 p1_1, .int .i64 p1_2, .slice A1_3 n1_3 c1_3, .slice A1_4 n1_4 c1_4, .slice A1_5 n1_5 c1_5, .slice A1_6 n1_6 c1_6, .int .i64 p1_7] 27)) (w.heap.size + 1) 27 #[.int .i64 p1_0, .int .i64 p1_1, .int .i64 p1_2, .slice A1_3 n1_3 c1_3, .slice A1_4 n1_4 c1_4, .slice A1_5 n1_5 c1_5, .slice A1_6 n1_6 c1_6, .int .i64 p1_7] := by simpa using box_new (w.alloc (.cells #[.int .i64 p0_0, .int .i64 p0_1, .int .i64 p0_2, .slice A0_3 n0_3 c0_3, .slice A0_4 n0_4 c0_4, .slice A0_5 n0_5 c0_5, .slice A0_6 n0_6 c0_6, .int .i64 p0_7] 27)) 27 #[.int .i64 p1_0, .int .i64 p1_1, .int .i64 p1_2, .slice A1_3 n1_3 c1_3, .slice A1_4 n1_4 c1_4, .slice A1_5 n1_5 c1_5, .slice A1_6 n1_6 c1_6, .int .i64 p1_7]
    go_enter Try.func5, Try.ntmps5
    have xKB0_0 : ((w.alloc (.cells #[.int .i64 p0_0, .int .i64 p0_1, .int .i64 p0_2, .slice A0_3 n0_3 c0_3, .slice A0_4 n0_4 c0_4, .slice A0_5 n0_5 c0_5, .slice A0_6 n0_6 c0_6, .int .i64 p0_7] 27)).alloc (.cells #[.int .i64 p1_0, .int .i64 p1_1, .int .i64 p1_2, .slice A1_3 n1_3 c1_3, .slice A1_4 n1_4 c1_4, .slice A1_5 n1_5 c1_5, .slice A1_6 n1_6 c1_6, .int .i64 p1_7] 27)).cell? ⟨w.heap.size, 0, none⟩ = some (.int .i64 p0_0) := KB0.at_ rfl
    have xKB0_1 : ((w.alloc (.cells #[.int .i64 p0_0, .int .i64 p0_1, .int .i64 p0_2, .slice A0_3 n0_3 c0_3, .slice A0_4 n0_4 c0_4, .slice A0_5 n0_5 c0_5, .slice A0_6 n0_6 c0_6, .int .i64 p0_7] 27)).alloc (.cells #[.int .i64 p1_0, .int .i64 p1_1, .int .i64 p1_2, .slice A1_3 n1_3 c1_3, .slice A1_4 n1_4 c1_4, .slice A1_5 n1_5 c1_5, .slice A1_6 n1_6 c1_6, .int .i64 p1_7] 27)).cell? ⟨w.heap.size, 1, none⟩ = some (.int .i64 p0_1) := KB0.at_ rfl
    have xKB0_2 : ((w.alloc (.cells #[.int .i64 p0_0, .int .i64 p0_1, .int .i64 p0_2, .slice A0_3 n0_3 c0_3, .slice A0_4 n0_4 c0_4, .slice A0_5 n0_5 c0_5, .slice A0_6 n0_6 c0_6, .int .i64 p0_7] 27)).alloc (.cells #[.int .i64 p1_0, .int .i64 p1_1, .int .i64 p1_2, .slice A1_3 n1_3 c1_3, .slice A1_4 n1_4 c1_4, .slice A1_5 n1_5 c1_5, .slice A1_6 n1_6 c1_6, .int .i64 p1_7] 27)).cell? ⟨w.heap.size, 2, none⟩ = some (.int .i64 p0_2) := KB0.at_ rfl
    have xKB0_3 : ((w.alloc (.cells #[.int .i64 p0_0, .int .i64 p0_1, .int .i64 p0_2, .slice A0_3 n0_3 c0_3, .slice A0_4 n0_4 c0_4, .slice A0_5 n0_5 c0_5, .slice A0_6 n0_6 c0_6, .int .i64 p0_7] 27)).alloc (.cells #[.int .i64 p1_0, .int .i64 p1_1, .int .i64 p1_2, .slice A1_3 n1_3 c1_3, .slice A1_4 n1_4 c1_4, .slice A1_5 n1_5 c1_5, .slice A1_6 n1_6 c1_6, .int .i64 p1_7] 27)).cell? ⟨w.heap.size, 3, none⟩ = some (.slice A0_3 n0_3 c0_3) := KB0.at_ rfl
    have xKB0_4 : ((w.alloc (.cells #[.int .i64 p0_0, .int .i64 p0_1, .int .i64 p0_2, .slice A0_3 n0_3 c0_3, .slice A0_4 n0_4 c0_4, .slice A0_5 n0_5 c0_5, .slice A0_6 n0_6 c0_6, .int .i64 p0_7] 27)).alloc (.cells #[.int .i64 p1_0, .int .i64 p1_1, .int .i64 p1_2, .slice A1_3 n1_3 c1_3, .slice A1_4 n1_4 c1_4, .slice A1_5 n1_5 c1_5, .slice A1_6 n1_6 c1_6, .int .i64 p1_7] 27)).cell? ⟨w.heap.size, 4, none⟩ = some (.slice A0_4 n0_4 c0_4) := KB0.at_ rfl
    have xKB0_5 : ((w.alloc (.cells #[.int .i64 p0_0, .int .i64 p0_1, .int .i64 p0_2, .slice A0_3 n0_3 c0_3, .slice A0_4 n0_4 c0_4, .slice A0_5 n0_5 c0_5, .slice A0_6 n0_6 c0_6, .int .i64 p0_7] 27)).alloc (.cells #[.int .i64 p1_0, .int .i64 p1_1, .int .i64 p1_2, .slice A1_3 n1_3 c1_3, .slice A1_4 n1_4 c1_4, .slice A1_5 n1_5 c1_5, .slice A1_6 n1_6 c1_6, .int .i64 p1_7] 27)).cell? ⟨w.heap.size, 5, none⟩ = some (.slice A0_5 n0_5 c0_5) := KB0.at_ rfl
    have xKB0_6 : ((w.alloc (.cells #[.int .i64 p0_0, .int .i64 p0_1, .int .i64 p0_2, .slice A0_3 n0_3 c0_3, .slice A0_4 n0_4 c0_4, .slice A0_5 n0_5 c0_5, .slice A0_6 n0_6 c0_6, .int .i64 p0_7] 27)).alloc (.cells #[.int .i64 p1_0, .int .i64 p1_1, .int .i64 p1_2, .slice A1_3 n1_3 c1_3, .slice A1_4 n1_4 c1_4, .slice A1_5 n1_5 c1_5, .slice A1_6 n1_6 c1_6, .int .i64 p1_7] 27)).cell? ⟨w.heap.size, 6, none⟩ = some (.slice A0_6 n0_6 c0_6) := KB0.at_ rfl
    have xKB0_7 : ((w.alloc (.cells #[.int .i64 p0_0, .int .i64 p0_1, .int .i64 p0_2, .slice A0_3 n0_3 c0_3, .slice A0_4 n0_4 c0_4, .slice A0_5 n0_5 c0_5, .slice A0_6 n0_6 c0_6, .int .i64 p0_7] 27)).alloc (.cells #[.int .i64 p1_0, .int .i64 p1_1, .int .i64 p1_2, .slice A1_3 n1_3 c1_3, .slice A1_4 n1_4 c1_4, .slice A1_5 n1_5 c1_5, .slice A1_6 n1_6 c1_6, .int .i64 p1_7] 27)).cell? ⟨w.heap.size, 7, none⟩ = some (.int .i64 p0_7) := KB0.at_ rfl
    go_wp2_with fail
    refine Calls.mono (szno_package p0_0 p0_1 p0_2 A0_3 n0_3 c0_3 A0_4 n0_4 c0_4 A0_5 n0_5 c0_5 A0_6 n0_6 c0_6 p0_7 (1048576) _ hm0_3 hm0_4 hm0_5 hm0_6 (by omega) (by omega) (by omega)) ?_
    rintro e w1 ⟨rfl, B30⟩
    clear xKB0_0 xKB0_1 xKB0_2 xKB0_3 xKB0_4 xKB0_5 xKB0_6 xKB0_7
    go_wp2_with fail
    go_ret
    exact ⟨rfl, below_trans G B30 (Nat.le_refl _)⟩

set_option maxRecDepth 100000 in
theorem lifted (os : Os) (started : os.Started) (H : Type) (enc : TypeId × Value → H) :
    ReturnsInHanded {} Try.checked os 5 .any (Rows.fnExactWidenedGrantsSpec.pre6 enc Try.prog Try.f5 Rows.fnExactWidenedGrantsRow.domain false) (Rows.fnExactWidenedGrantsSpec.post enc Try.prog Try.f5 false true false false) := by
  refine law_lifted Try.func5 (by kernel_rfl) rfl rfl (by kernel_rfl) os started
    (ChangeSpec.witness6 (enc := enc) (C := Try.checked) false ⟨#[], #[.agg #[.int .i64 0, .int .i64 0, .int .i64 0, .slice none 0 0, .slice none 0 0, .slice none 0 0, .slice none 0 0, .int .i64 0], .agg #[.int .i64 0, .int .i64 0, .int .i64 0, .slice none 0 0, .slice none 0 0, .slice none 0 0, .slice none 0 0, .int .i64 0]], []⟩ 8 (by kernel_rfl) (by kernel_rfl) (by kernel_rfl) (by kernel_rfl)) ?_
  intro W base args ds p hval hA hlt
  rw [Try.params5] at hA hval
  obtain ⟨v0, vs0, d0, ds0, p0, q0, hargs, rfl, rfl, h0, r0⟩ := trodAll_cons hA
  obtain ⟨v1, vs1, d1, ds1, p1, q1, rfl, rfl, rfl, h1, r1⟩ := trodAll_cons r0
  obtain ⟨rfl, rfl, rfl⟩ := trodAll_nil r1
  obtain rfl : args = #[v0, v1] := by cases args; simp_all
  obtain ⟨p0_0, p0_1, p0_2, A0_3, n0_3, c0_3, l0_3, A0_4, n0_4, c0_4, l0_4, A0_5, n0_5, c0_5, l0_5, A0_6, n0_6, c0_6, l0_6, p0_7, rfl, wf0_0, wf0_1, wf0_2, m0_3, R0_3, H0_3, m0_4, R0_4, H0_4, m0_5, R0_5, H0_5, m0_6, R0_6, H0_6, wf0_7⟩ := open_package (hval 0 27 v0 rfl rfl) h0 (fun x hx => hlt x (by simp [hx]))
  obtain ⟨p1_0, p1_1, p1_2, A1_3, n1_3, c1_3, l1_3, A1_4, n1_4, c1_4, l1_4, A1_5, n1_5, c1_5, l1_5, A1_6, n1_6, c1_6, l1_6, p1_7, rfl, wf1_0, wf1_1, wf1_2, m1_3, R1_3, H1_3, m1_4, R1_4, H1_4, m1_5, R1_5, H1_5, m1_6, R1_6, H1_6, wf1_7⟩ := open_package (hval 1 27 v1 rfl rfl) h1 (fun x hx => hlt x (by simp [hx]))
  exact ⟨⟨rfl, rfl, rfl⟩, walk p0_0 p0_1 p0_2 l0_3 A0_3 n0_3 c0_3 l0_4 A0_4 n0_4 c0_4 l0_5 A0_5 n0_5 c0_5 l0_6 A0_6 n0_6 c0_6 p0_7 p1_0 p1_1 p1_2 l1_3 A1_3 n1_3 c1_3 l1_4 A1_4 n1_4 c1_4 l1_5 A1_5 n1_5 c1_5 l1_6 A1_6 n1_6 c1_6 p1_7 W wf0_0 wf0_1 wf0_2 m0_3 R0_3 H0_3 m0_4 R0_4 H0_4 m0_5 R0_5 H0_5 m0_6 R0_6 H0_6 wf0_7 wf1_0 wf1_1 wf1_2 m1_3 R1_3 H1_3 m1_4 R1_4 H1_4 m1_5 R1_5 H1_5 m1_6 R1_6 H1_6 wf1_7⟩

set_option maxRecDepth 100000 in
set_option maxHeartbeats 8000000 in
theorem closed : joinedFacts Try.pinned.checked.prog 5 Try.f5 Rows.fnExactWidenedGrantsSpec Rows.fnExactWidenedGrantsRow = true :=
  (and_i (and_i (and_i (and_i (and_i (and_i (and_i (and_i (and_i (and_i (and_i (and_i (and_i (and_i (and_i (and_i (and_i (and_i (and_i (and_i (and_i (and_i (and_i (and_i (and_i (and_i (and_i (and_i (and_i (and_i (and_i (by as_aux_lemma => kernel_rfl) seatLaid) sf_maps) (by as_aux_lemma => kernel_rfl)) (by as_aux_lemma => kernel_rfl)) (by as_aux_lemma => kernel_rfl)) (by as_aux_lemma => kernel_rfl)) (by as_aux_lemma => kernel_rfl)) (by as_aux_lemma => kernel_rfl)) (by as_aux_lemma => kernel_rfl)) (by as_aux_lemma => kernel_rfl)) (by as_aux_lemma => kernel_rfl)) (by as_aux_lemma => kernel_rfl)) (by as_aux_lemma => kernel_rfl)) (by as_aux_lemma => kernel_rfl)) (by as_aux_lemma => kernel_rfl)) (by as_aux_lemma => kernel_rfl)) (by as_aux_lemma => kernel_rfl)) (by as_aux_lemma => kernel_rfl)) (by as_aux_lemma => kernel_rfl)) (by as_aux_lemma => kernel_rfl)) (by as_aux_lemma => kernel_rfl)) sf_plain) (by as_aux_lemma => kernel_rfl)) sf_heard) sf_enter) sf_lifts) sf_make) (by as_aux_lemma => kernel_rfl)) (by as_aux_lemma => kernel_rfl)) (by as_aux_lemma => kernel_rfl)) (by as_aux_lemma => kernel_rfl))

theorem over : Rows.fnExactWidenedGrantsRow.holds Try.pinned (OpenSpec.ofChange Rows.fnExactWidenedGrantsSpec) :=
  OpenClaim.holds_of_wide 5 Try.f5 rfl rfl rfl rfl rfl rfl rfl ⟨rfl, rfl, rfl, rfl, rfl⟩ rfl rfl rfl rfl rfl (by kernel_rfl) Try.func5 closed
    (of_decide_eq_true (by kernel_rfl)) (by unfold Func.isWrapper; first | (rw [if_pos (by decide +kernel)]; kernel_rfl) | (rw [if_neg (by decide +kernel)]; exact ⟨rfl, rfl⟩))
    (fun os started H enc _ => lifted os started H enc)

theorem proved : Rows.FnExactWidenedGrantsSaid := over
#print axioms proved
end Go.Proofs.Ythipflbjnnplaaa.fnExactWidenedGrants
