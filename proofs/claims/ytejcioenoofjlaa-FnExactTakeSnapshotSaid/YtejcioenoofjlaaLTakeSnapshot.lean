/- The law FnExactTakeSnapshot answers true for every argument, and leaves each argument as it was. No condition. -/
import Derived.Deep.RegionHeld3
import Derived.Deep.DeepCutAuto
import Derived.Test.YtejcioenoofjlaaFacts
import Derived.Test.YtejcioenoofjlaaRPackage
import Derived.Test.YtejcioenoofjlaaRSnapshot
import Derived.Test.YtejcioenoofjlaaTStored
import Derived.Test.YtejcioenoofjlaaTkS
namespace Go.Proofs.Ytejcioenoofjlaa.fnExactTakeSnapshot
open Go Go.ChangeShapes Go.WideShapes Go.ChangeAt Go.RowKit Go.Lib
open Go.ChangeMaps (open_string)
set_option linter.unusedVariables false
set_option linter.unusedSimpArgs false
set_option maxRecDepth 100000

set_option maxRecDepth 100000 in
set_option maxHeartbeats 20000000 in
theorem walk (p0_0 : Int) (p0_1 : Int) (p0_2 : Int) (l0_3 : List TGrant) (A0_3 : Option Addr) (n0_3 c0_3 : Nat) (l0_4 : List TFlow) (A0_4 : Option Addr) (n0_4 c0_4 : Nat) (l0_5 : List TRule) (A0_5 : Option Addr) (n0_5 c0_5 : Nat) (l0_6 : List TOp) (A0_6 : Option Addr) (n0_6 c0_6 : Nat) (p0_7 : Int) (l1 : List TStored) (A1 : Option Addr) (n1 c1 : Nat) (w : World) (wf0_0 : (Lit.int .i64 p0_0).wf = true) (wf0_1 : (Lit.int .i64 p0_1).wf = true) (wf0_2 : (Lit.int .i64 p0_2).wf = true) (hm0_3 : n0_3 ≤ maxLen) (R0_3 : Rd w 0 w.heap.size 7 A0_3 n0_3 (cGrant l0_3)) (H0_3 : Hid (cGrantOk l0_3)) (hm0_4 : n0_4 ≤ maxLen) (R0_4 : Rd w 0 w.heap.size 3 A0_4 n0_4 (cFlow l0_4)) (H0_4 : Hid (cFlowOk l0_4)) (hm0_5 : n0_5 ≤ maxLen) (R0_5 : Rd w 0 w.heap.size 8 A0_5 n0_5 (cRule l0_5)) (H0_5 : Hid (cRuleOk l0_5)) (hm0_6 : n0_6 ≤ maxLen) (R0_6 : Rd w 0 w.heap.size 4 A0_6 n0_6 (cOp l0_6)) (H0_6 : Hid (cOpOk l0_6)) (wf0_7 : (Lit.int .i64 p0_7).wf = true) (hm1 : n1 ≤ maxLen) (R1 : Rd w 0 w.heap.size 4 A1 n1 (cStored l1)) (H1 : Hid (cStoredOk l1)) :
    Calls Try.prog 7 #[.agg #[.int .i64 p0_0, .int .i64 p0_1, .int .i64 p0_2, .slice A0_3 n0_3 c0_3, .slice A0_4 n0_4 c0_4, .slice A0_5 n0_5 c0_5, .slice A0_6 n0_6 c0_6, .int .i64 p0_7], .slice A1 n1 c1] w fun e w' => e = .returned (.bool true) ∧ Below w.heap.size w w' := by
  have hm0_3 : n0_3 ≤ 9223372036854775807 := hm0_3
  have hm0_4 : n0_4 ≤ 9223372036854775807 := hm0_4
  have hm0_5 : n0_5 ≤ 9223372036854775807 := hm0_5
  have hm0_6 : n0_6 ≤ 9223372036854775807 := hm0_6
  have hm1 : n1 ≤ 9223372036854775807 := hm1
  have Wf0_0 := Lib.hid wf0_0
  clear wf0_0
  have Wf0_1 := Lib.hid wf0_1
  clear wf0_1
  have Wf0_2 := Lib.hid wf0_2
  clear wf0_2
  have Wf0_7 := Lib.hid wf0_7
  clear wf0_7
  by_cases hz0 : n0_3 + n0_4 + n0_5 + n0_6 ≤ 1048576
  · skip
    by_cases hz1 : n0_3 + n0_4 + n0_5 + n0_6 + n1 ≤ 1048576
    · skip
      have hl0 : (l0_3).length ≤ 1073741823 := by (have := rd_len TGrant.len R0_3 (by decide); omega)
      have hl1 : (l0_4).length ≤ 1073741823 := by (have := rd_len TFlow.len R0_4 (by decide); omega)
      have hl2 : (l0_5).length ≤ 1073741823 := by (have := rd_len TRule.len R0_5 (by decide); omega)
      have hl3 : (l0_6).length ≤ 1073741823 := by (have := rd_len TOp.len R0_6 (by decide); omega)
      have hl4 : (mOwnS l1 p0_0).length ≤ 1073741823 := by (have := rd_len TStored.len R1 (by decide); have := mOwnS_len l1 p0_0; omega)
      have hqn0_3 : n0_3 ≤ 17179869184 := by omega
      have hqn0_4 : n0_4 ≤ 17179869184 := by omega
      have hqn0_5 : n0_5 ≤ 17179869184 := by omega
      have hqn0_6 : n0_6 ≤ 17179869184 := by omega
      have hqn1 : n1 ≤ 17179869184 := by omega
      have G : Below w.heap.size w (w.alloc (.cells #[.int .i64 p0_0, .int .i64 p0_1, .int .i64 p0_2, .slice A0_3 n0_3 c0_3, .slice A0_4 n0_4 c0_4, .slice A0_5 n0_5 c0_5, .slice A0_6 n0_6 c0_6, .int .i64 p0_7] 39)) := (Below.refl _ _).alloc (by simp) _
      have S0 := Lib.hid (show (w.alloc (.cells #[.int .i64 p0_0, .int .i64 p0_1, .int .i64 p0_2, .slice A0_3 n0_3 c0_3, .slice A0_4 n0_4 c0_4, .slice A0_5 n0_5 c0_5, .slice A0_6 n0_6 c0_6, .int .i64 p0_7] 39)).heap.size = w.heap.size + 1 by simp)
      replace R0_3 := R0_3.alloc (.cells #[.int .i64 p0_0, .int .i64 p0_1, .int .i64 p0_2, .slice A0_3 n0_3 c0_3, .slice A0_4 n0_4 c0_4, .slice A0_5 n0_5 c0_5, .slice A0_6 n0_6 c0_6, .int .i64 p0_7] 39)
      replace R0_4 := R0_4.alloc (.cells #[.int .i64 p0_0, .int .i64 p0_1, .int .i64 p0_2, .slice A0_3 n0_3 c0_3, .slice A0_4 n0_4 c0_4, .slice A0_5 n0_5 c0_5, .slice A0_6 n0_6 c0_6, .int .i64 p0_7] 39)
      replace R0_5 := R0_5.alloc (.cells #[.int .i64 p0_0, .int .i64 p0_1, .int .i64 p0_2, .slice A0_3 n0_3 c0_3, .slice A0_4 n0_4 c0_4, .slice A0_5 n0_5 c0_5, .slice A0_6 n0_6 c0_6, .int .i64 p0_7] 39)
      replace R0_6 := R0_6.alloc (.cells #[.int .i64 p0_0, .int .i64 p0_1, .int .i64 p0_2, .slice A0_3 n0_3 c0_3, .slice A0_4 n0_4 c0_4, .slice A0_5 n0_5 c0_5, .slice A0_6 n0_6 c0_6, .int .i64 p0_7] 39)
      replace R1 := R1.alloc (.cells #[.int .i64 p0_0, .int .i64 p0_1, .int .i64 p0_2, .slice A0_3 n0_3 c0_3, .slice A0_4 n0_4 c0_4, .slice A0_5 n0_5 c0_5, .slice A0_6 n0_6 c0_6, .int .i64 p0_7] 39)
      have KB0 : BoxAt (w.alloc (.cells #[.int .i64 p0_0, .int .i64 p0_1, .int .i64 p0_2, .slice A0_3 n0_3 c0_3, .slice A0_4 n0_4 c0_4, .slice A0_5 n0_5 c0_5, .slice A0_6 n0_6 c0_6, .int .i64 p0_7] 39)) (w.heap.size) 39 #[.int .i64 p0_0, .int .i64 p0_1, .int .i64 p0_2, .slice A0_3 n0_3 c0_3, .slice A0_4 n0_4 c0_4, .slice A0_5 n0_5 c0_5, .slice A0_6 n0_6 c0_6, .int .i64 p0_7] := box_new _ _ _
      go_enter Try.func7, Try.ntmps7
      have xKB0_0 : (w.alloc (.cells #[.int .i64 p0_0, .int .i64 p0_1, .int .i64 p0_2, .slice A0_3 n0_3 c0_3, .slice A0_4 n0_4 c0_4, .slice A0_5 n0_5 c0_5, .slice A0_6 n0_6 c0_6, .int .i64 p0_7] 39)).cell? ⟨w.heap.size, 0, none⟩ = some (.int .i64 p0_0) := KB0.at_ rfl
      have xKB0_1 : (w.alloc (.cells #[.int .i64 p0_0, .int .i64 p0_1, .int .i64 p0_2, .slice A0_3 n0_3 c0_3, .slice A0_4 n0_4 c0_4, .slice A0_5 n0_5 c0_5, .slice A0_6 n0_6 c0_6, .int .i64 p0_7] 39)).cell? ⟨w.heap.size, 1, none⟩ = some (.int .i64 p0_1) := KB0.at_ rfl
      have xKB0_2 : (w.alloc (.cells #[.int .i64 p0_0, .int .i64 p0_1, .int .i64 p0_2, .slice A0_3 n0_3 c0_3, .slice A0_4 n0_4 c0_4, .slice A0_5 n0_5 c0_5, .slice A0_6 n0_6 c0_6, .int .i64 p0_7] 39)).cell? ⟨w.heap.size, 2, none⟩ = some (.int .i64 p0_2) := KB0.at_ rfl
      have xKB0_3 : (w.alloc (.cells #[.int .i64 p0_0, .int .i64 p0_1, .int .i64 p0_2, .slice A0_3 n0_3 c0_3, .slice A0_4 n0_4 c0_4, .slice A0_5 n0_5 c0_5, .slice A0_6 n0_6 c0_6, .int .i64 p0_7] 39)).cell? ⟨w.heap.size, 3, none⟩ = some (.slice A0_3 n0_3 c0_3) := KB0.at_ rfl
      have xKB0_4 : (w.alloc (.cells #[.int .i64 p0_0, .int .i64 p0_1, .int .i64 p0_2, .slice A0_3 n0_3 c0_3, .slice A0_4 n0_4 c0_4, .slice A0_5 n0_5 c0_5, .slice A0_6 n0_6 c0_6, .int .i64 p0_7] 39)).cell? ⟨w.heap.size, 4, none⟩ = some (.slice A0_4 n0_4 c0_4) := KB0.at_ rfl
      have xKB0_5 : (w.alloc (.cells #[.int .i64 p0_0, .int .i64 p0_1, .int .i64 p0_2, .slice A0_3 n0_3 c0_3, .slice A0_4 n0_4 c0_4, .slice A0_5 n0_5 c0_5, .slice A0_6 n0_6 c0_6, .int .i64 p0_7] 39)).cell? ⟨w.heap.size, 5, none⟩ = some (.slice A0_5 n0_5 c0_5) := KB0.at_ rfl
      have xKB0_6 : (w.alloc (.cells #[.int .i64 p0_0, .int .i64 p0_1, .int .i64 p0_2, .slice A0_3 n0_3 c0_3, .slice A0_4 n0_4 c0_4, .slice A0_5 n0_5 c0_5, .slice A0_6 n0_6 c0_6, .int .i64 p0_7] 39)).cell? ⟨w.heap.size, 6, none⟩ = some (.slice A0_6 n0_6 c0_6) := KB0.at_ rfl
      have xKB0_7 : (w.alloc (.cells #[.int .i64 p0_0, .int .i64 p0_1, .int .i64 p0_2, .slice A0_3 n0_3 c0_3, .slice A0_4 n0_4 c0_4, .slice A0_5 n0_5 c0_5, .slice A0_6 n0_6 c0_6, .int .i64 p0_7] 39)).cell? ⟨w.heap.size, 7, none⟩ = some (.int .i64 p0_7) := KB0.at_ rfl
      go_wp2_with fail
      refine Calls.mono (sz_package p0_0 p0_1 p0_2 A0_3 n0_3 c0_3 A0_4 n0_4 c0_4 A0_5 n0_5 c0_5 A0_6 n0_6 c0_6 p0_7 (1048576) _ hm0_3 hm0_4 hm0_5 hm0_6 (by omega) (by omega)) ?_
      rintro e w1 ⟨rfl, B1⟩
      replace R0_3 := (R0_3).new B1
      replace R0_4 := (R0_4).new B1
      replace R0_5 := (R0_5).new B1
      replace R0_6 := (R0_6).new B1
      replace R1 := (R1).new B1
      replace KB0 := (KB0).new B1
      replace G := below_trans G B1 (Nat.le_refl _)
      have S1 := Lib.hid (show (w.alloc (.cells #[.int .i64 p0_0, .int .i64 p0_1, .int .i64 p0_2, .slice A0_3 n0_3 c0_3, .slice A0_4 n0_4 c0_4, .slice A0_5 n0_5 c0_5, .slice A0_6 n0_6 c0_6, .int .i64 p0_7] 39)).heap.size + 0 ≤ w1.heap.size by have := B1.size; first | (simpa using this) | ((try simp at this); omega))
      clear B1
      clear xKB0_0 xKB0_1 xKB0_2 xKB0_3 xKB0_4 xKB0_5 xKB0_6 xKB0_7
      go_wp2_with fail
      refine Calls.mono (sz_stored A1 n1 c1 (1048576 - (n0_3 : Int) - (n0_4 : Int) - (n0_5 : Int) - (n0_6 : Int)) _ hm1 (by omega) (by omega)) ?_
      rintro e w2 hq
      obtain ⟨rfl, B2⟩ := hq.says
      replace R0_3 := (R0_3).new B2
      replace R0_4 := (R0_4).new B2
      replace R0_5 := (R0_5).new B2
      replace R0_6 := (R0_6).new B2
      replace R1 := (R1).new B2
      replace KB0 := (KB0).new B2
      replace G := below_trans G B2 (Nat.le_refl _)
      have S2 := Lib.hid (show w1.heap.size + 0 ≤ w2.heap.size by have := B2.size; first | (simpa using this) | ((try simp at this); omega))
      clear B2
      have xKB0_0 : w2.cell? ⟨w.heap.size, 0, none⟩ = some (.int .i64 p0_0) := KB0.at_ rfl
      have xKB0_1 : w2.cell? ⟨w.heap.size, 1, none⟩ = some (.int .i64 p0_1) := KB0.at_ rfl
      have xKB0_2 : w2.cell? ⟨w.heap.size, 2, none⟩ = some (.int .i64 p0_2) := KB0.at_ rfl
      have xKB0_3 : w2.cell? ⟨w.heap.size, 3, none⟩ = some (.slice A0_3 n0_3 c0_3) := KB0.at_ rfl
      have xKB0_4 : w2.cell? ⟨w.heap.size, 4, none⟩ = some (.slice A0_4 n0_4 c0_4) := KB0.at_ rfl
      have xKB0_5 : w2.cell? ⟨w.heap.size, 5, none⟩ = some (.slice A0_5 n0_5 c0_5) := KB0.at_ rfl
      have xKB0_6 : w2.cell? ⟨w.heap.size, 6, none⟩ = some (.slice A0_6 n0_6 c0_6) := KB0.at_ rfl
      have xKB0_7 : w2.cell? ⟨w.heap.size, 7, none⟩ = some (.int .i64 p0_7) := KB0.at_ rfl
      go_wp2_with fail
      refine Calls.mono (to_package p0_0 p0_1 p0_2 l0_3 A0_3 n0_3 c0_3 _ _ l0_4 A0_4 n0_4 c0_4 _ _ l0_5 A0_5 n0_5 c0_5 _ _ l0_6 A0_6 n0_6 c0_6 _ _ p0_7 _ hqn0_3 R0_3 hqn0_4 R0_4 hqn0_5 R0_5 hqn0_6 R0_6) ?_
      rintro e w3 ⟨T3_3, T3_4, T3_5, T3_6, tc3_3, tlo3_3, thi3_3, tc3_4, tlo3_4, thi3_4, tc3_5, tlo3_5, thi3_5, tc3_6, tlo3_6, thi3_6, rfl, FT3_3, FT3_4, FT3_5, FT3_6, MT3, B3⟩
      replace R0_3 := (R0_3).new B3
      replace R0_4 := (R0_4).new B3
      replace R0_5 := (R0_5).new B3
      replace R0_6 := (R0_6).new B3
      replace R1 := (R1).new B3
      replace KB0 := (KB0).new B3
      replace G := below_trans G B3 (Nat.le_refl _)
      have S3 := Lib.hid (show w2.heap.size + 0 ≤ w3.heap.size by have := B3.size; first | (simpa using this) | ((try simp at this); omega))
      clear B3
      clear xKB0_0 xKB0_1 xKB0_2 xKB0_3 xKB0_4 xKB0_5 xKB0_6 xKB0_7
      go_wp2_with fail
      refine Calls.mono (to_stored l1 A1 n1 c1 _ _ _ (Nat.le_trans hqn1 (by decide)) R1) ?_
      rintro e w4 ⟨T4, tc4, rfl, FT4, B4⟩
      replace R0_3 := (R0_3).new B4
      replace R0_4 := (R0_4).new B4
      replace R0_5 := (R0_5).new B4
      replace R0_6 := (R0_6).new B4
      replace R1 := (R1).new B4
      replace KB0 := (KB0).new B4
      replace FT3_3 := (FT3_3).new B4
      replace FT3_4 := (FT3_4).new B4
      replace FT3_5 := (FT3_5).new B4
      replace FT3_6 := (FT3_6).new B4
      replace G := below_trans G B4 (Nat.le_refl _)
      have S4 := Lib.hid (show w3.heap.size + 0 ≤ w4.heap.size by have := B4.size; first | (simpa using this) | ((try simp at this); omega))
      clear B4
      go_wp2_with fail
      refine Calls.mono (spec_TakeSnapshot p0_0 p0_1 p0_2 l0_3 T3_3 n0_3 tc3_3 _ _ l0_4 T3_4 n0_4 tc3_4 _ _ l0_5 T3_5 n0_5 tc3_5 _ _ l0_6 T3_6 n0_6 tc3_6 _ _ p0_7 l1 T4 n1 tc4 _ _ _ (by omega) FT3_3.rd H0_3 (by omega) FT3_4.rd H0_4 (by omega) FT3_5.rd H0_5 (by omega) FT3_6.rd H0_6 (by omega) FT4.rd H1) ?_
      rintro e w5 ⟨P5_0_3, P5_0_4, P5_0_5, P5_0_6, P5_0_8, pc5_0_3, plo5_0_3, phi5_0_3, pc5_0_4, plo5_0_4, phi5_0_4, pc5_0_5, plo5_0_5, phi5_0_5, pc5_0_6, plo5_0_6, phi5_0_6, pc5_0_8, plo5_0_8, phi5_0_8, rfl, FP5_0_3, FP5_0_4, FP5_0_5, FP5_0_6, FP5_0_8, MP5_0, B5⟩
      replace R0_3 := (R0_3).new B5
      replace R0_4 := (R0_4).new B5
      replace R0_5 := (R0_5).new B5
      replace R0_6 := (R0_6).new B5
      replace R1 := (R1).new B5
      replace KB0 := (KB0).new B5
      replace FT3_3 := (FT3_3).new B5
      replace FT3_4 := (FT3_4).new B5
      replace FT3_5 := (FT3_5).new B5
      replace FT3_6 := (FT3_6).new B5
      replace FT4 := (FT4).new B5
      replace G := below_trans G B5 (Nat.le_refl _)
      have S5 := Lib.hid (show w4.heap.size + 0 ≤ w5.heap.size by have := B5.size; first | (simpa using this) | ((try simp at this); omega))
      clear B5
      clear FT3_3
      clear FT3_4
      clear FT3_5
      clear FT3_6
      clear FT4
      have SA7 := Lib.hid (show (w5.alloc (.cells #[.int .i64 p0_0, .int .i64 p0_1, .int .i64 p0_2, .slice P5_0_3 ((l0_3).length) pc5_0_3, .slice P5_0_4 ((l0_4).length) pc5_0_4, .slice P5_0_5 ((l0_5).length) pc5_0_5, .slice P5_0_6 ((l0_6).length) pc5_0_6, .int .i64 p0_7, .slice P5_0_8 ((mOwnS l1 p0_0).length) pc5_0_8] 60)).heap.size = w5.heap.size + 1 by simp)
      replace R0_3 := R0_3.alloc (.cells #[.int .i64 p0_0, .int .i64 p0_1, .int .i64 p0_2, .slice P5_0_3 ((l0_3).length) pc5_0_3, .slice P5_0_4 ((l0_4).length) pc5_0_4, .slice P5_0_5 ((l0_5).length) pc5_0_5, .slice P5_0_6 ((l0_6).length) pc5_0_6, .int .i64 p0_7, .slice P5_0_8 ((mOwnS l1 p0_0).length) pc5_0_8] 60)
      replace R0_4 := R0_4.alloc (.cells #[.int .i64 p0_0, .int .i64 p0_1, .int .i64 p0_2, .slice P5_0_3 ((l0_3).length) pc5_0_3, .slice P5_0_4 ((l0_4).length) pc5_0_4, .slice P5_0_5 ((l0_5).length) pc5_0_5, .slice P5_0_6 ((l0_6).length) pc5_0_6, .int .i64 p0_7, .slice P5_0_8 ((mOwnS l1 p0_0).length) pc5_0_8] 60)
      replace R0_5 := R0_5.alloc (.cells #[.int .i64 p0_0, .int .i64 p0_1, .int .i64 p0_2, .slice P5_0_3 ((l0_3).length) pc5_0_3, .slice P5_0_4 ((l0_4).length) pc5_0_4, .slice P5_0_5 ((l0_5).length) pc5_0_5, .slice P5_0_6 ((l0_6).length) pc5_0_6, .int .i64 p0_7, .slice P5_0_8 ((mOwnS l1 p0_0).length) pc5_0_8] 60)
      replace R0_6 := R0_6.alloc (.cells #[.int .i64 p0_0, .int .i64 p0_1, .int .i64 p0_2, .slice P5_0_3 ((l0_3).length) pc5_0_3, .slice P5_0_4 ((l0_4).length) pc5_0_4, .slice P5_0_5 ((l0_5).length) pc5_0_5, .slice P5_0_6 ((l0_6).length) pc5_0_6, .int .i64 p0_7, .slice P5_0_8 ((mOwnS l1 p0_0).length) pc5_0_8] 60)
      replace R1 := R1.alloc (.cells #[.int .i64 p0_0, .int .i64 p0_1, .int .i64 p0_2, .slice P5_0_3 ((l0_3).length) pc5_0_3, .slice P5_0_4 ((l0_4).length) pc5_0_4, .slice P5_0_5 ((l0_5).length) pc5_0_5, .slice P5_0_6 ((l0_6).length) pc5_0_6, .int .i64 p0_7, .slice P5_0_8 ((mOwnS l1 p0_0).length) pc5_0_8] 60)
      replace KB0 := KB0.alloc_ (.cells #[.int .i64 p0_0, .int .i64 p0_1, .int .i64 p0_2, .slice P5_0_3 ((l0_3).length) pc5_0_3, .slice P5_0_4 ((l0_4).length) pc5_0_4, .slice P5_0_5 ((l0_5).length) pc5_0_5, .slice P5_0_6 ((l0_6).length) pc5_0_6, .int .i64 p0_7, .slice P5_0_8 ((mOwnS l1 p0_0).length) pc5_0_8] 60)
      replace FP5_0_3 := FP5_0_3.alloc (.cells #[.int .i64 p0_0, .int .i64 p0_1, .int .i64 p0_2, .slice P5_0_3 ((l0_3).length) pc5_0_3, .slice P5_0_4 ((l0_4).length) pc5_0_4, .slice P5_0_5 ((l0_5).length) pc5_0_5, .slice P5_0_6 ((l0_6).length) pc5_0_6, .int .i64 p0_7, .slice P5_0_8 ((mOwnS l1 p0_0).length) pc5_0_8] 60)
      replace FP5_0_4 := FP5_0_4.alloc (.cells #[.int .i64 p0_0, .int .i64 p0_1, .int .i64 p0_2, .slice P5_0_3 ((l0_3).length) pc5_0_3, .slice P5_0_4 ((l0_4).length) pc5_0_4, .slice P5_0_5 ((l0_5).length) pc5_0_5, .slice P5_0_6 ((l0_6).length) pc5_0_6, .int .i64 p0_7, .slice P5_0_8 ((mOwnS l1 p0_0).length) pc5_0_8] 60)
      replace FP5_0_5 := FP5_0_5.alloc (.cells #[.int .i64 p0_0, .int .i64 p0_1, .int .i64 p0_2, .slice P5_0_3 ((l0_3).length) pc5_0_3, .slice P5_0_4 ((l0_4).length) pc5_0_4, .slice P5_0_5 ((l0_5).length) pc5_0_5, .slice P5_0_6 ((l0_6).length) pc5_0_6, .int .i64 p0_7, .slice P5_0_8 ((mOwnS l1 p0_0).length) pc5_0_8] 60)
      replace FP5_0_6 := FP5_0_6.alloc (.cells #[.int .i64 p0_0, .int .i64 p0_1, .int .i64 p0_2, .slice P5_0_3 ((l0_3).length) pc5_0_3, .slice P5_0_4 ((l0_4).length) pc5_0_4, .slice P5_0_5 ((l0_5).length) pc5_0_5, .slice P5_0_6 ((l0_6).length) pc5_0_6, .int .i64 p0_7, .slice P5_0_8 ((mOwnS l1 p0_0).length) pc5_0_8] 60)
      replace FP5_0_8 := FP5_0_8.alloc (.cells #[.int .i64 p0_0, .int .i64 p0_1, .int .i64 p0_2, .slice P5_0_3 ((l0_3).length) pc5_0_3, .slice P5_0_4 ((l0_4).length) pc5_0_4, .slice P5_0_5 ((l0_5).length) pc5_0_5, .slice P5_0_6 ((l0_6).length) pc5_0_6, .int .i64 p0_7, .slice P5_0_8 ((mOwnS l1 p0_0).length) pc5_0_8] 60)
      have KX6 : BoxAt (w5.alloc (.cells #[.int .i64 p0_0, .int .i64 p0_1, .int .i64 p0_2, .slice P5_0_3 ((l0_3).length) pc5_0_3, .slice P5_0_4 ((l0_4).length) pc5_0_4, .slice P5_0_5 ((l0_5).length) pc5_0_5, .slice P5_0_6 ((l0_6).length) pc5_0_6, .int .i64 p0_7, .slice P5_0_8 ((mOwnS l1 p0_0).length) pc5_0_8] 60)) (w5.heap.size) 60 #[.int .i64 p0_0, .int .i64 p0_1, .int .i64 p0_2, .slice P5_0_3 ((l0_3).length) pc5_0_3, .slice P5_0_4 ((l0_4).length) pc5_0_4, .slice P5_0_5 ((l0_5).length) pc5_0_5, .slice P5_0_6 ((l0_6).length) pc5_0_6, .int .i64 p0_7, .slice P5_0_8 ((mOwnS l1 p0_0).length) pc5_0_8] := box_new _ _ _
      replace G := G.alloc (by have := S0.out; have := S1.out; have := S2.out; have := S3.out; have := S4.out; have := S5.out; have := SA7.out; have := SepPackage_bd MT3.out; have := SepSnapshot_bd MP5_0.out; first | omega | (simp; omega)) (.cells #[.int .i64 p0_0, .int .i64 p0_1, .int .i64 p0_2, .slice P5_0_3 ((l0_3).length) pc5_0_3, .slice P5_0_4 ((l0_4).length) pc5_0_4, .slice P5_0_5 ((l0_5).length) pc5_0_5, .slice P5_0_6 ((l0_6).length) pc5_0_6, .int .i64 p0_7, .slice P5_0_8 ((mOwnS l1 p0_0).length) pc5_0_8] 60)
      have xKB0_0 : (w5.alloc (.cells #[.int .i64 p0_0, .int .i64 p0_1, .int .i64 p0_2, .slice P5_0_3 ((l0_3).length) pc5_0_3, .slice P5_0_4 ((l0_4).length) pc5_0_4, .slice P5_0_5 ((l0_5).length) pc5_0_5, .slice P5_0_6 ((l0_6).length) pc5_0_6, .int .i64 p0_7, .slice P5_0_8 ((mOwnS l1 p0_0).length) pc5_0_8] 60)).cell? ⟨w.heap.size, 0, none⟩ = some (.int .i64 p0_0) := KB0.at_ rfl
      have xKB0_1 : (w5.alloc (.cells #[.int .i64 p0_0, .int .i64 p0_1, .int .i64 p0_2, .slice P5_0_3 ((l0_3).length) pc5_0_3, .slice P5_0_4 ((l0_4).length) pc5_0_4, .slice P5_0_5 ((l0_5).length) pc5_0_5, .slice P5_0_6 ((l0_6).length) pc5_0_6, .int .i64 p0_7, .slice P5_0_8 ((mOwnS l1 p0_0).length) pc5_0_8] 60)).cell? ⟨w.heap.size, 1, none⟩ = some (.int .i64 p0_1) := KB0.at_ rfl
      have xKB0_2 : (w5.alloc (.cells #[.int .i64 p0_0, .int .i64 p0_1, .int .i64 p0_2, .slice P5_0_3 ((l0_3).length) pc5_0_3, .slice P5_0_4 ((l0_4).length) pc5_0_4, .slice P5_0_5 ((l0_5).length) pc5_0_5, .slice P5_0_6 ((l0_6).length) pc5_0_6, .int .i64 p0_7, .slice P5_0_8 ((mOwnS l1 p0_0).length) pc5_0_8] 60)).cell? ⟨w.heap.size, 2, none⟩ = some (.int .i64 p0_2) := KB0.at_ rfl
      have xKB0_3 : (w5.alloc (.cells #[.int .i64 p0_0, .int .i64 p0_1, .int .i64 p0_2, .slice P5_0_3 ((l0_3).length) pc5_0_3, .slice P5_0_4 ((l0_4).length) pc5_0_4, .slice P5_0_5 ((l0_5).length) pc5_0_5, .slice P5_0_6 ((l0_6).length) pc5_0_6, .int .i64 p0_7, .slice P5_0_8 ((mOwnS l1 p0_0).length) pc5_0_8] 60)).cell? ⟨w.heap.size, 3, none⟩ = some (.slice A0_3 n0_3 c0_3) := KB0.at_ rfl
      have xKB0_4 : (w5.alloc (.cells #[.int .i64 p0_0, .int .i64 p0_1, .int .i64 p0_2, .slice P5_0_3 ((l0_3).length) pc5_0_3, .slice P5_0_4 ((l0_4).length) pc5_0_4, .slice P5_0_5 ((l0_5).length) pc5_0_5, .slice P5_0_6 ((l0_6).length) pc5_0_6, .int .i64 p0_7, .slice P5_0_8 ((mOwnS l1 p0_0).length) pc5_0_8] 60)).cell? ⟨w.heap.size, 4, none⟩ = some (.slice A0_4 n0_4 c0_4) := KB0.at_ rfl
      have xKB0_5 : (w5.alloc (.cells #[.int .i64 p0_0, .int .i64 p0_1, .int .i64 p0_2, .slice P5_0_3 ((l0_3).length) pc5_0_3, .slice P5_0_4 ((l0_4).length) pc5_0_4, .slice P5_0_5 ((l0_5).length) pc5_0_5, .slice P5_0_6 ((l0_6).length) pc5_0_6, .int .i64 p0_7, .slice P5_0_8 ((mOwnS l1 p0_0).length) pc5_0_8] 60)).cell? ⟨w.heap.size, 5, none⟩ = some (.slice A0_5 n0_5 c0_5) := KB0.at_ rfl
      have xKB0_6 : (w5.alloc (.cells #[.int .i64 p0_0, .int .i64 p0_1, .int .i64 p0_2, .slice P5_0_3 ((l0_3).length) pc5_0_3, .slice P5_0_4 ((l0_4).length) pc5_0_4, .slice P5_0_5 ((l0_5).length) pc5_0_5, .slice P5_0_6 ((l0_6).length) pc5_0_6, .int .i64 p0_7, .slice P5_0_8 ((mOwnS l1 p0_0).length) pc5_0_8] 60)).cell? ⟨w.heap.size, 6, none⟩ = some (.slice A0_6 n0_6 c0_6) := KB0.at_ rfl
      have xKB0_7 : (w5.alloc (.cells #[.int .i64 p0_0, .int .i64 p0_1, .int .i64 p0_2, .slice P5_0_3 ((l0_3).length) pc5_0_3, .slice P5_0_4 ((l0_4).length) pc5_0_4, .slice P5_0_5 ((l0_5).length) pc5_0_5, .slice P5_0_6 ((l0_6).length) pc5_0_6, .int .i64 p0_7, .slice P5_0_8 ((mOwnS l1 p0_0).length) pc5_0_8] 60)).cell? ⟨w.heap.size, 7, none⟩ = some (.int .i64 p0_7) := KB0.at_ rfl
      go_wp2_with fail
      refine Calls.mono (to_package p0_0 p0_1 p0_2 l0_3 A0_3 n0_3 c0_3 _ _ l0_4 A0_4 n0_4 c0_4 _ _ l0_5 A0_5 n0_5 c0_5 _ _ l0_6 A0_6 n0_6 c0_6 _ _ p0_7 _ hqn0_3 R0_3 hqn0_4 R0_4 hqn0_5 R0_5 hqn0_6 R0_6) ?_
      rintro e w6 ⟨T8_3, T8_4, T8_5, T8_6, tc8_3, tlo8_3, thi8_3, tc8_4, tlo8_4, thi8_4, tc8_5, tlo8_5, thi8_5, tc8_6, tlo8_6, thi8_6, rfl, FT8_3, FT8_4, FT8_5, FT8_6, MT8, B8⟩
      replace R0_3 := (R0_3).new B8
      replace R0_4 := (R0_4).new B8
      replace R0_5 := (R0_5).new B8
      replace R0_6 := (R0_6).new B8
      replace R1 := (R1).new B8
      replace KB0 := (KB0).new B8
      replace FP5_0_3 := (FP5_0_3).new B8
      replace FP5_0_4 := (FP5_0_4).new B8
      replace FP5_0_5 := (FP5_0_5).new B8
      replace FP5_0_6 := (FP5_0_6).new B8
      replace FP5_0_8 := (FP5_0_8).new B8
      replace KX6 := (KX6).new B8
      replace G := below_trans G B8 (Nat.le_refl _)
      have S6 := Lib.hid (show (w5.alloc (.cells #[.int .i64 p0_0, .int .i64 p0_1, .int .i64 p0_2, .slice P5_0_3 ((l0_3).length) pc5_0_3, .slice P5_0_4 ((l0_4).length) pc5_0_4, .slice P5_0_5 ((l0_5).length) pc5_0_5, .slice P5_0_6 ((l0_6).length) pc5_0_6, .int .i64 p0_7, .slice P5_0_8 ((mOwnS l1 p0_0).length) pc5_0_8] 60)).heap.size + 0 ≤ w6.heap.size by have := B8.size; first | (simpa using this) | ((try simp at this); omega))
      clear B8
      clear xKB0_0 xKB0_1 xKB0_2 xKB0_3 xKB0_4 xKB0_5 xKB0_6 xKB0_7
      have SA10 := Lib.hid (show (w6.alloc (.cells #[.int .i64 p0_0, .int .i64 p0_1, .int .i64 p0_2, .slice T8_3 n0_3 tc8_3, .slice T8_4 n0_4 tc8_4, .slice T8_5 n0_5 tc8_5, .slice T8_6 n0_6 tc8_6, .int .i64 p0_7] 46)).heap.size = w6.heap.size + 1 by simp)
      replace R0_3 := R0_3.alloc (.cells #[.int .i64 p0_0, .int .i64 p0_1, .int .i64 p0_2, .slice T8_3 n0_3 tc8_3, .slice T8_4 n0_4 tc8_4, .slice T8_5 n0_5 tc8_5, .slice T8_6 n0_6 tc8_6, .int .i64 p0_7] 46)
      replace R0_4 := R0_4.alloc (.cells #[.int .i64 p0_0, .int .i64 p0_1, .int .i64 p0_2, .slice T8_3 n0_3 tc8_3, .slice T8_4 n0_4 tc8_4, .slice T8_5 n0_5 tc8_5, .slice T8_6 n0_6 tc8_6, .int .i64 p0_7] 46)
      replace R0_5 := R0_5.alloc (.cells #[.int .i64 p0_0, .int .i64 p0_1, .int .i64 p0_2, .slice T8_3 n0_3 tc8_3, .slice T8_4 n0_4 tc8_4, .slice T8_5 n0_5 tc8_5, .slice T8_6 n0_6 tc8_6, .int .i64 p0_7] 46)
      replace R0_6 := R0_6.alloc (.cells #[.int .i64 p0_0, .int .i64 p0_1, .int .i64 p0_2, .slice T8_3 n0_3 tc8_3, .slice T8_4 n0_4 tc8_4, .slice T8_5 n0_5 tc8_5, .slice T8_6 n0_6 tc8_6, .int .i64 p0_7] 46)
      replace R1 := R1.alloc (.cells #[.int .i64 p0_0, .int .i64 p0_1, .int .i64 p0_2, .slice T8_3 n0_3 tc8_3, .slice T8_4 n0_4 tc8_4, .slice T8_5 n0_5 tc8_5, .slice T8_6 n0_6 tc8_6, .int .i64 p0_7] 46)
      replace KB0 := KB0.alloc_ (.cells #[.int .i64 p0_0, .int .i64 p0_1, .int .i64 p0_2, .slice T8_3 n0_3 tc8_3, .slice T8_4 n0_4 tc8_4, .slice T8_5 n0_5 tc8_5, .slice T8_6 n0_6 tc8_6, .int .i64 p0_7] 46)
      replace FP5_0_3 := FP5_0_3.alloc (.cells #[.int .i64 p0_0, .int .i64 p0_1, .int .i64 p0_2, .slice T8_3 n0_3 tc8_3, .slice T8_4 n0_4 tc8_4, .slice T8_5 n0_5 tc8_5, .slice T8_6 n0_6 tc8_6, .int .i64 p0_7] 46)
      replace FP5_0_4 := FP5_0_4.alloc (.cells #[.int .i64 p0_0, .int .i64 p0_1, .int .i64 p0_2, .slice T8_3 n0_3 tc8_3, .slice T8_4 n0_4 tc8_4, .slice T8_5 n0_5 tc8_5, .slice T8_6 n0_6 tc8_6, .int .i64 p0_7] 46)
      replace FP5_0_5 := FP5_0_5.alloc (.cells #[.int .i64 p0_0, .int .i64 p0_1, .int .i64 p0_2, .slice T8_3 n0_3 tc8_3, .slice T8_4 n0_4 tc8_4, .slice T8_5 n0_5 tc8_5, .slice T8_6 n0_6 tc8_6, .int .i64 p0_7] 46)
      replace FP5_0_6 := FP5_0_6.alloc (.cells #[.int .i64 p0_0, .int .i64 p0_1, .int .i64 p0_2, .slice T8_3 n0_3 tc8_3, .slice T8_4 n0_4 tc8_4, .slice T8_5 n0_5 tc8_5, .slice T8_6 n0_6 tc8_6, .int .i64 p0_7] 46)
      replace FP5_0_8 := FP5_0_8.alloc (.cells #[.int .i64 p0_0, .int .i64 p0_1, .int .i64 p0_2, .slice T8_3 n0_3 tc8_3, .slice T8_4 n0_4 tc8_4, .slice T8_5 n0_5 tc8_5, .slice T8_6 n0_6 tc8_6, .int .i64 p0_7] 46)
      replace KX6 := KX6.alloc_ (.cells #[.int .i64 p0_0, .int .i64 p0_1, .int .i64 p0_2, .slice T8_3 n0_3 tc8_3, .slice T8_4 n0_4 tc8_4, .slice T8_5 n0_5 tc8_5, .slice T8_6 n0_6 tc8_6, .int .i64 p0_7] 46)
      replace FT8_3 := FT8_3.alloc (.cells #[.int .i64 p0_0, .int .i64 p0_1, .int .i64 p0_2, .slice T8_3 n0_3 tc8_3, .slice T8_4 n0_4 tc8_4, .slice T8_5 n0_5 tc8_5, .slice T8_6 n0_6 tc8_6, .int .i64 p0_7] 46)
      replace FT8_4 := FT8_4.alloc (.cells #[.int .i64 p0_0, .int .i64 p0_1, .int .i64 p0_2, .slice T8_3 n0_3 tc8_3, .slice T8_4 n0_4 tc8_4, .slice T8_5 n0_5 tc8_5, .slice T8_6 n0_6 tc8_6, .int .i64 p0_7] 46)
      replace FT8_5 := FT8_5.alloc (.cells #[.int .i64 p0_0, .int .i64 p0_1, .int .i64 p0_2, .slice T8_3 n0_3 tc8_3, .slice T8_4 n0_4 tc8_4, .slice T8_5 n0_5 tc8_5, .slice T8_6 n0_6 tc8_6, .int .i64 p0_7] 46)
      replace FT8_6 := FT8_6.alloc (.cells #[.int .i64 p0_0, .int .i64 p0_1, .int .i64 p0_2, .slice T8_3 n0_3 tc8_3, .slice T8_4 n0_4 tc8_4, .slice T8_5 n0_5 tc8_5, .slice T8_6 n0_6 tc8_6, .int .i64 p0_7] 46)
      have KX9 : BoxAt (w6.alloc (.cells #[.int .i64 p0_0, .int .i64 p0_1, .int .i64 p0_2, .slice T8_3 n0_3 tc8_3, .slice T8_4 n0_4 tc8_4, .slice T8_5 n0_5 tc8_5, .slice T8_6 n0_6 tc8_6, .int .i64 p0_7] 46)) (w6.heap.size) 46 #[.int .i64 p0_0, .int .i64 p0_1, .int .i64 p0_2, .slice T8_3 n0_3 tc8_3, .slice T8_4 n0_4 tc8_4, .slice T8_5 n0_5 tc8_5, .slice T8_6 n0_6 tc8_6, .int .i64 p0_7] := box_new _ _ _
      replace G := G.alloc (by have := S0.out; have := S1.out; have := S2.out; have := S3.out; have := S4.out; have := S5.out; have := SA7.out; have := S6.out; have := SA10.out; have := SepPackage_bd MT3.out; have := SepSnapshot_bd MP5_0.out; have := SepPackage_bd MT8.out; first | omega | (simp; omega)) (.cells #[.int .i64 p0_0, .int .i64 p0_1, .int .i64 p0_2, .slice T8_3 n0_3 tc8_3, .slice T8_4 n0_4 tc8_4, .slice T8_5 n0_5 tc8_5, .slice T8_6 n0_6 tc8_6, .int .i64 p0_7] 46)
      go_wp2_with fail
      refine Calls.mono (to_stored l1 A1 n1 c1 _ _ _ (Nat.le_trans hqn1 (by decide)) R1) ?_
      rintro e w7 ⟨T11, tc11, rfl, FT11, B11⟩
      replace R0_3 := (R0_3).new B11
      replace R0_4 := (R0_4).new B11
      replace R0_5 := (R0_5).new B11
      replace R0_6 := (R0_6).new B11
      replace R1 := (R1).new B11
      replace KB0 := (KB0).new B11
      replace FP5_0_3 := (FP5_0_3).new B11
      replace FP5_0_4 := (FP5_0_4).new B11
      replace FP5_0_5 := (FP5_0_5).new B11
      replace FP5_0_6 := (FP5_0_6).new B11
      replace FP5_0_8 := (FP5_0_8).new B11
      replace KX6 := (KX6).new B11
      replace FT8_3 := (FT8_3).new B11
      replace FT8_4 := (FT8_4).new B11
      replace FT8_5 := (FT8_5).new B11
      replace FT8_6 := (FT8_6).new B11
      replace KX9 := (KX9).new B11
      replace G := below_trans G B11 (Nat.le_refl _)
      have S7 := Lib.hid (show (w6.alloc (.cells #[.int .i64 p0_0, .int .i64 p0_1, .int .i64 p0_2, .slice T8_3 n0_3 tc8_3, .slice T8_4 n0_4 tc8_4, .slice T8_5 n0_5 tc8_5, .slice T8_6 n0_6 tc8_6, .int .i64 p0_7] 46)).heap.size + 0 ≤ w7.heap.size by have := B11.size; first | (simpa using this) | ((try simp at this); omega))
      clear B11
      have xKX9_0 : w7.cell? ⟨w6.heap.size, 0, none⟩ = some (.int .i64 p0_0) := KX9.at_ rfl
      have xKX9_1 : w7.cell? ⟨w6.heap.size, 1, none⟩ = some (.int .i64 p0_1) := KX9.at_ rfl
      have xKX9_2 : w7.cell? ⟨w6.heap.size, 2, none⟩ = some (.int .i64 p0_2) := KX9.at_ rfl
      have xKX9_3 : w7.cell? ⟨w6.heap.size, 3, none⟩ = some (.slice T8_3 n0_3 tc8_3) := KX9.at_ rfl
      have xKX9_4 : w7.cell? ⟨w6.heap.size, 4, none⟩ = some (.slice T8_4 n0_4 tc8_4) := KX9.at_ rfl
      have xKX9_5 : w7.cell? ⟨w6.heap.size, 5, none⟩ = some (.slice T8_5 n0_5 tc8_5) := KX9.at_ rfl
      have xKX9_6 : w7.cell? ⟨w6.heap.size, 6, none⟩ = some (.slice T8_6 n0_6 tc8_6) := KX9.at_ rfl
      have xKX9_7 : w7.cell? ⟨w6.heap.size, 7, none⟩ = some (.int .i64 p0_7) := KX9.at_ rfl
      go_wp2_with fail
      refine Calls.mono (impl_TakeSnapshot p0_0 p0_1 p0_2 l0_3 T8_3 n0_3 tc8_3 _ _ l0_4 T8_4 n0_4 tc8_4 _ _ l0_5 T8_5 n0_5 tc8_5 _ _ l0_6 T8_6 n0_6 tc8_6 _ _ p0_7 l1 T11 n1 tc11 _ _ _ (by omega) FT8_3.rd H0_3 (by omega) FT8_4.rd H0_4 (by omega) FT8_5.rd H0_5 (by omega) FT8_6.rd H0_6 (by omega) FT11.rd H1) ?_
      rintro e w8 ⟨P12_0_3, P12_0_4, P12_0_5, P12_0_6, P12_0_8, pc12_0_3, plo12_0_3, phi12_0_3, pc12_0_4, plo12_0_4, phi12_0_4, pc12_0_5, plo12_0_5, phi12_0_5, pc12_0_6, plo12_0_6, phi12_0_6, pc12_0_8, plo12_0_8, phi12_0_8, rfl, FP12_0_3, FP12_0_4, FP12_0_5, FP12_0_6, FP12_0_8, MP12_0, B12⟩
      replace R0_3 := (R0_3).new B12
      replace R0_4 := (R0_4).new B12
      replace R0_5 := (R0_5).new B12
      replace R0_6 := (R0_6).new B12
      replace R1 := (R1).new B12
      replace KB0 := (KB0).new B12
      replace FP5_0_3 := (FP5_0_3).new B12
      replace FP5_0_4 := (FP5_0_4).new B12
      replace FP5_0_5 := (FP5_0_5).new B12
      replace FP5_0_6 := (FP5_0_6).new B12
      replace FP5_0_8 := (FP5_0_8).new B12
      replace KX6 := (KX6).new B12
      replace FT8_3 := (FT8_3).new B12
      replace FT8_4 := (FT8_4).new B12
      replace FT8_5 := (FT8_5).new B12
      replace FT8_6 := (FT8_6).new B12
      replace KX9 := (KX9).new B12
      replace FT11 := (FT11).new B12
      replace G := below_trans G B12 (Nat.le_refl _)
      have S8 := Lib.hid (show w7.heap.size + 0 ≤ w8.heap.size by have := B12.size; first | (simpa using this) | ((try simp at this); omega))
      clear B12
      clear xKX9_0 xKX9_1 xKX9_2 xKX9_3 xKX9_4 xKX9_5 xKX9_6 xKX9_7
      have SA14 := Lib.hid (show (w8.alloc (.cells #[.int .i64 p0_0, .int .i64 p0_1, .int .i64 p0_2, .slice P12_0_3 ((l0_3).length) pc12_0_3, .slice P12_0_4 ((l0_4).length) pc12_0_4, .slice P12_0_5 ((l0_5).length) pc12_0_5, .slice P12_0_6 ((l0_6).length) pc12_0_6, .int .i64 p0_7, .slice P12_0_8 ((mOwnS l1 p0_0).length) pc12_0_8] 60)).heap.size = w8.heap.size + 1 by simp)
      replace R0_3 := R0_3.alloc (.cells #[.int .i64 p0_0, .int .i64 p0_1, .int .i64 p0_2, .slice P12_0_3 ((l0_3).length) pc12_0_3, .slice P12_0_4 ((l0_4).length) pc12_0_4, .slice P12_0_5 ((l0_5).length) pc12_0_5, .slice P12_0_6 ((l0_6).length) pc12_0_6, .int .i64 p0_7, .slice P12_0_8 ((mOwnS l1 p0_0).length) pc12_0_8] 60)
      replace R0_4 := R0_4.alloc (.cells #[.int .i64 p0_0, .int .i64 p0_1, .int .i64 p0_2, .slice P12_0_3 ((l0_3).length) pc12_0_3, .slice P12_0_4 ((l0_4).length) pc12_0_4, .slice P12_0_5 ((l0_5).length) pc12_0_5, .slice P12_0_6 ((l0_6).length) pc12_0_6, .int .i64 p0_7, .slice P12_0_8 ((mOwnS l1 p0_0).length) pc12_0_8] 60)
      replace R0_5 := R0_5.alloc (.cells #[.int .i64 p0_0, .int .i64 p0_1, .int .i64 p0_2, .slice P12_0_3 ((l0_3).length) pc12_0_3, .slice P12_0_4 ((l0_4).length) pc12_0_4, .slice P12_0_5 ((l0_5).length) pc12_0_5, .slice P12_0_6 ((l0_6).length) pc12_0_6, .int .i64 p0_7, .slice P12_0_8 ((mOwnS l1 p0_0).length) pc12_0_8] 60)
      replace R0_6 := R0_6.alloc (.cells #[.int .i64 p0_0, .int .i64 p0_1, .int .i64 p0_2, .slice P12_0_3 ((l0_3).length) pc12_0_3, .slice P12_0_4 ((l0_4).length) pc12_0_4, .slice P12_0_5 ((l0_5).length) pc12_0_5, .slice P12_0_6 ((l0_6).length) pc12_0_6, .int .i64 p0_7, .slice P12_0_8 ((mOwnS l1 p0_0).length) pc12_0_8] 60)
      replace R1 := R1.alloc (.cells #[.int .i64 p0_0, .int .i64 p0_1, .int .i64 p0_2, .slice P12_0_3 ((l0_3).length) pc12_0_3, .slice P12_0_4 ((l0_4).length) pc12_0_4, .slice P12_0_5 ((l0_5).length) pc12_0_5, .slice P12_0_6 ((l0_6).length) pc12_0_6, .int .i64 p0_7, .slice P12_0_8 ((mOwnS l1 p0_0).length) pc12_0_8] 60)
      replace KB0 := KB0.alloc_ (.cells #[.int .i64 p0_0, .int .i64 p0_1, .int .i64 p0_2, .slice P12_0_3 ((l0_3).length) pc12_0_3, .slice P12_0_4 ((l0_4).length) pc12_0_4, .slice P12_0_5 ((l0_5).length) pc12_0_5, .slice P12_0_6 ((l0_6).length) pc12_0_6, .int .i64 p0_7, .slice P12_0_8 ((mOwnS l1 p0_0).length) pc12_0_8] 60)
      replace FP5_0_3 := FP5_0_3.alloc (.cells #[.int .i64 p0_0, .int .i64 p0_1, .int .i64 p0_2, .slice P12_0_3 ((l0_3).length) pc12_0_3, .slice P12_0_4 ((l0_4).length) pc12_0_4, .slice P12_0_5 ((l0_5).length) pc12_0_5, .slice P12_0_6 ((l0_6).length) pc12_0_6, .int .i64 p0_7, .slice P12_0_8 ((mOwnS l1 p0_0).length) pc12_0_8] 60)
      replace FP5_0_4 := FP5_0_4.alloc (.cells #[.int .i64 p0_0, .int .i64 p0_1, .int .i64 p0_2, .slice P12_0_3 ((l0_3).length) pc12_0_3, .slice P12_0_4 ((l0_4).length) pc12_0_4, .slice P12_0_5 ((l0_5).length) pc12_0_5, .slice P12_0_6 ((l0_6).length) pc12_0_6, .int .i64 p0_7, .slice P12_0_8 ((mOwnS l1 p0_0).length) pc12_0_8] 60)
      replace FP5_0_5 := FP5_0_5.alloc (.cells #[.int .i64 p0_0, .int .i64 p0_1, .int .i64 p0_2, .slice P12_0_3 ((l0_3).length) pc12_0_3, .slice P12_0_4 ((l0_4).length) pc12_0_4, .slice P12_0_5 ((l0_5).length) pc12_0_5, .slice P12_0_6 ((l0_6).length) pc12_0_6, .int .i64 p0_7, .slice P12_0_8 ((mOwnS l1 p0_0).length) pc12_0_8] 60)
      replace FP5_0_6 := FP5_0_6.alloc (.cells #[.int .i64 p0_0, .int .i64 p0_1, .int .i64 p0_2, .slice P12_0_3 ((l0_3).length) pc12_0_3, .slice P12_0_4 ((l0_4).length) pc12_0_4, .slice P12_0_5 ((l0_5).length) pc12_0_5, .slice P12_0_6 ((l0_6).length) pc12_0_6, .int .i64 p0_7, .slice P12_0_8 ((mOwnS l1 p0_0).length) pc12_0_8] 60)
      replace FP5_0_8 := FP5_0_8.alloc (.cells #[.int .i64 p0_0, .int .i64 p0_1, .int .i64 p0_2, .slice P12_0_3 ((l0_3).length) pc12_0_3, .slice P12_0_4 ((l0_4).length) pc12_0_4, .slice P12_0_5 ((l0_5).length) pc12_0_5, .slice P12_0_6 ((l0_6).length) pc12_0_6, .int .i64 p0_7, .slice P12_0_8 ((mOwnS l1 p0_0).length) pc12_0_8] 60)
      replace KX6 := KX6.alloc_ (.cells #[.int .i64 p0_0, .int .i64 p0_1, .int .i64 p0_2, .slice P12_0_3 ((l0_3).length) pc12_0_3, .slice P12_0_4 ((l0_4).length) pc12_0_4, .slice P12_0_5 ((l0_5).length) pc12_0_5, .slice P12_0_6 ((l0_6).length) pc12_0_6, .int .i64 p0_7, .slice P12_0_8 ((mOwnS l1 p0_0).length) pc12_0_8] 60)
      replace FT8_3 := FT8_3.alloc (.cells #[.int .i64 p0_0, .int .i64 p0_1, .int .i64 p0_2, .slice P12_0_3 ((l0_3).length) pc12_0_3, .slice P12_0_4 ((l0_4).length) pc12_0_4, .slice P12_0_5 ((l0_5).length) pc12_0_5, .slice P12_0_6 ((l0_6).length) pc12_0_6, .int .i64 p0_7, .slice P12_0_8 ((mOwnS l1 p0_0).length) pc12_0_8] 60)
      replace FT8_4 := FT8_4.alloc (.cells #[.int .i64 p0_0, .int .i64 p0_1, .int .i64 p0_2, .slice P12_0_3 ((l0_3).length) pc12_0_3, .slice P12_0_4 ((l0_4).length) pc12_0_4, .slice P12_0_5 ((l0_5).length) pc12_0_5, .slice P12_0_6 ((l0_6).length) pc12_0_6, .int .i64 p0_7, .slice P12_0_8 ((mOwnS l1 p0_0).length) pc12_0_8] 60)
      replace FT8_5 := FT8_5.alloc (.cells #[.int .i64 p0_0, .int .i64 p0_1, .int .i64 p0_2, .slice P12_0_3 ((l0_3).length) pc12_0_3, .slice P12_0_4 ((l0_4).length) pc12_0_4, .slice P12_0_5 ((l0_5).length) pc12_0_5, .slice P12_0_6 ((l0_6).length) pc12_0_6, .int .i64 p0_7, .slice P12_0_8 ((mOwnS l1 p0_0).length) pc12_0_8] 60)
      replace FT8_6 := FT8_6.alloc (.cells #[.int .i64 p0_0, .int .i64 p0_1, .int .i64 p0_2, .slice P12_0_3 ((l0_3).length) pc12_0_3, .slice P12_0_4 ((l0_4).length) pc12_0_4, .slice P12_0_5 ((l0_5).length) pc12_0_5, .slice P12_0_6 ((l0_6).length) pc12_0_6, .int .i64 p0_7, .slice P12_0_8 ((mOwnS l1 p0_0).length) pc12_0_8] 60)
      replace KX9 := KX9.alloc_ (.cells #[.int .i64 p0_0, .int .i64 p0_1, .int .i64 p0_2, .slice P12_0_3 ((l0_3).length) pc12_0_3, .slice P12_0_4 ((l0_4).length) pc12_0_4, .slice P12_0_5 ((l0_5).length) pc12_0_5, .slice P12_0_6 ((l0_6).length) pc12_0_6, .int .i64 p0_7, .slice P12_0_8 ((mOwnS l1 p0_0).length) pc12_0_8] 60)
      replace FT11 := FT11.alloc (.cells #[.int .i64 p0_0, .int .i64 p0_1, .int .i64 p0_2, .slice P12_0_3 ((l0_3).length) pc12_0_3, .slice P12_0_4 ((l0_4).length) pc12_0_4, .slice P12_0_5 ((l0_5).length) pc12_0_5, .slice P12_0_6 ((l0_6).length) pc12_0_6, .int .i64 p0_7, .slice P12_0_8 ((mOwnS l1 p0_0).length) pc12_0_8] 60)
      replace FP12_0_3 := FP12_0_3.alloc (.cells #[.int .i64 p0_0, .int .i64 p0_1, .int .i64 p0_2, .slice P12_0_3 ((l0_3).length) pc12_0_3, .slice P12_0_4 ((l0_4).length) pc12_0_4, .slice P12_0_5 ((l0_5).length) pc12_0_5, .slice P12_0_6 ((l0_6).length) pc12_0_6, .int .i64 p0_7, .slice P12_0_8 ((mOwnS l1 p0_0).length) pc12_0_8] 60)
      replace FP12_0_4 := FP12_0_4.alloc (.cells #[.int .i64 p0_0, .int .i64 p0_1, .int .i64 p0_2, .slice P12_0_3 ((l0_3).length) pc12_0_3, .slice P12_0_4 ((l0_4).length) pc12_0_4, .slice P12_0_5 ((l0_5).length) pc12_0_5, .slice P12_0_6 ((l0_6).length) pc12_0_6, .int .i64 p0_7, .slice P12_0_8 ((mOwnS l1 p0_0).length) pc12_0_8] 60)
      replace FP12_0_5 := FP12_0_5.alloc (.cells #[.int .i64 p0_0, .int .i64 p0_1, .int .i64 p0_2, .slice P12_0_3 ((l0_3).length) pc12_0_3, .slice P12_0_4 ((l0_4).length) pc12_0_4, .slice P12_0_5 ((l0_5).length) pc12_0_5, .slice P12_0_6 ((l0_6).length) pc12_0_6, .int .i64 p0_7, .slice P12_0_8 ((mOwnS l1 p0_0).length) pc12_0_8] 60)
      replace FP12_0_6 := FP12_0_6.alloc (.cells #[.int .i64 p0_0, .int .i64 p0_1, .int .i64 p0_2, .slice P12_0_3 ((l0_3).length) pc12_0_3, .slice P12_0_4 ((l0_4).length) pc12_0_4, .slice P12_0_5 ((l0_5).length) pc12_0_5, .slice P12_0_6 ((l0_6).length) pc12_0_6, .int .i64 p0_7, .slice P12_0_8 ((mOwnS l1 p0_0).length) pc12_0_8] 60)
      replace FP12_0_8 := FP12_0_8.alloc (.cells #[.int .i64 p0_0, .int .i64 p0_1, .int .i64 p0_2, .slice P12_0_3 ((l0_3).length) pc12_0_3, .slice P12_0_4 ((l0_4).length) pc12_0_4, .slice P12_0_5 ((l0_5).length) pc12_0_5, .slice P12_0_6 ((l0_6).length) pc12_0_6, .int .i64 p0_7, .slice P12_0_8 ((mOwnS l1 p0_0).length) pc12_0_8] 60)
      have KX13 : BoxAt (w8.alloc (.cells #[.int .i64 p0_0, .int .i64 p0_1, .int .i64 p0_2, .slice P12_0_3 ((l0_3).length) pc12_0_3, .slice P12_0_4 ((l0_4).length) pc12_0_4, .slice P12_0_5 ((l0_5).length) pc12_0_5, .slice P12_0_6 ((l0_6).length) pc12_0_6, .int .i64 p0_7, .slice P12_0_8 ((mOwnS l1 p0_0).length) pc12_0_8] 60)) (w8.heap.size) 60 #[.int .i64 p0_0, .int .i64 p0_1, .int .i64 p0_2, .slice P12_0_3 ((l0_3).length) pc12_0_3, .slice P12_0_4 ((l0_4).length) pc12_0_4, .slice P12_0_5 ((l0_5).length) pc12_0_5, .slice P12_0_6 ((l0_6).length) pc12_0_6, .int .i64 p0_7, .slice P12_0_8 ((mOwnS l1 p0_0).length) pc12_0_8] := box_new _ _ _
      replace G := G.alloc (by have := S0.out; have := S1.out; have := S2.out; have := S3.out; have := S4.out; have := S5.out; have := SA7.out; have := S6.out; have := SA10.out; have := S7.out; have := S8.out; have := SA14.out; have := SepPackage_bd MT3.out; have := SepSnapshot_bd MP5_0.out; have := SepPackage_bd MT8.out; have := SepSnapshot_bd MP12_0.out; first | omega | (simp; omega)) (.cells #[.int .i64 p0_0, .int .i64 p0_1, .int .i64 p0_2, .slice P12_0_3 ((l0_3).length) pc12_0_3, .slice P12_0_4 ((l0_4).length) pc12_0_4, .slice P12_0_5 ((l0_5).length) pc12_0_5, .slice P12_0_6 ((l0_6).length) pc12_0_6, .int .i64 p0_7, .slice P12_0_8 ((mOwnS l1 p0_0).length) pc12_0_8] 60)
      have xKX13_0 : (w8.alloc (.cells #[.int .i64 p0_0, .int .i64 p0_1, .int .i64 p0_2, .slice P12_0_3 ((l0_3).length) pc12_0_3, .slice P12_0_4 ((l0_4).length) pc12_0_4, .slice P12_0_5 ((l0_5).length) pc12_0_5, .slice P12_0_6 ((l0_6).length) pc12_0_6, .int .i64 p0_7, .slice P12_0_8 ((mOwnS l1 p0_0).length) pc12_0_8] 60)).cell? ⟨w8.heap.size, 0, none⟩ = some (.int .i64 p0_0) := KX13.at_ rfl
      have xKX13_1 : (w8.alloc (.cells #[.int .i64 p0_0, .int .i64 p0_1, .int .i64 p0_2, .slice P12_0_3 ((l0_3).length) pc12_0_3, .slice P12_0_4 ((l0_4).length) pc12_0_4, .slice P12_0_5 ((l0_5).length) pc12_0_5, .slice P12_0_6 ((l0_6).length) pc12_0_6, .int .i64 p0_7, .slice P12_0_8 ((mOwnS l1 p0_0).length) pc12_0_8] 60)).cell? ⟨w8.heap.size, 1, none⟩ = some (.int .i64 p0_1) := KX13.at_ rfl
      have xKX13_2 : (w8.alloc (.cells #[.int .i64 p0_0, .int .i64 p0_1, .int .i64 p0_2, .slice P12_0_3 ((l0_3).length) pc12_0_3, .slice P12_0_4 ((l0_4).length) pc12_0_4, .slice P12_0_5 ((l0_5).length) pc12_0_5, .slice P12_0_6 ((l0_6).length) pc12_0_6, .int .i64 p0_7, .slice P12_0_8 ((mOwnS l1 p0_0).length) pc12_0_8] 60)).cell? ⟨w8.heap.size, 2, none⟩ = some (.int .i64 p0_2) := KX13.at_ rfl
      have xKX13_3 : (w8.alloc (.cells #[.int .i64 p0_0, .int .i64 p0_1, .int .i64 p0_2, .slice P12_0_3 ((l0_3).length) pc12_0_3, .slice P12_0_4 ((l0_4).length) pc12_0_4, .slice P12_0_5 ((l0_5).length) pc12_0_5, .slice P12_0_6 ((l0_6).length) pc12_0_6, .int .i64 p0_7, .slice P12_0_8 ((mOwnS l1 p0_0).length) pc12_0_8] 60)).cell? ⟨w8.heap.size, 3, none⟩ = some (.slice P12_0_3 ((l0_3).length) pc12_0_3) := KX13.at_ rfl
      have xKX13_4 : (w8.alloc (.cells #[.int .i64 p0_0, .int .i64 p0_1, .int .i64 p0_2, .slice P12_0_3 ((l0_3).length) pc12_0_3, .slice P12_0_4 ((l0_4).length) pc12_0_4, .slice P12_0_5 ((l0_5).length) pc12_0_5, .slice P12_0_6 ((l0_6).length) pc12_0_6, .int .i64 p0_7, .slice P12_0_8 ((mOwnS l1 p0_0).length) pc12_0_8] 60)).cell? ⟨w8.heap.size, 4, none⟩ = some (.slice P12_0_4 ((l0_4).length) pc12_0_4) := KX13.at_ rfl
      have xKX13_5 : (w8.alloc (.cells #[.int .i64 p0_0, .int .i64 p0_1, .int .i64 p0_2, .slice P12_0_3 ((l0_3).length) pc12_0_3, .slice P12_0_4 ((l0_4).length) pc12_0_4, .slice P12_0_5 ((l0_5).length) pc12_0_5, .slice P12_0_6 ((l0_6).length) pc12_0_6, .int .i64 p0_7, .slice P12_0_8 ((mOwnS l1 p0_0).length) pc12_0_8] 60)).cell? ⟨w8.heap.size, 5, none⟩ = some (.slice P12_0_5 ((l0_5).length) pc12_0_5) := KX13.at_ rfl
      have xKX13_6 : (w8.alloc (.cells #[.int .i64 p0_0, .int .i64 p0_1, .int .i64 p0_2, .slice P12_0_3 ((l0_3).length) pc12_0_3, .slice P12_0_4 ((l0_4).length) pc12_0_4, .slice P12_0_5 ((l0_5).length) pc12_0_5, .slice P12_0_6 ((l0_6).length) pc12_0_6, .int .i64 p0_7, .slice P12_0_8 ((mOwnS l1 p0_0).length) pc12_0_8] 60)).cell? ⟨w8.heap.size, 6, none⟩ = some (.slice P12_0_6 ((l0_6).length) pc12_0_6) := KX13.at_ rfl
      have xKX13_7 : (w8.alloc (.cells #[.int .i64 p0_0, .int .i64 p0_1, .int .i64 p0_2, .slice P12_0_3 ((l0_3).length) pc12_0_3, .slice P12_0_4 ((l0_4).length) pc12_0_4, .slice P12_0_5 ((l0_5).length) pc12_0_5, .slice P12_0_6 ((l0_6).length) pc12_0_6, .int .i64 p0_7, .slice P12_0_8 ((mOwnS l1 p0_0).length) pc12_0_8] 60)).cell? ⟨w8.heap.size, 7, none⟩ = some (.int .i64 p0_7) := KX13.at_ rfl
      have xKX13_8 : (w8.alloc (.cells #[.int .i64 p0_0, .int .i64 p0_1, .int .i64 p0_2, .slice P12_0_3 ((l0_3).length) pc12_0_3, .slice P12_0_4 ((l0_4).length) pc12_0_4, .slice P12_0_5 ((l0_5).length) pc12_0_5, .slice P12_0_6 ((l0_6).length) pc12_0_6, .int .i64 p0_7, .slice P12_0_8 ((mOwnS l1 p0_0).length) pc12_0_8] 60)).cell? ⟨w8.heap.size, 8, none⟩ = some (.slice P12_0_8 ((mOwnS l1 p0_0).length) pc12_0_8) := KX13.at_ rfl
      have xKX6_0 : (w8.alloc (.cells #[.int .i64 p0_0, .int .i64 p0_1, .int .i64 p0_2, .slice P12_0_3 ((l0_3).length) pc12_0_3, .slice P12_0_4 ((l0_4).length) pc12_0_4, .slice P12_0_5 ((l0_5).length) pc12_0_5, .slice P12_0_6 ((l0_6).length) pc12_0_6, .int .i64 p0_7, .slice P12_0_8 ((mOwnS l1 p0_0).length) pc12_0_8] 60)).cell? ⟨w5.heap.size, 0, none⟩ = some (.int .i64 p0_0) := KX6.at_ rfl
      have xKX6_1 : (w8.alloc (.cells #[.int .i64 p0_0, .int .i64 p0_1, .int .i64 p0_2, .slice P12_0_3 ((l0_3).length) pc12_0_3, .slice P12_0_4 ((l0_4).length) pc12_0_4, .slice P12_0_5 ((l0_5).length) pc12_0_5, .slice P12_0_6 ((l0_6).length) pc12_0_6, .int .i64 p0_7, .slice P12_0_8 ((mOwnS l1 p0_0).length) pc12_0_8] 60)).cell? ⟨w5.heap.size, 1, none⟩ = some (.int .i64 p0_1) := KX6.at_ rfl
      have xKX6_2 : (w8.alloc (.cells #[.int .i64 p0_0, .int .i64 p0_1, .int .i64 p0_2, .slice P12_0_3 ((l0_3).length) pc12_0_3, .slice P12_0_4 ((l0_4).length) pc12_0_4, .slice P12_0_5 ((l0_5).length) pc12_0_5, .slice P12_0_6 ((l0_6).length) pc12_0_6, .int .i64 p0_7, .slice P12_0_8 ((mOwnS l1 p0_0).length) pc12_0_8] 60)).cell? ⟨w5.heap.size, 2, none⟩ = some (.int .i64 p0_2) := KX6.at_ rfl
      have xKX6_3 : (w8.alloc (.cells #[.int .i64 p0_0, .int .i64 p0_1, .int .i64 p0_2, .slice P12_0_3 ((l0_3).length) pc12_0_3, .slice P12_0_4 ((l0_4).length) pc12_0_4, .slice P12_0_5 ((l0_5).length) pc12_0_5, .slice P12_0_6 ((l0_6).length) pc12_0_6, .int .i64 p0_7, .slice P12_0_8 ((mOwnS l1 p0_0).length) pc12_0_8] 60)).cell? ⟨w5.heap.size, 3, none⟩ = some (.slice P5_0_3 ((l0_3).length) pc5_0_3) := KX6.at_ rfl
      have xKX6_4 : (w8.alloc (.cells #[.int .i64 p0_0, .int .i64 p0_1, .int .i64 p0_2, .slice P12_0_3 ((l0_3).length) pc12_0_3, .slice P12_0_4 ((l0_4).length) pc12_0_4, .slice P12_0_5 ((l0_5).length) pc12_0_5, .slice P12_0_6 ((l0_6).length) pc12_0_6, .int .i64 p0_7, .slice P12_0_8 ((mOwnS l1 p0_0).length) pc12_0_8] 60)).cell? ⟨w5.heap.size, 4, none⟩ = some (.slice P5_0_4 ((l0_4).length) pc5_0_4) := KX6.at_ rfl
      have xKX6_5 : (w8.alloc (.cells #[.int .i64 p0_0, .int .i64 p0_1, .int .i64 p0_2, .slice P12_0_3 ((l0_3).length) pc12_0_3, .slice P12_0_4 ((l0_4).length) pc12_0_4, .slice P12_0_5 ((l0_5).length) pc12_0_5, .slice P12_0_6 ((l0_6).length) pc12_0_6, .int .i64 p0_7, .slice P12_0_8 ((mOwnS l1 p0_0).length) pc12_0_8] 60)).cell? ⟨w5.heap.size, 5, none⟩ = some (.slice P5_0_5 ((l0_5).length) pc5_0_5) := KX6.at_ rfl
      have xKX6_6 : (w8.alloc (.cells #[.int .i64 p0_0, .int .i64 p0_1, .int .i64 p0_2, .slice P12_0_3 ((l0_3).length) pc12_0_3, .slice P12_0_4 ((l0_4).length) pc12_0_4, .slice P12_0_5 ((l0_5).length) pc12_0_5, .slice P12_0_6 ((l0_6).length) pc12_0_6, .int .i64 p0_7, .slice P12_0_8 ((mOwnS l1 p0_0).length) pc12_0_8] 60)).cell? ⟨w5.heap.size, 6, none⟩ = some (.slice P5_0_6 ((l0_6).length) pc5_0_6) := KX6.at_ rfl
      have xKX6_7 : (w8.alloc (.cells #[.int .i64 p0_0, .int .i64 p0_1, .int .i64 p0_2, .slice P12_0_3 ((l0_3).length) pc12_0_3, .slice P12_0_4 ((l0_4).length) pc12_0_4, .slice P12_0_5 ((l0_5).length) pc12_0_5, .slice P12_0_6 ((l0_6).length) pc12_0_6, .int .i64 p0_7, .slice P12_0_8 ((mOwnS l1 p0_0).length) pc12_0_8] 60)).cell? ⟨w5.heap.size, 7, none⟩ = some (.int .i64 p0_7) := KX6.at_ rfl
      have xKX6_8 : (w8.alloc (.cells #[.int .i64 p0_0, .int .i64 p0_1, .int .i64 p0_2, .slice P12_0_3 ((l0_3).length) pc12_0_3, .slice P12_0_4 ((l0_4).length) pc12_0_4, .slice P12_0_5 ((l0_5).length) pc12_0_5, .slice P12_0_6 ((l0_6).length) pc12_0_6, .int .i64 p0_7, .slice P12_0_8 ((mOwnS l1 p0_0).length) pc12_0_8] 60)).cell? ⟨w5.heap.size, 8, none⟩ = some (.slice P5_0_8 ((mOwnS l1 p0_0).length) pc5_0_8) := KX6.at_ rfl
      go_wp2_with fail
      refine Calls.mono (eq_snapshot_same p0_0 p0_1 p0_2 l0_3 ((l0_3).length) P12_0_3 P5_0_3 pc12_0_3 pc5_0_3 _ _ _ _ l0_4 ((l0_4).length) P12_0_4 P5_0_4 pc12_0_4 pc5_0_4 _ _ _ _ l0_5 ((l0_5).length) P12_0_5 P5_0_5 pc12_0_5 pc5_0_5 _ _ _ _ l0_6 ((l0_6).length) P12_0_6 P5_0_6 pc12_0_6 pc5_0_6 _ _ _ _ p0_7 (mOwnS l1 p0_0) ((mOwnS l1 p0_0).length) P12_0_8 P5_0_8 pc12_0_8 pc5_0_8 _ _ _ _ _ (by omega) (by omega) (by omega) (by omega) (by omega) FP12_0_3.rd FP12_0_4.rd FP12_0_5.rd FP12_0_6.rd FP12_0_8.rd FP5_0_3.rd FP5_0_4.rd FP5_0_5.rd FP5_0_6.rd FP5_0_8.rd) ?_
      rintro e w9 ⟨rfl, B15⟩
      replace R0_3 := (R0_3).new B15
      replace R0_4 := (R0_4).new B15
      replace R0_5 := (R0_5).new B15
      replace R0_6 := (R0_6).new B15
      replace R1 := (R1).new B15
      replace KB0 := (KB0).new B15
      replace FP5_0_3 := (FP5_0_3).new B15
      replace FP5_0_4 := (FP5_0_4).new B15
      replace FP5_0_5 := (FP5_0_5).new B15
      replace FP5_0_6 := (FP5_0_6).new B15
      replace FP5_0_8 := (FP5_0_8).new B15
      replace KX6 := (KX6).new B15
      replace FT8_3 := (FT8_3).new B15
      replace FT8_4 := (FT8_4).new B15
      replace FT8_5 := (FT8_5).new B15
      replace FT8_6 := (FT8_6).new B15
      replace KX9 := (KX9).new B15
      replace FT11 := (FT11).new B15
      replace FP12_0_3 := (FP12_0_3).new B15
      replace FP12_0_4 := (FP12_0_4).new B15
      replace FP12_0_5 := (FP12_0_5).new B15
      replace FP12_0_6 := (FP12_0_6).new B15
      replace FP12_0_8 := (FP12_0_8).new B15
      replace KX13 := (KX13).new B15
      replace G := below_trans G B15 (Nat.le_refl _)
      have S9 := Lib.hid (show (w8.alloc (.cells #[.int .i64 p0_0, .int .i64 p0_1, .int .i64 p0_2, .slice P12_0_3 ((l0_3).length) pc12_0_3, .slice P12_0_4 ((l0_4).length) pc12_0_4, .slice P12_0_5 ((l0_5).length) pc12_0_5, .slice P12_0_6 ((l0_6).length) pc12_0_6, .int .i64 p0_7, .slice P12_0_8 ((mOwnS l1 p0_0).length) pc12_0_8] 60)).heap.size + 0 ≤ w9.heap.size by have := B15.size; first | (simpa using this) | ((try simp at this); omega))
      clear B15
      clear xKX13_0 xKX13_1 xKX13_2 xKX13_3 xKX13_4 xKX13_5 xKX13_6 xKX13_7 xKX13_8 xKX6_0 xKX6_1 xKX6_2 xKX6_3 xKX6_4 xKX6_5 xKX6_6 xKX6_7 xKX6_8
      go_wp2_with fail
      replace G := G.drew
      replace R0_3 := R0_3.drw
      replace R0_4 := R0_4.drw
      replace R0_5 := R0_5.drw
      replace R0_6 := R0_6.drw
      replace R1 := R1.drw
      replace KB0 := KB0.drw
      replace FP5_0_3 := FP5_0_3.drw
      replace FP5_0_4 := FP5_0_4.drw
      replace FP5_0_5 := FP5_0_5.drw
      replace FP5_0_6 := FP5_0_6.drw
      replace FP5_0_8 := FP5_0_8.drw
      replace KX6 := KX6.drw
      replace FT8_3 := FT8_3.drw
      replace FT8_4 := FT8_4.drw
      replace FT8_5 := FT8_5.drw
      replace FT8_6 := FT8_6.drw
      replace KX9 := KX9.drw
      replace FT11 := FT11.drw
      replace FP12_0_3 := FP12_0_3.drw
      replace FP12_0_4 := FP12_0_4.drw
      replace FP12_0_5 := FP12_0_5.drw
      replace FP12_0_6 := FP12_0_6.drw
      replace FP12_0_8 := FP12_0_8.drw
      replace KX13 := KX13.drw
      go_region_held3 (fun w' => w'.cell? ⟨w6.heap.size, 0, none⟩ = some (.int .i64 p0_0) ∧ w'.cell? ⟨w6.heap.size, 1, none⟩ = some (.int .i64 p0_1) ∧ w'.cell? ⟨w6.heap.size, 2, none⟩ = some (.int .i64 p0_2) ∧ w'.cell? ⟨w6.heap.size, 3, none⟩ = some (.slice T8_3 n0_3 tc8_3) ∧ w'.cell? ⟨w6.heap.size, 4, none⟩ = some (.slice T8_4 n0_4 tc8_4) ∧ w'.cell? ⟨w6.heap.size, 5, none⟩ = some (.slice T8_5 n0_5 tc8_5) ∧ w'.cell? ⟨w6.heap.size, 6, none⟩ = some (.slice T8_6 n0_6 tc8_6) ∧ w'.cell? ⟨w6.heap.size, 7, none⟩ = some (.int .i64 p0_7) ∧ w'.cell? ⟨w.heap.size, 0, none⟩ = some (.int .i64 p0_0) ∧ w'.cell? ⟨w.heap.size, 1, none⟩ = some (.int .i64 p0_1) ∧ w'.cell? ⟨w.heap.size, 2, none⟩ = some (.int .i64 p0_2) ∧ w'.cell? ⟨w.heap.size, 3, none⟩ = some (.slice A0_3 n0_3 c0_3) ∧ w'.cell? ⟨w.heap.size, 4, none⟩ = some (.slice A0_4 n0_4 c0_4) ∧ w'.cell? ⟨w.heap.size, 5, none⟩ = some (.slice A0_5 n0_5 c0_5) ∧ w'.cell? ⟨w.heap.size, 6, none⟩ = some (.slice A0_6 n0_6 c0_6) ∧ w'.cell? ⟨w.heap.size, 7, none⟩ = some (.int .i64 p0_7))
        (exact ⟨KX9.at_ rfl, KX9.at_ rfl, KX9.at_ rfl, KX9.at_ rfl, KX9.at_ rfl, KX9.at_ rfl, KX9.at_ rfl, KX9.at_ rfl, KB0.at_ rfl, KB0.at_ rfl, KB0.at_ rfl, KB0.at_ rfl, KB0.at_ rfl, KB0.at_ rfl, KB0.at_ rfl, KB0.at_ rfl⟩)
        (first
          | (go_at_call 27; (fail_if_success (have hx := B16)); refine Calls.mono (to_package p0_0 p0_1 p0_2 l0_3 A0_3 n0_3 c0_3 _ _ l0_4 A0_4 n0_4 c0_4 _ _ l0_5 A0_5 n0_5 c0_5 _ _ l0_6 A0_6 n0_6 c0_6 _ _ p0_7 _ hqn0_3 R0_3 hqn0_4 R0_4 hqn0_5 R0_5 hqn0_6 R0_6) ?_; rintro e w10 ⟨T16_3, T16_4, T16_5, T16_6, tc16_3, tlo16_3, thi16_3, tc16_4, tlo16_4, thi16_4, tc16_5, tlo16_5, thi16_5, tc16_6, tlo16_6, thi16_6, rfl, FT16_3, FT16_4, FT16_5, FT16_6, MT16, B16⟩; (replace R0_3 := rd_nw B16 R0_3); (replace R0_4 := rd_nw B16 R0_4); (replace R0_5 := rd_nw B16 R0_5); (replace R0_6 := rd_nw B16 R0_6); (replace R1 := rd_nw B16 R1); (replace KB0 := box_nw B16 KB0); (replace FP5_0_3 := fr_nw B16 FP5_0_3); (replace FP5_0_4 := fr_nw B16 FP5_0_4); (replace FP5_0_5 := fr_nw B16 FP5_0_5); (replace FP5_0_6 := fr_nw B16 FP5_0_6); (replace FP5_0_8 := fr_nw B16 FP5_0_8); (replace KX6 := box_nw B16 KX6); (replace FT8_3 := fr_nw B16 FT8_3); (replace FT8_4 := fr_nw B16 FT8_4); (replace FT8_5 := fr_nw B16 FT8_5); (replace FT8_6 := fr_nw B16 FT8_6); (replace KX9 := box_nw B16 KX9); (replace FT11 := fr_nw B16 FT11); (replace FP12_0_3 := fr_nw B16 FP12_0_3); (replace FP12_0_4 := fr_nw B16 FP12_0_4); (replace FP12_0_5 := fr_nw B16 FP12_0_5); (replace FP12_0_6 := fr_nw B16 FP12_0_6); (replace FP12_0_8 := fr_nw B16 FP12_0_8); (replace KX13 := box_nw B16 KX13); (replace G := (by first | exact below_trans G B16 (Nat.le_refl _) | exact below_trans G.drew B16 (Nat.le_refl _) | exact below_trans (below_dN G _) B16 (Nat.le_refl _))); (have S10 := Lib.hid (show w9.heap.size ≤ w10.heap.size from B16.size)))
          | (go_at_call 29; (fail_if_success (have hx := B17)); refine Calls.mono (eq_package_same p0_0 p0_1 p0_2 l0_3 n0_3 T8_3 T16_3 tc8_3 tc16_3 _ _ _ _ l0_4 n0_4 T8_4 T16_4 tc8_4 tc16_4 _ _ _ _ l0_5 n0_5 T8_5 T16_5 tc8_5 tc16_5 _ _ _ _ l0_6 n0_6 T8_6 T16_6 tc8_6 tc16_6 _ _ _ _ p0_7 _ (by omega) (by omega) (by omega) (by omega) FT8_3.rd FT8_4.rd FT8_5.rd FT8_6.rd FT16_3.rd FT16_4.rd FT16_5.rd FT16_6.rd) ?_; rintro e w11 ⟨rfl, B17⟩; (replace R0_3 := rd_nw B17 R0_3); (replace R0_4 := rd_nw B17 R0_4); (replace R0_5 := rd_nw B17 R0_5); (replace R0_6 := rd_nw B17 R0_6); (replace R1 := rd_nw B17 R1); (replace KB0 := box_nw B17 KB0); (replace FP5_0_3 := fr_nw B17 FP5_0_3); (replace FP5_0_4 := fr_nw B17 FP5_0_4); (replace FP5_0_5 := fr_nw B17 FP5_0_5); (replace FP5_0_6 := fr_nw B17 FP5_0_6); (replace FP5_0_8 := fr_nw B17 FP5_0_8); (replace KX6 := box_nw B17 KX6); (replace FT8_3 := fr_nw B17 FT8_3); (replace FT8_4 := fr_nw B17 FT8_4); (replace FT8_5 := fr_nw B17 FT8_5); (replace FT8_6 := fr_nw B17 FT8_6); (replace KX9 := box_nw B17 KX9); (replace FT11 := fr_nw B17 FT11); (replace FP12_0_3 := fr_nw B17 FP12_0_3); (replace FP12_0_4 := fr_nw B17 FP12_0_4); (replace FP12_0_5 := fr_nw B17 FP12_0_5); (replace FP12_0_6 := fr_nw B17 FP12_0_6); (replace FP12_0_8 := fr_nw B17 FP12_0_8); (replace KX13 := box_nw B17 KX13); (replace FT16_3 := fr_nw B17 FT16_3); (replace FT16_4 := fr_nw B17 FT16_4); (replace FT16_5 := fr_nw B17 FT16_5); (replace FT16_6 := fr_nw B17 FT16_6); (replace G := (by first | exact below_trans G B17 (Nat.le_refl _) | exact below_trans G.drew B17 (Nat.le_refl _) | exact below_trans (below_dN G _) B17 (Nat.le_refl _))); (have S11 := Lib.hid (show w10.heap.size ≤ w11.heap.size from B17.size))))
      clear B16
      clear B17
      clear FT16_3
      clear FT16_4
      clear FT16_5
      clear FT16_6
      go_wp2_with fail
      refine Calls.mono (to_stored l1 A1 n1 c1 _ _ _ (Nat.le_trans hqn1 (by decide)) R1) ?_
      rintro e w12 ⟨T18, tc18, rfl, FT18, B18⟩
      replace R0_3 := (R0_3).new B18
      replace R0_4 := (R0_4).new B18
      replace R0_5 := (R0_5).new B18
      replace R0_6 := (R0_6).new B18
      replace R1 := (R1).new B18
      replace KB0 := (KB0).new B18
      replace FP5_0_3 := (FP5_0_3).new B18
      replace FP5_0_4 := (FP5_0_4).new B18
      replace FP5_0_5 := (FP5_0_5).new B18
      replace FP5_0_6 := (FP5_0_6).new B18
      replace FP5_0_8 := (FP5_0_8).new B18
      replace KX6 := (KX6).new B18
      replace FT8_3 := (FT8_3).new B18
      replace FT8_4 := (FT8_4).new B18
      replace FT8_5 := (FT8_5).new B18
      replace FT8_6 := (FT8_6).new B18
      replace KX9 := (KX9).new B18
      replace FT11 := (FT11).new B18
      replace FP12_0_3 := (FP12_0_3).new B18
      replace FP12_0_4 := (FP12_0_4).new B18
      replace FP12_0_5 := (FP12_0_5).new B18
      replace FP12_0_6 := (FP12_0_6).new B18
      replace FP12_0_8 := (FP12_0_8).new B18
      replace KX13 := (KX13).new B18
      replace G := below_trans G B18 (Nat.le_refl _)
      have S12 := Lib.hid (show w11.heap.size + 0 ≤ w12.heap.size by have := B18.size; first | (simpa using this) | ((try simp at this); omega))
      clear B18
      go_wp2_with fail
      refine Calls.mono (eq_stored_same l1 T11 T18 n1 n1 tc11 tc18 _ _ _ _ _ (by omega) (by omega) FT11.rd FT18.rd) ?_
      rintro e w13 ⟨rfl, B19⟩
      replace R0_3 := (R0_3).new B19
      replace R0_4 := (R0_4).new B19
      replace R0_5 := (R0_5).new B19
      replace R0_6 := (R0_6).new B19
      replace R1 := (R1).new B19
      replace KB0 := (KB0).new B19
      replace FP5_0_3 := (FP5_0_3).new B19
      replace FP5_0_4 := (FP5_0_4).new B19
      replace FP5_0_5 := (FP5_0_5).new B19
      replace FP5_0_6 := (FP5_0_6).new B19
      replace FP5_0_8 := (FP5_0_8).new B19
      replace KX6 := (KX6).new B19
      replace FT8_3 := (FT8_3).new B19
      replace FT8_4 := (FT8_4).new B19
      replace FT8_5 := (FT8_5).new B19
      replace FT8_6 := (FT8_6).new B19
      replace KX9 := (KX9).new B19
      replace FT11 := (FT11).new B19
      replace FP12_0_3 := (FP12_0_3).new B19
      replace FP12_0_4 := (FP12_0_4).new B19
      replace FP12_0_5 := (FP12_0_5).new B19
      replace FP12_0_6 := (FP12_0_6).new B19
      replace FP12_0_8 := (FP12_0_8).new B19
      replace KX13 := (KX13).new B19
      replace FT18 := (FT18).new B19
      replace G := below_trans G B19 (Nat.le_refl _)
      have S13 := Lib.hid (show w12.heap.size + 0 ≤ w13.heap.size by have := B19.size; first | (simpa using this) | ((try simp at this); omega))
      clear B19
      clear FT18
      have xKX9_0 : w13.cell? ⟨w6.heap.size, 0, none⟩ = some (.int .i64 p0_0) := KX9.at_ rfl
      have xKX9_1 : w13.cell? ⟨w6.heap.size, 1, none⟩ = some (.int .i64 p0_1) := KX9.at_ rfl
      have xKX9_2 : w13.cell? ⟨w6.heap.size, 2, none⟩ = some (.int .i64 p0_2) := KX9.at_ rfl
      have xKX9_3 : w13.cell? ⟨w6.heap.size, 3, none⟩ = some (.slice T8_3 n0_3 tc8_3) := KX9.at_ rfl
      have xKX9_4 : w13.cell? ⟨w6.heap.size, 4, none⟩ = some (.slice T8_4 n0_4 tc8_4) := KX9.at_ rfl
      have xKX9_5 : w13.cell? ⟨w6.heap.size, 5, none⟩ = some (.slice T8_5 n0_5 tc8_5) := KX9.at_ rfl
      have xKX9_6 : w13.cell? ⟨w6.heap.size, 6, none⟩ = some (.slice T8_6 n0_6 tc8_6) := KX9.at_ rfl
      have xKX9_7 : w13.cell? ⟨w6.heap.size, 7, none⟩ = some (.int .i64 p0_7) := KX9.at_ rfl
      go_wp2_with fail
      refine Calls.mono (mark_package p0_0 p0_1 p0_2 _ T8_3 n0_3 tc8_3 _ _ _ T8_4 n0_4 tc8_4 _ _ _ T8_5 n0_5 tc8_5 _ _ _ T8_6 n0_6 tc8_6 _ _ p0_7 (1) ((w5.alloc (.cells #[.int .i64 p0_0, .int .i64 p0_1, .int .i64 p0_2, .slice P5_0_3 ((l0_3).length) pc5_0_3, .slice P5_0_4 ((l0_4).length) pc5_0_4, .slice P5_0_5 ((l0_5).length) pc5_0_5, .slice P5_0_6 ((l0_6).length) pc5_0_6, .int .i64 p0_7, .slice P5_0_8 ((mOwnS l1 p0_0).length) pc5_0_8] 60)).heap.size) w6.heap.size _ (by omega) (by omega) (by omega) (by omega) (by omega) (by have := S0.out; have := S1.out; have := S2.out; have := S3.out; have := S4.out; have := S5.out; have := SA7.out; have := S6.out; have := SA10.out; have := S7.out; have := S8.out; have := SA14.out; have := S9.out; have := S10.out; have := S11.out; have := S12.out; have := S13.out; have := SepPackage_bd MT3.out; have := SepSnapshot_bd MP5_0.out; have := SepPackage_bd MT8.out; have := SepSnapshot_bd MP12_0.out; have := SepPackage_bd MT16.out; omega) MT8 FT8_3 FT8_4 FT8_5 FT8_6) ?_
      rintro e w14 ⟨rfl, FM20_3, FM20_4, FM20_5, FM20_6, B20⟩
      replace R0_3 := (R0_3).chg B20 (by have := S0.out; have := S1.out; have := S2.out; have := S3.out; have := S4.out; have := S5.out; have := SA7.out; have := S6.out; have := SA10.out; have := S7.out; have := S8.out; have := SA14.out; have := S9.out; have := S10.out; have := S11.out; have := S12.out; have := S13.out; have := SepPackage_bd MT3.out; have := SepSnapshot_bd MP5_0.out; have := SepPackage_bd MT8.out; have := SepSnapshot_bd MP12_0.out; have := SepPackage_bd MT16.out; omega)
      replace R0_4 := (R0_4).chg B20 (by have := S0.out; have := S1.out; have := S2.out; have := S3.out; have := S4.out; have := S5.out; have := SA7.out; have := S6.out; have := SA10.out; have := S7.out; have := S8.out; have := SA14.out; have := S9.out; have := S10.out; have := S11.out; have := S12.out; have := S13.out; have := SepPackage_bd MT3.out; have := SepSnapshot_bd MP5_0.out; have := SepPackage_bd MT8.out; have := SepSnapshot_bd MP12_0.out; have := SepPackage_bd MT16.out; omega)
      replace R0_5 := (R0_5).chg B20 (by have := S0.out; have := S1.out; have := S2.out; have := S3.out; have := S4.out; have := S5.out; have := SA7.out; have := S6.out; have := SA10.out; have := S7.out; have := S8.out; have := SA14.out; have := S9.out; have := S10.out; have := S11.out; have := S12.out; have := S13.out; have := SepPackage_bd MT3.out; have := SepSnapshot_bd MP5_0.out; have := SepPackage_bd MT8.out; have := SepSnapshot_bd MP12_0.out; have := SepPackage_bd MT16.out; omega)
      replace R0_6 := (R0_6).chg B20 (by have := S0.out; have := S1.out; have := S2.out; have := S3.out; have := S4.out; have := S5.out; have := SA7.out; have := S6.out; have := SA10.out; have := S7.out; have := S8.out; have := SA14.out; have := S9.out; have := S10.out; have := S11.out; have := S12.out; have := S13.out; have := SepPackage_bd MT3.out; have := SepSnapshot_bd MP5_0.out; have := SepPackage_bd MT8.out; have := SepSnapshot_bd MP12_0.out; have := SepPackage_bd MT16.out; omega)
      replace R1 := (R1).chg B20 (by have := S0.out; have := S1.out; have := S2.out; have := S3.out; have := S4.out; have := S5.out; have := SA7.out; have := S6.out; have := SA10.out; have := S7.out; have := S8.out; have := SA14.out; have := S9.out; have := S10.out; have := S11.out; have := S12.out; have := S13.out; have := SepPackage_bd MT3.out; have := SepSnapshot_bd MP5_0.out; have := SepPackage_bd MT8.out; have := SepSnapshot_bd MP12_0.out; have := SepPackage_bd MT16.out; omega)
      replace KB0 := (KB0).chg B20 (by have := S0.out; have := S1.out; have := S2.out; have := S3.out; have := S4.out; have := S5.out; have := SA7.out; have := S6.out; have := SA10.out; have := S7.out; have := S8.out; have := SA14.out; have := S9.out; have := S10.out; have := S11.out; have := S12.out; have := S13.out; have := SepPackage_bd MT3.out; have := SepSnapshot_bd MP5_0.out; have := SepPackage_bd MT8.out; have := SepSnapshot_bd MP12_0.out; have := SepPackage_bd MT16.out; omega)
      replace FP5_0_3 := (FP5_0_3).chg B20 (by have := S0.out; have := S1.out; have := S2.out; have := S3.out; have := S4.out; have := S5.out; have := SA7.out; have := S6.out; have := SA10.out; have := S7.out; have := S8.out; have := SA14.out; have := S9.out; have := S10.out; have := S11.out; have := S12.out; have := S13.out; have := SepPackage_bd MT3.out; have := SepSnapshot_bd MP5_0.out; have := SepPackage_bd MT8.out; have := SepSnapshot_bd MP12_0.out; have := SepPackage_bd MT16.out; omega)
      replace FP5_0_4 := (FP5_0_4).chg B20 (by have := S0.out; have := S1.out; have := S2.out; have := S3.out; have := S4.out; have := S5.out; have := SA7.out; have := S6.out; have := SA10.out; have := S7.out; have := S8.out; have := SA14.out; have := S9.out; have := S10.out; have := S11.out; have := S12.out; have := S13.out; have := SepPackage_bd MT3.out; have := SepSnapshot_bd MP5_0.out; have := SepPackage_bd MT8.out; have := SepSnapshot_bd MP12_0.out; have := SepPackage_bd MT16.out; omega)
      replace FP5_0_5 := (FP5_0_5).chg B20 (by have := S0.out; have := S1.out; have := S2.out; have := S3.out; have := S4.out; have := S5.out; have := SA7.out; have := S6.out; have := SA10.out; have := S7.out; have := S8.out; have := SA14.out; have := S9.out; have := S10.out; have := S11.out; have := S12.out; have := S13.out; have := SepPackage_bd MT3.out; have := SepSnapshot_bd MP5_0.out; have := SepPackage_bd MT8.out; have := SepSnapshot_bd MP12_0.out; have := SepPackage_bd MT16.out; omega)
      replace FP5_0_6 := (FP5_0_6).chg B20 (by have := S0.out; have := S1.out; have := S2.out; have := S3.out; have := S4.out; have := S5.out; have := SA7.out; have := S6.out; have := SA10.out; have := S7.out; have := S8.out; have := SA14.out; have := S9.out; have := S10.out; have := S11.out; have := S12.out; have := S13.out; have := SepPackage_bd MT3.out; have := SepSnapshot_bd MP5_0.out; have := SepPackage_bd MT8.out; have := SepSnapshot_bd MP12_0.out; have := SepPackage_bd MT16.out; omega)
      replace FP5_0_8 := (FP5_0_8).chg B20 (by have := S0.out; have := S1.out; have := S2.out; have := S3.out; have := S4.out; have := S5.out; have := SA7.out; have := S6.out; have := SA10.out; have := S7.out; have := S8.out; have := SA14.out; have := S9.out; have := S10.out; have := S11.out; have := S12.out; have := S13.out; have := SepPackage_bd MT3.out; have := SepSnapshot_bd MP5_0.out; have := SepPackage_bd MT8.out; have := SepSnapshot_bd MP12_0.out; have := SepPackage_bd MT16.out; omega)
      replace KX6 := (KX6).chg B20 (by have := S0.out; have := S1.out; have := S2.out; have := S3.out; have := S4.out; have := S5.out; have := SA7.out; have := S6.out; have := SA10.out; have := S7.out; have := S8.out; have := SA14.out; have := S9.out; have := S10.out; have := S11.out; have := S12.out; have := S13.out; have := SepPackage_bd MT3.out; have := SepSnapshot_bd MP5_0.out; have := SepPackage_bd MT8.out; have := SepSnapshot_bd MP12_0.out; have := SepPackage_bd MT16.out; omega)
      replace KX9 := (KX9).chg B20 (by have := S0.out; have := S1.out; have := S2.out; have := S3.out; have := S4.out; have := S5.out; have := SA7.out; have := S6.out; have := SA10.out; have := S7.out; have := S8.out; have := SA14.out; have := S9.out; have := S10.out; have := S11.out; have := S12.out; have := S13.out; have := SepPackage_bd MT3.out; have := SepSnapshot_bd MP5_0.out; have := SepPackage_bd MT8.out; have := SepSnapshot_bd MP12_0.out; have := SepPackage_bd MT16.out; omega)
      replace FT11 := (FT11).chg B20 (by have := S0.out; have := S1.out; have := S2.out; have := S3.out; have := S4.out; have := S5.out; have := SA7.out; have := S6.out; have := SA10.out; have := S7.out; have := S8.out; have := SA14.out; have := S9.out; have := S10.out; have := S11.out; have := S12.out; have := S13.out; have := SepPackage_bd MT3.out; have := SepSnapshot_bd MP5_0.out; have := SepPackage_bd MT8.out; have := SepSnapshot_bd MP12_0.out; have := SepPackage_bd MT16.out; omega)
      replace FP12_0_3 := (FP12_0_3).chg B20 (by have := S0.out; have := S1.out; have := S2.out; have := S3.out; have := S4.out; have := S5.out; have := SA7.out; have := S6.out; have := SA10.out; have := S7.out; have := S8.out; have := SA14.out; have := S9.out; have := S10.out; have := S11.out; have := S12.out; have := S13.out; have := SepPackage_bd MT3.out; have := SepSnapshot_bd MP5_0.out; have := SepPackage_bd MT8.out; have := SepSnapshot_bd MP12_0.out; have := SepPackage_bd MT16.out; omega)
      replace FP12_0_4 := (FP12_0_4).chg B20 (by have := S0.out; have := S1.out; have := S2.out; have := S3.out; have := S4.out; have := S5.out; have := SA7.out; have := S6.out; have := SA10.out; have := S7.out; have := S8.out; have := SA14.out; have := S9.out; have := S10.out; have := S11.out; have := S12.out; have := S13.out; have := SepPackage_bd MT3.out; have := SepSnapshot_bd MP5_0.out; have := SepPackage_bd MT8.out; have := SepSnapshot_bd MP12_0.out; have := SepPackage_bd MT16.out; omega)
      replace FP12_0_5 := (FP12_0_5).chg B20 (by have := S0.out; have := S1.out; have := S2.out; have := S3.out; have := S4.out; have := S5.out; have := SA7.out; have := S6.out; have := SA10.out; have := S7.out; have := S8.out; have := SA14.out; have := S9.out; have := S10.out; have := S11.out; have := S12.out; have := S13.out; have := SepPackage_bd MT3.out; have := SepSnapshot_bd MP5_0.out; have := SepPackage_bd MT8.out; have := SepSnapshot_bd MP12_0.out; have := SepPackage_bd MT16.out; omega)
      replace FP12_0_6 := (FP12_0_6).chg B20 (by have := S0.out; have := S1.out; have := S2.out; have := S3.out; have := S4.out; have := S5.out; have := SA7.out; have := S6.out; have := SA10.out; have := S7.out; have := S8.out; have := SA14.out; have := S9.out; have := S10.out; have := S11.out; have := S12.out; have := S13.out; have := SepPackage_bd MT3.out; have := SepSnapshot_bd MP5_0.out; have := SepPackage_bd MT8.out; have := SepSnapshot_bd MP12_0.out; have := SepPackage_bd MT16.out; omega)
      replace FP12_0_8 := (FP12_0_8).chg B20 (by have := S0.out; have := S1.out; have := S2.out; have := S3.out; have := S4.out; have := S5.out; have := SA7.out; have := S6.out; have := SA10.out; have := S7.out; have := S8.out; have := SA14.out; have := S9.out; have := S10.out; have := S11.out; have := S12.out; have := S13.out; have := SepPackage_bd MT3.out; have := SepSnapshot_bd MP5_0.out; have := SepPackage_bd MT8.out; have := SepSnapshot_bd MP12_0.out; have := SepPackage_bd MT16.out; omega)
      replace KX13 := (KX13).chg B20 (by have := S0.out; have := S1.out; have := S2.out; have := S3.out; have := S4.out; have := S5.out; have := SA7.out; have := S6.out; have := SA10.out; have := S7.out; have := S8.out; have := SA14.out; have := S9.out; have := S10.out; have := S11.out; have := S12.out; have := S13.out; have := SepPackage_bd MT3.out; have := SepSnapshot_bd MP5_0.out; have := SepPackage_bd MT8.out; have := SepSnapshot_bd MP12_0.out; have := SepPackage_bd MT16.out; omega)
      replace G := G.trans (B20.below (.inl (by have := S0.out; have := S1.out; have := S2.out; have := S3.out; have := S4.out; have := S5.out; have := SA7.out; have := S6.out; have := SA10.out; have := S7.out; have := S8.out; have := SA14.out; have := S9.out; have := S10.out; have := S11.out; have := S12.out; have := S13.out; have := SepPackage_bd MT3.out; have := SepSnapshot_bd MP5_0.out; have := SepPackage_bd MT8.out; have := SepSnapshot_bd MP12_0.out; have := SepPackage_bd MT16.out; omega)) (by have := S0.out; have := S1.out; have := S2.out; have := S3.out; have := S4.out; have := S5.out; have := SA7.out; have := S6.out; have := SA10.out; have := S7.out; have := S8.out; have := SA14.out; have := S9.out; have := S10.out; have := S11.out; have := S12.out; have := S13.out; have := SepPackage_bd MT3.out; have := SepSnapshot_bd MP5_0.out; have := SepPackage_bd MT8.out; have := SepSnapshot_bd MP12_0.out; have := SepPackage_bd MT16.out; first | omega | (simp; omega)))
      have S14 := Lib.hid (show w13.heap.size + 0 ≤ w14.heap.size by have := B20.size; first | (simpa using this) | ((try simp at this); omega))
      clear FT8_3
      clear FT8_4
      clear FT8_5
      clear FT8_6
      clear B20
      clear xKX9_0 xKX9_1 xKX9_2 xKX9_3 xKX9_4 xKX9_5 xKX9_6 xKX9_7
      go_wp2_with fail
      refine Calls.mono (mark_stored _ T11 n1 tc11 _ _ (1 + n0_3 * 7 + n0_4 * 3 + n0_5 * 8 + n0_6 * 4) _ (by omega) (by omega) FT11) ?_
      rintro e w15 ⟨rfl, FM21, B21, E21⟩
      replace R0_3 := (R0_3).chg B21 (by have := S0.out; have := S1.out; have := S2.out; have := S3.out; have := S4.out; have := S5.out; have := SA7.out; have := S6.out; have := SA10.out; have := S7.out; have := S8.out; have := SA14.out; have := S9.out; have := S10.out; have := S11.out; have := S12.out; have := S13.out; have := S14.out; have := SepPackage_bd MT3.out; have := SepSnapshot_bd MP5_0.out; have := SepPackage_bd MT8.out; have := SepSnapshot_bd MP12_0.out; have := SepPackage_bd MT16.out; omega)
      replace R0_4 := (R0_4).chg B21 (by have := S0.out; have := S1.out; have := S2.out; have := S3.out; have := S4.out; have := S5.out; have := SA7.out; have := S6.out; have := SA10.out; have := S7.out; have := S8.out; have := SA14.out; have := S9.out; have := S10.out; have := S11.out; have := S12.out; have := S13.out; have := S14.out; have := SepPackage_bd MT3.out; have := SepSnapshot_bd MP5_0.out; have := SepPackage_bd MT8.out; have := SepSnapshot_bd MP12_0.out; have := SepPackage_bd MT16.out; omega)
      replace R0_5 := (R0_5).chg B21 (by have := S0.out; have := S1.out; have := S2.out; have := S3.out; have := S4.out; have := S5.out; have := SA7.out; have := S6.out; have := SA10.out; have := S7.out; have := S8.out; have := SA14.out; have := S9.out; have := S10.out; have := S11.out; have := S12.out; have := S13.out; have := S14.out; have := SepPackage_bd MT3.out; have := SepSnapshot_bd MP5_0.out; have := SepPackage_bd MT8.out; have := SepSnapshot_bd MP12_0.out; have := SepPackage_bd MT16.out; omega)
      replace R0_6 := (R0_6).chg B21 (by have := S0.out; have := S1.out; have := S2.out; have := S3.out; have := S4.out; have := S5.out; have := SA7.out; have := S6.out; have := SA10.out; have := S7.out; have := S8.out; have := SA14.out; have := S9.out; have := S10.out; have := S11.out; have := S12.out; have := S13.out; have := S14.out; have := SepPackage_bd MT3.out; have := SepSnapshot_bd MP5_0.out; have := SepPackage_bd MT8.out; have := SepSnapshot_bd MP12_0.out; have := SepPackage_bd MT16.out; omega)
      replace R1 := (R1).chg B21 (by have := S0.out; have := S1.out; have := S2.out; have := S3.out; have := S4.out; have := S5.out; have := SA7.out; have := S6.out; have := SA10.out; have := S7.out; have := S8.out; have := SA14.out; have := S9.out; have := S10.out; have := S11.out; have := S12.out; have := S13.out; have := S14.out; have := SepPackage_bd MT3.out; have := SepSnapshot_bd MP5_0.out; have := SepPackage_bd MT8.out; have := SepSnapshot_bd MP12_0.out; have := SepPackage_bd MT16.out; omega)
      replace KB0 := (KB0).chg B21 (by have := S0.out; have := S1.out; have := S2.out; have := S3.out; have := S4.out; have := S5.out; have := SA7.out; have := S6.out; have := SA10.out; have := S7.out; have := S8.out; have := SA14.out; have := S9.out; have := S10.out; have := S11.out; have := S12.out; have := S13.out; have := S14.out; have := SepPackage_bd MT3.out; have := SepSnapshot_bd MP5_0.out; have := SepPackage_bd MT8.out; have := SepSnapshot_bd MP12_0.out; have := SepPackage_bd MT16.out; omega)
      replace FP5_0_3 := (FP5_0_3).chg B21 (by have := S0.out; have := S1.out; have := S2.out; have := S3.out; have := S4.out; have := S5.out; have := SA7.out; have := S6.out; have := SA10.out; have := S7.out; have := S8.out; have := SA14.out; have := S9.out; have := S10.out; have := S11.out; have := S12.out; have := S13.out; have := S14.out; have := SepPackage_bd MT3.out; have := SepSnapshot_bd MP5_0.out; have := SepPackage_bd MT8.out; have := SepSnapshot_bd MP12_0.out; have := SepPackage_bd MT16.out; omega)
      replace FP5_0_4 := (FP5_0_4).chg B21 (by have := S0.out; have := S1.out; have := S2.out; have := S3.out; have := S4.out; have := S5.out; have := SA7.out; have := S6.out; have := SA10.out; have := S7.out; have := S8.out; have := SA14.out; have := S9.out; have := S10.out; have := S11.out; have := S12.out; have := S13.out; have := S14.out; have := SepPackage_bd MT3.out; have := SepSnapshot_bd MP5_0.out; have := SepPackage_bd MT8.out; have := SepSnapshot_bd MP12_0.out; have := SepPackage_bd MT16.out; omega)
      replace FP5_0_5 := (FP5_0_5).chg B21 (by have := S0.out; have := S1.out; have := S2.out; have := S3.out; have := S4.out; have := S5.out; have := SA7.out; have := S6.out; have := SA10.out; have := S7.out; have := S8.out; have := SA14.out; have := S9.out; have := S10.out; have := S11.out; have := S12.out; have := S13.out; have := S14.out; have := SepPackage_bd MT3.out; have := SepSnapshot_bd MP5_0.out; have := SepPackage_bd MT8.out; have := SepSnapshot_bd MP12_0.out; have := SepPackage_bd MT16.out; omega)
      replace FP5_0_6 := (FP5_0_6).chg B21 (by have := S0.out; have := S1.out; have := S2.out; have := S3.out; have := S4.out; have := S5.out; have := SA7.out; have := S6.out; have := SA10.out; have := S7.out; have := S8.out; have := SA14.out; have := S9.out; have := S10.out; have := S11.out; have := S12.out; have := S13.out; have := S14.out; have := SepPackage_bd MT3.out; have := SepSnapshot_bd MP5_0.out; have := SepPackage_bd MT8.out; have := SepSnapshot_bd MP12_0.out; have := SepPackage_bd MT16.out; omega)
      replace FP5_0_8 := (FP5_0_8).chg B21 (by have := S0.out; have := S1.out; have := S2.out; have := S3.out; have := S4.out; have := S5.out; have := SA7.out; have := S6.out; have := SA10.out; have := S7.out; have := S8.out; have := SA14.out; have := S9.out; have := S10.out; have := S11.out; have := S12.out; have := S13.out; have := S14.out; have := SepPackage_bd MT3.out; have := SepSnapshot_bd MP5_0.out; have := SepPackage_bd MT8.out; have := SepSnapshot_bd MP12_0.out; have := SepPackage_bd MT16.out; omega)
      replace KX6 := (KX6).chg B21 (by have := S0.out; have := S1.out; have := S2.out; have := S3.out; have := S4.out; have := S5.out; have := SA7.out; have := S6.out; have := SA10.out; have := S7.out; have := S8.out; have := SA14.out; have := S9.out; have := S10.out; have := S11.out; have := S12.out; have := S13.out; have := S14.out; have := SepPackage_bd MT3.out; have := SepSnapshot_bd MP5_0.out; have := SepPackage_bd MT8.out; have := SepSnapshot_bd MP12_0.out; have := SepPackage_bd MT16.out; omega)
      replace KX9 := (KX9).chg B21 (by have := S0.out; have := S1.out; have := S2.out; have := S3.out; have := S4.out; have := S5.out; have := SA7.out; have := S6.out; have := SA10.out; have := S7.out; have := S8.out; have := SA14.out; have := S9.out; have := S10.out; have := S11.out; have := S12.out; have := S13.out; have := S14.out; have := SepPackage_bd MT3.out; have := SepSnapshot_bd MP5_0.out; have := SepPackage_bd MT8.out; have := SepSnapshot_bd MP12_0.out; have := SepPackage_bd MT16.out; omega)
      replace FP12_0_3 := (FP12_0_3).chg B21 (by have := S0.out; have := S1.out; have := S2.out; have := S3.out; have := S4.out; have := S5.out; have := SA7.out; have := S6.out; have := SA10.out; have := S7.out; have := S8.out; have := SA14.out; have := S9.out; have := S10.out; have := S11.out; have := S12.out; have := S13.out; have := S14.out; have := SepPackage_bd MT3.out; have := SepSnapshot_bd MP5_0.out; have := SepPackage_bd MT8.out; have := SepSnapshot_bd MP12_0.out; have := SepPackage_bd MT16.out; omega)
      replace FP12_0_4 := (FP12_0_4).chg B21 (by have := S0.out; have := S1.out; have := S2.out; have := S3.out; have := S4.out; have := S5.out; have := SA7.out; have := S6.out; have := SA10.out; have := S7.out; have := S8.out; have := SA14.out; have := S9.out; have := S10.out; have := S11.out; have := S12.out; have := S13.out; have := S14.out; have := SepPackage_bd MT3.out; have := SepSnapshot_bd MP5_0.out; have := SepPackage_bd MT8.out; have := SepSnapshot_bd MP12_0.out; have := SepPackage_bd MT16.out; omega)
      replace FP12_0_5 := (FP12_0_5).chg B21 (by have := S0.out; have := S1.out; have := S2.out; have := S3.out; have := S4.out; have := S5.out; have := SA7.out; have := S6.out; have := SA10.out; have := S7.out; have := S8.out; have := SA14.out; have := S9.out; have := S10.out; have := S11.out; have := S12.out; have := S13.out; have := S14.out; have := SepPackage_bd MT3.out; have := SepSnapshot_bd MP5_0.out; have := SepPackage_bd MT8.out; have := SepSnapshot_bd MP12_0.out; have := SepPackage_bd MT16.out; omega)
      replace FP12_0_6 := (FP12_0_6).chg B21 (by have := S0.out; have := S1.out; have := S2.out; have := S3.out; have := S4.out; have := S5.out; have := SA7.out; have := S6.out; have := SA10.out; have := S7.out; have := S8.out; have := SA14.out; have := S9.out; have := S10.out; have := S11.out; have := S12.out; have := S13.out; have := S14.out; have := SepPackage_bd MT3.out; have := SepSnapshot_bd MP5_0.out; have := SepPackage_bd MT8.out; have := SepSnapshot_bd MP12_0.out; have := SepPackage_bd MT16.out; omega)
      replace FP12_0_8 := (FP12_0_8).chg B21 (by have := S0.out; have := S1.out; have := S2.out; have := S3.out; have := S4.out; have := S5.out; have := SA7.out; have := S6.out; have := SA10.out; have := S7.out; have := S8.out; have := SA14.out; have := S9.out; have := S10.out; have := S11.out; have := S12.out; have := S13.out; have := S14.out; have := SepPackage_bd MT3.out; have := SepSnapshot_bd MP5_0.out; have := SepPackage_bd MT8.out; have := SepSnapshot_bd MP12_0.out; have := SepPackage_bd MT16.out; omega)
      replace KX13 := (KX13).chg B21 (by have := S0.out; have := S1.out; have := S2.out; have := S3.out; have := S4.out; have := S5.out; have := SA7.out; have := S6.out; have := SA10.out; have := S7.out; have := S8.out; have := SA14.out; have := S9.out; have := S10.out; have := S11.out; have := S12.out; have := S13.out; have := S14.out; have := SepPackage_bd MT3.out; have := SepSnapshot_bd MP5_0.out; have := SepPackage_bd MT8.out; have := SepSnapshot_bd MP12_0.out; have := SepPackage_bd MT16.out; omega)
      replace FM20_3 := (FM20_3).chg B21 (by have := S0.out; have := S1.out; have := S2.out; have := S3.out; have := S4.out; have := S5.out; have := SA7.out; have := S6.out; have := SA10.out; have := S7.out; have := S8.out; have := SA14.out; have := S9.out; have := S10.out; have := S11.out; have := S12.out; have := S13.out; have := S14.out; have := SepPackage_bd MT3.out; have := SepSnapshot_bd MP5_0.out; have := SepPackage_bd MT8.out; have := SepSnapshot_bd MP12_0.out; have := SepPackage_bd MT16.out; omega)
      replace FM20_4 := (FM20_4).chg B21 (by have := S0.out; have := S1.out; have := S2.out; have := S3.out; have := S4.out; have := S5.out; have := SA7.out; have := S6.out; have := SA10.out; have := S7.out; have := S8.out; have := SA14.out; have := S9.out; have := S10.out; have := S11.out; have := S12.out; have := S13.out; have := S14.out; have := SepPackage_bd MT3.out; have := SepSnapshot_bd MP5_0.out; have := SepPackage_bd MT8.out; have := SepSnapshot_bd MP12_0.out; have := SepPackage_bd MT16.out; omega)
      replace FM20_5 := (FM20_5).chg B21 (by have := S0.out; have := S1.out; have := S2.out; have := S3.out; have := S4.out; have := S5.out; have := SA7.out; have := S6.out; have := SA10.out; have := S7.out; have := S8.out; have := SA14.out; have := S9.out; have := S10.out; have := S11.out; have := S12.out; have := S13.out; have := S14.out; have := SepPackage_bd MT3.out; have := SepSnapshot_bd MP5_0.out; have := SepPackage_bd MT8.out; have := SepSnapshot_bd MP12_0.out; have := SepPackage_bd MT16.out; omega)
      replace FM20_6 := (FM20_6).chg B21 (by have := S0.out; have := S1.out; have := S2.out; have := S3.out; have := S4.out; have := S5.out; have := SA7.out; have := S6.out; have := SA10.out; have := S7.out; have := S8.out; have := SA14.out; have := S9.out; have := S10.out; have := S11.out; have := S12.out; have := S13.out; have := S14.out; have := SepPackage_bd MT3.out; have := SepSnapshot_bd MP5_0.out; have := SepPackage_bd MT8.out; have := SepSnapshot_bd MP12_0.out; have := SepPackage_bd MT16.out; omega)
      replace G := G.trans (B21.below (.inl (by have := S0.out; have := S1.out; have := S2.out; have := S3.out; have := S4.out; have := S5.out; have := SA7.out; have := S6.out; have := SA10.out; have := S7.out; have := S8.out; have := SA14.out; have := S9.out; have := S10.out; have := S11.out; have := S12.out; have := S13.out; have := S14.out; have := SepPackage_bd MT3.out; have := SepSnapshot_bd MP5_0.out; have := SepPackage_bd MT8.out; have := SepSnapshot_bd MP12_0.out; have := SepPackage_bd MT16.out; omega)) (by have := S0.out; have := S1.out; have := S2.out; have := S3.out; have := S4.out; have := S5.out; have := SA7.out; have := S6.out; have := SA10.out; have := S7.out; have := S8.out; have := SA14.out; have := S9.out; have := S10.out; have := S11.out; have := S12.out; have := S13.out; have := S14.out; have := SepPackage_bd MT3.out; have := SepSnapshot_bd MP5_0.out; have := SepPackage_bd MT8.out; have := SepSnapshot_bd MP12_0.out; have := SepPackage_bd MT16.out; first | omega | (simp; omega)))
      have S15 := Lib.hid (show w14.heap.size + 0 ≤ w15.heap.size by have := B21.size; first | (simpa using this) | ((try simp at this); omega))
      clear FT11
      clear E21
      clear B21
      have xKX13_0 : w15.cell? ⟨w8.heap.size, 0, none⟩ = some (.int .i64 p0_0) := KX13.at_ rfl
      have xKX13_1 : w15.cell? ⟨w8.heap.size, 1, none⟩ = some (.int .i64 p0_1) := KX13.at_ rfl
      have xKX13_2 : w15.cell? ⟨w8.heap.size, 2, none⟩ = some (.int .i64 p0_2) := KX13.at_ rfl
      have xKX13_3 : w15.cell? ⟨w8.heap.size, 3, none⟩ = some (.slice P12_0_3 ((l0_3).length) pc12_0_3) := KX13.at_ rfl
      have xKX13_4 : w15.cell? ⟨w8.heap.size, 4, none⟩ = some (.slice P12_0_4 ((l0_4).length) pc12_0_4) := KX13.at_ rfl
      have xKX13_5 : w15.cell? ⟨w8.heap.size, 5, none⟩ = some (.slice P12_0_5 ((l0_5).length) pc12_0_5) := KX13.at_ rfl
      have xKX13_6 : w15.cell? ⟨w8.heap.size, 6, none⟩ = some (.slice P12_0_6 ((l0_6).length) pc12_0_6) := KX13.at_ rfl
      have xKX13_7 : w15.cell? ⟨w8.heap.size, 7, none⟩ = some (.int .i64 p0_7) := KX13.at_ rfl
      have xKX13_8 : w15.cell? ⟨w8.heap.size, 8, none⟩ = some (.slice P12_0_8 ((mOwnS l1 p0_0).length) pc12_0_8) := KX13.at_ rfl
      have xKX6_0 : w15.cell? ⟨w5.heap.size, 0, none⟩ = some (.int .i64 p0_0) := KX6.at_ rfl
      have xKX6_1 : w15.cell? ⟨w5.heap.size, 1, none⟩ = some (.int .i64 p0_1) := KX6.at_ rfl
      have xKX6_2 : w15.cell? ⟨w5.heap.size, 2, none⟩ = some (.int .i64 p0_2) := KX6.at_ rfl
      have xKX6_3 : w15.cell? ⟨w5.heap.size, 3, none⟩ = some (.slice P5_0_3 ((l0_3).length) pc5_0_3) := KX6.at_ rfl
      have xKX6_4 : w15.cell? ⟨w5.heap.size, 4, none⟩ = some (.slice P5_0_4 ((l0_4).length) pc5_0_4) := KX6.at_ rfl
      have xKX6_5 : w15.cell? ⟨w5.heap.size, 5, none⟩ = some (.slice P5_0_5 ((l0_5).length) pc5_0_5) := KX6.at_ rfl
      have xKX6_6 : w15.cell? ⟨w5.heap.size, 6, none⟩ = some (.slice P5_0_6 ((l0_6).length) pc5_0_6) := KX6.at_ rfl
      have xKX6_7 : w15.cell? ⟨w5.heap.size, 7, none⟩ = some (.int .i64 p0_7) := KX6.at_ rfl
      have xKX6_8 : w15.cell? ⟨w5.heap.size, 8, none⟩ = some (.slice P5_0_8 ((mOwnS l1 p0_0).length) pc5_0_8) := KX6.at_ rfl
      go_wp2_with fail
      refine Calls.mono (eq_snapshot_same p0_0 p0_1 p0_2 l0_3 ((l0_3).length) P12_0_3 P5_0_3 pc12_0_3 pc5_0_3 _ _ _ _ l0_4 ((l0_4).length) P12_0_4 P5_0_4 pc12_0_4 pc5_0_4 _ _ _ _ l0_5 ((l0_5).length) P12_0_5 P5_0_5 pc12_0_5 pc5_0_5 _ _ _ _ l0_6 ((l0_6).length) P12_0_6 P5_0_6 pc12_0_6 pc5_0_6 _ _ _ _ p0_7 (mOwnS l1 p0_0) ((mOwnS l1 p0_0).length) P12_0_8 P5_0_8 pc12_0_8 pc5_0_8 _ _ _ _ _ (by omega) (by omega) (by omega) (by omega) (by omega) FP12_0_3.rd FP12_0_4.rd FP12_0_5.rd FP12_0_6.rd FP12_0_8.rd FP5_0_3.rd FP5_0_4.rd FP5_0_5.rd FP5_0_6.rd FP5_0_8.rd) ?_
      rintro e w16 ⟨rfl, B22⟩
      replace R0_3 := (R0_3).new B22
      replace R0_4 := (R0_4).new B22
      replace R0_5 := (R0_5).new B22
      replace R0_6 := (R0_6).new B22
      replace R1 := (R1).new B22
      replace KB0 := (KB0).new B22
      replace FP5_0_3 := (FP5_0_3).new B22
      replace FP5_0_4 := (FP5_0_4).new B22
      replace FP5_0_5 := (FP5_0_5).new B22
      replace FP5_0_6 := (FP5_0_6).new B22
      replace FP5_0_8 := (FP5_0_8).new B22
      replace KX6 := (KX6).new B22
      replace KX9 := (KX9).new B22
      replace FP12_0_3 := (FP12_0_3).new B22
      replace FP12_0_4 := (FP12_0_4).new B22
      replace FP12_0_5 := (FP12_0_5).new B22
      replace FP12_0_6 := (FP12_0_6).new B22
      replace FP12_0_8 := (FP12_0_8).new B22
      replace KX13 := (KX13).new B22
      replace FM20_3 := (FM20_3).new B22
      replace FM20_4 := (FM20_4).new B22
      replace FM20_5 := (FM20_5).new B22
      replace FM20_6 := (FM20_6).new B22
      replace FM21 := (FM21).new B22
      replace G := below_trans G B22 (Nat.le_refl _)
      have S16 := Lib.hid (show w15.heap.size + 0 ≤ w16.heap.size by have := B22.size; first | (simpa using this) | ((try simp at this); omega))
      clear B22
      clear xKX13_0 xKX13_1 xKX13_2 xKX13_3 xKX13_4 xKX13_5 xKX13_6 xKX13_7 xKX13_8 xKX6_0 xKX6_1 xKX6_2 xKX6_3 xKX6_4 xKX6_5 xKX6_6 xKX6_7 xKX6_8
      have xKX13_0 : w16.cell? ⟨w8.heap.size, 0, none⟩ = some (.int .i64 p0_0) := KX13.at_ rfl
      have xKX13_1 : w16.cell? ⟨w8.heap.size, 1, none⟩ = some (.int .i64 p0_1) := KX13.at_ rfl
      have xKX13_2 : w16.cell? ⟨w8.heap.size, 2, none⟩ = some (.int .i64 p0_2) := KX13.at_ rfl
      have xKX13_3 : w16.cell? ⟨w8.heap.size, 3, none⟩ = some (.slice P12_0_3 ((l0_3).length) pc12_0_3) := KX13.at_ rfl
      have xKX13_4 : w16.cell? ⟨w8.heap.size, 4, none⟩ = some (.slice P12_0_4 ((l0_4).length) pc12_0_4) := KX13.at_ rfl
      have xKX13_5 : w16.cell? ⟨w8.heap.size, 5, none⟩ = some (.slice P12_0_5 ((l0_5).length) pc12_0_5) := KX13.at_ rfl
      have xKX13_6 : w16.cell? ⟨w8.heap.size, 6, none⟩ = some (.slice P12_0_6 ((l0_6).length) pc12_0_6) := KX13.at_ rfl
      have xKX13_7 : w16.cell? ⟨w8.heap.size, 7, none⟩ = some (.int .i64 p0_7) := KX13.at_ rfl
      have xKX13_8 : w16.cell? ⟨w8.heap.size, 8, none⟩ = some (.slice P12_0_8 ((mOwnS l1 p0_0).length) pc12_0_8) := KX13.at_ rfl
      go_wp2_with fail
      refine Calls.mono (mark_snapshot p0_0 p0_1 p0_2 _ P12_0_3 ((l0_3).length) pc12_0_3 _ _ _ P12_0_4 ((l0_4).length) pc12_0_4 _ _ _ P12_0_5 ((l0_5).length) pc12_0_5 _ _ _ P12_0_6 ((l0_6).length) pc12_0_6 _ _ p0_7 _ P12_0_8 ((mOwnS l1 p0_0).length) pc12_0_8 _ _ (1) w7.heap.size w8.heap.size _ (by omega) (by omega) (by omega) (by omega) (by omega) (by omega) (by have := S0.out; have := S1.out; have := S2.out; have := S3.out; have := S4.out; have := S5.out; have := SA7.out; have := S6.out; have := SA10.out; have := S7.out; have := S8.out; have := SA14.out; have := S9.out; have := S10.out; have := S11.out; have := S12.out; have := S13.out; have := S14.out; have := S15.out; have := S16.out; have := SepPackage_bd MT3.out; have := SepSnapshot_bd MP5_0.out; have := SepPackage_bd MT8.out; have := SepSnapshot_bd MP12_0.out; have := SepPackage_bd MT16.out; omega) MP12_0 FP12_0_3 FP12_0_4 FP12_0_5 FP12_0_6 FP12_0_8) ?_
      rintro e w17 ⟨rfl, FM23_3, FM23_4, FM23_5, FM23_6, FM23_8, B23⟩
      replace R0_3 := (R0_3).chg B23 (by have := S0.out; have := S1.out; have := S2.out; have := S3.out; have := S4.out; have := S5.out; have := SA7.out; have := S6.out; have := SA10.out; have := S7.out; have := S8.out; have := SA14.out; have := S9.out; have := S10.out; have := S11.out; have := S12.out; have := S13.out; have := S14.out; have := S15.out; have := S16.out; have := SepPackage_bd MT3.out; have := SepSnapshot_bd MP5_0.out; have := SepPackage_bd MT8.out; have := SepSnapshot_bd MP12_0.out; have := SepPackage_bd MT16.out; omega)
      replace R0_4 := (R0_4).chg B23 (by have := S0.out; have := S1.out; have := S2.out; have := S3.out; have := S4.out; have := S5.out; have := SA7.out; have := S6.out; have := SA10.out; have := S7.out; have := S8.out; have := SA14.out; have := S9.out; have := S10.out; have := S11.out; have := S12.out; have := S13.out; have := S14.out; have := S15.out; have := S16.out; have := SepPackage_bd MT3.out; have := SepSnapshot_bd MP5_0.out; have := SepPackage_bd MT8.out; have := SepSnapshot_bd MP12_0.out; have := SepPackage_bd MT16.out; omega)
      replace R0_5 := (R0_5).chg B23 (by have := S0.out; have := S1.out; have := S2.out; have := S3.out; have := S4.out; have := S5.out; have := SA7.out; have := S6.out; have := SA10.out; have := S7.out; have := S8.out; have := SA14.out; have := S9.out; have := S10.out; have := S11.out; have := S12.out; have := S13.out; have := S14.out; have := S15.out; have := S16.out; have := SepPackage_bd MT3.out; have := SepSnapshot_bd MP5_0.out; have := SepPackage_bd MT8.out; have := SepSnapshot_bd MP12_0.out; have := SepPackage_bd MT16.out; omega)
      replace R0_6 := (R0_6).chg B23 (by have := S0.out; have := S1.out; have := S2.out; have := S3.out; have := S4.out; have := S5.out; have := SA7.out; have := S6.out; have := SA10.out; have := S7.out; have := S8.out; have := SA14.out; have := S9.out; have := S10.out; have := S11.out; have := S12.out; have := S13.out; have := S14.out; have := S15.out; have := S16.out; have := SepPackage_bd MT3.out; have := SepSnapshot_bd MP5_0.out; have := SepPackage_bd MT8.out; have := SepSnapshot_bd MP12_0.out; have := SepPackage_bd MT16.out; omega)
      replace R1 := (R1).chg B23 (by have := S0.out; have := S1.out; have := S2.out; have := S3.out; have := S4.out; have := S5.out; have := SA7.out; have := S6.out; have := SA10.out; have := S7.out; have := S8.out; have := SA14.out; have := S9.out; have := S10.out; have := S11.out; have := S12.out; have := S13.out; have := S14.out; have := S15.out; have := S16.out; have := SepPackage_bd MT3.out; have := SepSnapshot_bd MP5_0.out; have := SepPackage_bd MT8.out; have := SepSnapshot_bd MP12_0.out; have := SepPackage_bd MT16.out; omega)
      replace KB0 := (KB0).chg B23 (by have := S0.out; have := S1.out; have := S2.out; have := S3.out; have := S4.out; have := S5.out; have := SA7.out; have := S6.out; have := SA10.out; have := S7.out; have := S8.out; have := SA14.out; have := S9.out; have := S10.out; have := S11.out; have := S12.out; have := S13.out; have := S14.out; have := S15.out; have := S16.out; have := SepPackage_bd MT3.out; have := SepSnapshot_bd MP5_0.out; have := SepPackage_bd MT8.out; have := SepSnapshot_bd MP12_0.out; have := SepPackage_bd MT16.out; omega)
      replace FP5_0_3 := (FP5_0_3).chg B23 (by have := S0.out; have := S1.out; have := S2.out; have := S3.out; have := S4.out; have := S5.out; have := SA7.out; have := S6.out; have := SA10.out; have := S7.out; have := S8.out; have := SA14.out; have := S9.out; have := S10.out; have := S11.out; have := S12.out; have := S13.out; have := S14.out; have := S15.out; have := S16.out; have := SepPackage_bd MT3.out; have := SepSnapshot_bd MP5_0.out; have := SepPackage_bd MT8.out; have := SepSnapshot_bd MP12_0.out; have := SepPackage_bd MT16.out; omega)
      replace FP5_0_4 := (FP5_0_4).chg B23 (by have := S0.out; have := S1.out; have := S2.out; have := S3.out; have := S4.out; have := S5.out; have := SA7.out; have := S6.out; have := SA10.out; have := S7.out; have := S8.out; have := SA14.out; have := S9.out; have := S10.out; have := S11.out; have := S12.out; have := S13.out; have := S14.out; have := S15.out; have := S16.out; have := SepPackage_bd MT3.out; have := SepSnapshot_bd MP5_0.out; have := SepPackage_bd MT8.out; have := SepSnapshot_bd MP12_0.out; have := SepPackage_bd MT16.out; omega)
      replace FP5_0_5 := (FP5_0_5).chg B23 (by have := S0.out; have := S1.out; have := S2.out; have := S3.out; have := S4.out; have := S5.out; have := SA7.out; have := S6.out; have := SA10.out; have := S7.out; have := S8.out; have := SA14.out; have := S9.out; have := S10.out; have := S11.out; have := S12.out; have := S13.out; have := S14.out; have := S15.out; have := S16.out; have := SepPackage_bd MT3.out; have := SepSnapshot_bd MP5_0.out; have := SepPackage_bd MT8.out; have := SepSnapshot_bd MP12_0.out; have := SepPackage_bd MT16.out; omega)
      replace FP5_0_6 := (FP5_0_6).chg B23 (by have := S0.out; have := S1.out; have := S2.out; have := S3.out; have := S4.out; have := S5.out; have := SA7.out; have := S6.out; have := SA10.out; have := S7.out; have := S8.out; have := SA14.out; have := S9.out; have := S10.out; have := S11.out; have := S12.out; have := S13.out; have := S14.out; have := S15.out; have := S16.out; have := SepPackage_bd MT3.out; have := SepSnapshot_bd MP5_0.out; have := SepPackage_bd MT8.out; have := SepSnapshot_bd MP12_0.out; have := SepPackage_bd MT16.out; omega)
      replace FP5_0_8 := (FP5_0_8).chg B23 (by have := S0.out; have := S1.out; have := S2.out; have := S3.out; have := S4.out; have := S5.out; have := SA7.out; have := S6.out; have := SA10.out; have := S7.out; have := S8.out; have := SA14.out; have := S9.out; have := S10.out; have := S11.out; have := S12.out; have := S13.out; have := S14.out; have := S15.out; have := S16.out; have := SepPackage_bd MT3.out; have := SepSnapshot_bd MP5_0.out; have := SepPackage_bd MT8.out; have := SepSnapshot_bd MP12_0.out; have := SepPackage_bd MT16.out; omega)
      replace KX6 := (KX6).chg B23 (by have := S0.out; have := S1.out; have := S2.out; have := S3.out; have := S4.out; have := S5.out; have := SA7.out; have := S6.out; have := SA10.out; have := S7.out; have := S8.out; have := SA14.out; have := S9.out; have := S10.out; have := S11.out; have := S12.out; have := S13.out; have := S14.out; have := S15.out; have := S16.out; have := SepPackage_bd MT3.out; have := SepSnapshot_bd MP5_0.out; have := SepPackage_bd MT8.out; have := SepSnapshot_bd MP12_0.out; have := SepPackage_bd MT16.out; omega)
      replace KX9 := (KX9).chg B23 (by have := S0.out; have := S1.out; have := S2.out; have := S3.out; have := S4.out; have := S5.out; have := SA7.out; have := S6.out; have := SA10.out; have := S7.out; have := S8.out; have := SA14.out; have := S9.out; have := S10.out; have := S11.out; have := S12.out; have := S13.out; have := S14.out; have := S15.out; have := S16.out; have := SepPackage_bd MT3.out; have := SepSnapshot_bd MP5_0.out; have := SepPackage_bd MT8.out; have := SepSnapshot_bd MP12_0.out; have := SepPackage_bd MT16.out; omega)
      replace KX13 := (KX13).chg B23 (by have := S0.out; have := S1.out; have := S2.out; have := S3.out; have := S4.out; have := S5.out; have := SA7.out; have := S6.out; have := SA10.out; have := S7.out; have := S8.out; have := SA14.out; have := S9.out; have := S10.out; have := S11.out; have := S12.out; have := S13.out; have := S14.out; have := S15.out; have := S16.out; have := SepPackage_bd MT3.out; have := SepSnapshot_bd MP5_0.out; have := SepPackage_bd MT8.out; have := SepSnapshot_bd MP12_0.out; have := SepPackage_bd MT16.out; omega)
      replace FM20_3 := (FM20_3).chg B23 (by have := S0.out; have := S1.out; have := S2.out; have := S3.out; have := S4.out; have := S5.out; have := SA7.out; have := S6.out; have := SA10.out; have := S7.out; have := S8.out; have := SA14.out; have := S9.out; have := S10.out; have := S11.out; have := S12.out; have := S13.out; have := S14.out; have := S15.out; have := S16.out; have := SepPackage_bd MT3.out; have := SepSnapshot_bd MP5_0.out; have := SepPackage_bd MT8.out; have := SepSnapshot_bd MP12_0.out; have := SepPackage_bd MT16.out; omega)
      replace FM20_4 := (FM20_4).chg B23 (by have := S0.out; have := S1.out; have := S2.out; have := S3.out; have := S4.out; have := S5.out; have := SA7.out; have := S6.out; have := SA10.out; have := S7.out; have := S8.out; have := SA14.out; have := S9.out; have := S10.out; have := S11.out; have := S12.out; have := S13.out; have := S14.out; have := S15.out; have := S16.out; have := SepPackage_bd MT3.out; have := SepSnapshot_bd MP5_0.out; have := SepPackage_bd MT8.out; have := SepSnapshot_bd MP12_0.out; have := SepPackage_bd MT16.out; omega)
      replace FM20_5 := (FM20_5).chg B23 (by have := S0.out; have := S1.out; have := S2.out; have := S3.out; have := S4.out; have := S5.out; have := SA7.out; have := S6.out; have := SA10.out; have := S7.out; have := S8.out; have := SA14.out; have := S9.out; have := S10.out; have := S11.out; have := S12.out; have := S13.out; have := S14.out; have := S15.out; have := S16.out; have := SepPackage_bd MT3.out; have := SepSnapshot_bd MP5_0.out; have := SepPackage_bd MT8.out; have := SepSnapshot_bd MP12_0.out; have := SepPackage_bd MT16.out; omega)
      replace FM20_6 := (FM20_6).chg B23 (by have := S0.out; have := S1.out; have := S2.out; have := S3.out; have := S4.out; have := S5.out; have := SA7.out; have := S6.out; have := SA10.out; have := S7.out; have := S8.out; have := SA14.out; have := S9.out; have := S10.out; have := S11.out; have := S12.out; have := S13.out; have := S14.out; have := S15.out; have := S16.out; have := SepPackage_bd MT3.out; have := SepSnapshot_bd MP5_0.out; have := SepPackage_bd MT8.out; have := SepSnapshot_bd MP12_0.out; have := SepPackage_bd MT16.out; omega)
      replace FM21 := (FM21).chg B23 (by have := S0.out; have := S1.out; have := S2.out; have := S3.out; have := S4.out; have := S5.out; have := SA7.out; have := S6.out; have := SA10.out; have := S7.out; have := S8.out; have := SA14.out; have := S9.out; have := S10.out; have := S11.out; have := S12.out; have := S13.out; have := S14.out; have := S15.out; have := S16.out; have := SepPackage_bd MT3.out; have := SepSnapshot_bd MP5_0.out; have := SepPackage_bd MT8.out; have := SepSnapshot_bd MP12_0.out; have := SepPackage_bd MT16.out; omega)
      replace G := G.trans (B23.below (.inl (by have := S0.out; have := S1.out; have := S2.out; have := S3.out; have := S4.out; have := S5.out; have := SA7.out; have := S6.out; have := SA10.out; have := S7.out; have := S8.out; have := SA14.out; have := S9.out; have := S10.out; have := S11.out; have := S12.out; have := S13.out; have := S14.out; have := S15.out; have := S16.out; have := SepPackage_bd MT3.out; have := SepSnapshot_bd MP5_0.out; have := SepPackage_bd MT8.out; have := SepSnapshot_bd MP12_0.out; have := SepPackage_bd MT16.out; omega)) (by have := S0.out; have := S1.out; have := S2.out; have := S3.out; have := S4.out; have := S5.out; have := SA7.out; have := S6.out; have := SA10.out; have := S7.out; have := S8.out; have := SA14.out; have := S9.out; have := S10.out; have := S11.out; have := S12.out; have := S13.out; have := S14.out; have := S15.out; have := S16.out; have := SepPackage_bd MT3.out; have := SepSnapshot_bd MP5_0.out; have := SepPackage_bd MT8.out; have := SepSnapshot_bd MP12_0.out; have := SepPackage_bd MT16.out; first | omega | (simp; omega)))
      have S17 := Lib.hid (show w16.heap.size + 0 ≤ w17.heap.size by have := B23.size; first | (simpa using this) | ((try simp at this); omega))
      clear FP12_0_3
      clear FP12_0_4
      clear FP12_0_5
      clear FP12_0_6
      clear FP12_0_8
      clear B23
      clear xKX13_0 xKX13_1 xKX13_2 xKX13_3 xKX13_4 xKX13_5 xKX13_6 xKX13_7 xKX13_8
      have xKX13_0 : w17.cell? ⟨w8.heap.size, 0, none⟩ = some (.int .i64 p0_0) := KX13.at_ rfl
      have xKX13_1 : w17.cell? ⟨w8.heap.size, 1, none⟩ = some (.int .i64 p0_1) := KX13.at_ rfl
      have xKX13_2 : w17.cell? ⟨w8.heap.size, 2, none⟩ = some (.int .i64 p0_2) := KX13.at_ rfl
      have xKX13_3 : w17.cell? ⟨w8.heap.size, 3, none⟩ = some (.slice P12_0_3 ((l0_3).length) pc12_0_3) := KX13.at_ rfl
      have xKX13_4 : w17.cell? ⟨w8.heap.size, 4, none⟩ = some (.slice P12_0_4 ((l0_4).length) pc12_0_4) := KX13.at_ rfl
      have xKX13_5 : w17.cell? ⟨w8.heap.size, 5, none⟩ = some (.slice P12_0_5 ((l0_5).length) pc12_0_5) := KX13.at_ rfl
      have xKX13_6 : w17.cell? ⟨w8.heap.size, 6, none⟩ = some (.slice P12_0_6 ((l0_6).length) pc12_0_6) := KX13.at_ rfl
      have xKX13_7 : w17.cell? ⟨w8.heap.size, 7, none⟩ = some (.int .i64 p0_7) := KX13.at_ rfl
      have xKX13_8 : w17.cell? ⟨w8.heap.size, 8, none⟩ = some (.slice P12_0_8 ((mOwnS l1 p0_0).length) pc12_0_8) := KX13.at_ rfl
      go_wp2_with fail
      refine Calls.mono (held_snapshot p0_0 p0_1 p0_2 P12_0_3 ((l0_3).length) pc12_0_3 _ _ P12_0_4 ((l0_4).length) pc12_0_4 _ _ P12_0_5 ((l0_5).length) pc12_0_5 _ _ P12_0_6 ((l0_6).length) pc12_0_6 _ _ p0_7 P12_0_8 ((mOwnS l1 p0_0).length) pc12_0_8 _ _ (1) _ (by omega) (by omega) (by omega) (by omega) (by omega) (by omega) FM23_3.rd FM23_4.rd FM23_5.rd FM23_6.rd FM23_8.rd) ?_
      rintro e w18 ⟨rfl, B24⟩
      replace R0_3 := (R0_3).new B24
      replace R0_4 := (R0_4).new B24
      replace R0_5 := (R0_5).new B24
      replace R0_6 := (R0_6).new B24
      replace R1 := (R1).new B24
      replace KB0 := (KB0).new B24
      replace FP5_0_3 := (FP5_0_3).new B24
      replace FP5_0_4 := (FP5_0_4).new B24
      replace FP5_0_5 := (FP5_0_5).new B24
      replace FP5_0_6 := (FP5_0_6).new B24
      replace FP5_0_8 := (FP5_0_8).new B24
      replace KX6 := (KX6).new B24
      replace KX9 := (KX9).new B24
      replace KX13 := (KX13).new B24
      replace FM20_3 := (FM20_3).new B24
      replace FM20_4 := (FM20_4).new B24
      replace FM20_5 := (FM20_5).new B24
      replace FM20_6 := (FM20_6).new B24
      replace FM21 := (FM21).new B24
      replace FM23_3 := (FM23_3).new B24
      replace FM23_4 := (FM23_4).new B24
      replace FM23_5 := (FM23_5).new B24
      replace FM23_6 := (FM23_6).new B24
      replace FM23_8 := (FM23_8).new B24
      replace G := below_trans G B24 (Nat.le_refl _)
      have S18 := Lib.hid (show w17.heap.size + 0 ≤ w18.heap.size by have := B24.size; first | (simpa using this) | ((try simp at this); omega))
      clear B24
      clear xKX13_0 xKX13_1 xKX13_2 xKX13_3 xKX13_4 xKX13_5 xKX13_6 xKX13_7 xKX13_8
      have xKB0_0 : w18.cell? ⟨w.heap.size, 0, none⟩ = some (.int .i64 p0_0) := KB0.at_ rfl
      have xKB0_1 : w18.cell? ⟨w.heap.size, 1, none⟩ = some (.int .i64 p0_1) := KB0.at_ rfl
      have xKB0_2 : w18.cell? ⟨w.heap.size, 2, none⟩ = some (.int .i64 p0_2) := KB0.at_ rfl
      have xKB0_3 : w18.cell? ⟨w.heap.size, 3, none⟩ = some (.slice A0_3 n0_3 c0_3) := KB0.at_ rfl
      have xKB0_4 : w18.cell? ⟨w.heap.size, 4, none⟩ = some (.slice A0_4 n0_4 c0_4) := KB0.at_ rfl
      have xKB0_5 : w18.cell? ⟨w.heap.size, 5, none⟩ = some (.slice A0_5 n0_5 c0_5) := KB0.at_ rfl
      have xKB0_6 : w18.cell? ⟨w.heap.size, 6, none⟩ = some (.slice A0_6 n0_6 c0_6) := KB0.at_ rfl
      have xKB0_7 : w18.cell? ⟨w.heap.size, 7, none⟩ = some (.int .i64 p0_7) := KB0.at_ rfl
      go_wp2_with fail
      refine Calls.mono (to_package p0_0 p0_1 p0_2 l0_3 A0_3 n0_3 c0_3 _ _ l0_4 A0_4 n0_4 c0_4 _ _ l0_5 A0_5 n0_5 c0_5 _ _ l0_6 A0_6 n0_6 c0_6 _ _ p0_7 _ hqn0_3 R0_3 hqn0_4 R0_4 hqn0_5 R0_5 hqn0_6 R0_6) ?_
      rintro e w19 ⟨T25_3, T25_4, T25_5, T25_6, tc25_3, tlo25_3, thi25_3, tc25_4, tlo25_4, thi25_4, tc25_5, tlo25_5, thi25_5, tc25_6, tlo25_6, thi25_6, rfl, FT25_3, FT25_4, FT25_5, FT25_6, MT25, B25⟩
      replace R0_3 := (R0_3).new B25
      replace R0_4 := (R0_4).new B25
      replace R0_5 := (R0_5).new B25
      replace R0_6 := (R0_6).new B25
      replace R1 := (R1).new B25
      replace KB0 := (KB0).new B25
      replace FP5_0_3 := (FP5_0_3).new B25
      replace FP5_0_4 := (FP5_0_4).new B25
      replace FP5_0_5 := (FP5_0_5).new B25
      replace FP5_0_6 := (FP5_0_6).new B25
      replace FP5_0_8 := (FP5_0_8).new B25
      replace KX6 := (KX6).new B25
      replace KX9 := (KX9).new B25
      replace KX13 := (KX13).new B25
      replace FM20_3 := (FM20_3).new B25
      replace FM20_4 := (FM20_4).new B25
      replace FM20_5 := (FM20_5).new B25
      replace FM20_6 := (FM20_6).new B25
      replace FM21 := (FM21).new B25
      replace FM23_3 := (FM23_3).new B25
      replace FM23_4 := (FM23_4).new B25
      replace FM23_5 := (FM23_5).new B25
      replace FM23_6 := (FM23_6).new B25
      replace FM23_8 := (FM23_8).new B25
      replace G := below_trans G B25 (Nat.le_refl _)
      have S19 := Lib.hid (show w18.heap.size + 0 ≤ w19.heap.size by have := B25.size; first | (simpa using this) | ((try simp at this); omega))
      clear B25
      clear xKB0_0 xKB0_1 xKB0_2 xKB0_3 xKB0_4 xKB0_5 xKB0_6 xKB0_7
      go_wp2_with fail
      refine Calls.mono (to_stored l1 A1 n1 c1 _ _ _ (Nat.le_trans hqn1 (by decide)) R1) ?_
      rintro e w20 ⟨T26, tc26, rfl, FT26, B26⟩
      replace R0_3 := (R0_3).new B26
      replace R0_4 := (R0_4).new B26
      replace R0_5 := (R0_5).new B26
      replace R0_6 := (R0_6).new B26
      replace R1 := (R1).new B26
      replace KB0 := (KB0).new B26
      replace FP5_0_3 := (FP5_0_3).new B26
      replace FP5_0_4 := (FP5_0_4).new B26
      replace FP5_0_5 := (FP5_0_5).new B26
      replace FP5_0_6 := (FP5_0_6).new B26
      replace FP5_0_8 := (FP5_0_8).new B26
      replace KX6 := (KX6).new B26
      replace KX9 := (KX9).new B26
      replace KX13 := (KX13).new B26
      replace FM20_3 := (FM20_3).new B26
      replace FM20_4 := (FM20_4).new B26
      replace FM20_5 := (FM20_5).new B26
      replace FM20_6 := (FM20_6).new B26
      replace FM21 := (FM21).new B26
      replace FM23_3 := (FM23_3).new B26
      replace FM23_4 := (FM23_4).new B26
      replace FM23_5 := (FM23_5).new B26
      replace FM23_6 := (FM23_6).new B26
      replace FM23_8 := (FM23_8).new B26
      replace FT25_3 := (FT25_3).new B26
      replace FT25_4 := (FT25_4).new B26
      replace FT25_5 := (FT25_5).new B26
      replace FT25_6 := (FT25_6).new B26
      replace G := below_trans G B26 (Nat.le_refl _)
      have S20 := Lib.hid (show w19.heap.size + 0 ≤ w20.heap.size by have := B26.size; first | (simpa using this) | ((try simp at this); omega))
      clear B26
      go_wp2_with fail
      refine Calls.mono (impl_TakeSnapshot p0_0 p0_1 p0_2 l0_3 T25_3 n0_3 tc25_3 _ _ l0_4 T25_4 n0_4 tc25_4 _ _ l0_5 T25_5 n0_5 tc25_5 _ _ l0_6 T25_6 n0_6 tc25_6 _ _ p0_7 l1 T26 n1 tc26 _ _ _ (by omega) FT25_3.rd H0_3 (by omega) FT25_4.rd H0_4 (by omega) FT25_5.rd H0_5 (by omega) FT25_6.rd H0_6 (by omega) FT26.rd H1) ?_
      rintro e w21 ⟨P27_0_3, P27_0_4, P27_0_5, P27_0_6, P27_0_8, pc27_0_3, plo27_0_3, phi27_0_3, pc27_0_4, plo27_0_4, phi27_0_4, pc27_0_5, plo27_0_5, phi27_0_5, pc27_0_6, plo27_0_6, phi27_0_6, pc27_0_8, plo27_0_8, phi27_0_8, rfl, FP27_0_3, FP27_0_4, FP27_0_5, FP27_0_6, FP27_0_8, MP27_0, B27⟩
      replace R0_3 := (R0_3).new B27
      replace R0_4 := (R0_4).new B27
      replace R0_5 := (R0_5).new B27
      replace R0_6 := (R0_6).new B27
      replace R1 := (R1).new B27
      replace KB0 := (KB0).new B27
      replace FP5_0_3 := (FP5_0_3).new B27
      replace FP5_0_4 := (FP5_0_4).new B27
      replace FP5_0_5 := (FP5_0_5).new B27
      replace FP5_0_6 := (FP5_0_6).new B27
      replace FP5_0_8 := (FP5_0_8).new B27
      replace KX6 := (KX6).new B27
      replace KX9 := (KX9).new B27
      replace KX13 := (KX13).new B27
      replace FM20_3 := (FM20_3).new B27
      replace FM20_4 := (FM20_4).new B27
      replace FM20_5 := (FM20_5).new B27
      replace FM20_6 := (FM20_6).new B27
      replace FM21 := (FM21).new B27
      replace FM23_3 := (FM23_3).new B27
      replace FM23_4 := (FM23_4).new B27
      replace FM23_5 := (FM23_5).new B27
      replace FM23_6 := (FM23_6).new B27
      replace FM23_8 := (FM23_8).new B27
      replace FT25_3 := (FT25_3).new B27
      replace FT25_4 := (FT25_4).new B27
      replace FT25_5 := (FT25_5).new B27
      replace FT25_6 := (FT25_6).new B27
      replace FT26 := (FT26).new B27
      replace G := below_trans G B27 (Nat.le_refl _)
      have S21 := Lib.hid (show w20.heap.size + 0 ≤ w21.heap.size by have := B27.size; first | (simpa using this) | ((try simp at this); omega))
      clear B27
      have SA29 := Lib.hid (show (w21.alloc (.cells #[.int .i64 p0_0, .int .i64 p0_1, .int .i64 p0_2, .slice P27_0_3 ((l0_3).length) pc27_0_3, .slice P27_0_4 ((l0_4).length) pc27_0_4, .slice P27_0_5 ((l0_5).length) pc27_0_5, .slice P27_0_6 ((l0_6).length) pc27_0_6, .int .i64 p0_7, .slice P27_0_8 ((mOwnS l1 p0_0).length) pc27_0_8] 60)).heap.size = w21.heap.size + 1 by simp)
      replace R0_3 := R0_3.alloc (.cells #[.int .i64 p0_0, .int .i64 p0_1, .int .i64 p0_2, .slice P27_0_3 ((l0_3).length) pc27_0_3, .slice P27_0_4 ((l0_4).length) pc27_0_4, .slice P27_0_5 ((l0_5).length) pc27_0_5, .slice P27_0_6 ((l0_6).length) pc27_0_6, .int .i64 p0_7, .slice P27_0_8 ((mOwnS l1 p0_0).length) pc27_0_8] 60)
      replace R0_4 := R0_4.alloc (.cells #[.int .i64 p0_0, .int .i64 p0_1, .int .i64 p0_2, .slice P27_0_3 ((l0_3).length) pc27_0_3, .slice P27_0_4 ((l0_4).length) pc27_0_4, .slice P27_0_5 ((l0_5).length) pc27_0_5, .slice P27_0_6 ((l0_6).length) pc27_0_6, .int .i64 p0_7, .slice P27_0_8 ((mOwnS l1 p0_0).length) pc27_0_8] 60)
      replace R0_5 := R0_5.alloc (.cells #[.int .i64 p0_0, .int .i64 p0_1, .int .i64 p0_2, .slice P27_0_3 ((l0_3).length) pc27_0_3, .slice P27_0_4 ((l0_4).length) pc27_0_4, .slice P27_0_5 ((l0_5).length) pc27_0_5, .slice P27_0_6 ((l0_6).length) pc27_0_6, .int .i64 p0_7, .slice P27_0_8 ((mOwnS l1 p0_0).length) pc27_0_8] 60)
      replace R0_6 := R0_6.alloc (.cells #[.int .i64 p0_0, .int .i64 p0_1, .int .i64 p0_2, .slice P27_0_3 ((l0_3).length) pc27_0_3, .slice P27_0_4 ((l0_4).length) pc27_0_4, .slice P27_0_5 ((l0_5).length) pc27_0_5, .slice P27_0_6 ((l0_6).length) pc27_0_6, .int .i64 p0_7, .slice P27_0_8 ((mOwnS l1 p0_0).length) pc27_0_8] 60)
      replace R1 := R1.alloc (.cells #[.int .i64 p0_0, .int .i64 p0_1, .int .i64 p0_2, .slice P27_0_3 ((l0_3).length) pc27_0_3, .slice P27_0_4 ((l0_4).length) pc27_0_4, .slice P27_0_5 ((l0_5).length) pc27_0_5, .slice P27_0_6 ((l0_6).length) pc27_0_6, .int .i64 p0_7, .slice P27_0_8 ((mOwnS l1 p0_0).length) pc27_0_8] 60)
      replace KB0 := KB0.alloc_ (.cells #[.int .i64 p0_0, .int .i64 p0_1, .int .i64 p0_2, .slice P27_0_3 ((l0_3).length) pc27_0_3, .slice P27_0_4 ((l0_4).length) pc27_0_4, .slice P27_0_5 ((l0_5).length) pc27_0_5, .slice P27_0_6 ((l0_6).length) pc27_0_6, .int .i64 p0_7, .slice P27_0_8 ((mOwnS l1 p0_0).length) pc27_0_8] 60)
      replace FP5_0_3 := FP5_0_3.alloc (.cells #[.int .i64 p0_0, .int .i64 p0_1, .int .i64 p0_2, .slice P27_0_3 ((l0_3).length) pc27_0_3, .slice P27_0_4 ((l0_4).length) pc27_0_4, .slice P27_0_5 ((l0_5).length) pc27_0_5, .slice P27_0_6 ((l0_6).length) pc27_0_6, .int .i64 p0_7, .slice P27_0_8 ((mOwnS l1 p0_0).length) pc27_0_8] 60)
      replace FP5_0_4 := FP5_0_4.alloc (.cells #[.int .i64 p0_0, .int .i64 p0_1, .int .i64 p0_2, .slice P27_0_3 ((l0_3).length) pc27_0_3, .slice P27_0_4 ((l0_4).length) pc27_0_4, .slice P27_0_5 ((l0_5).length) pc27_0_5, .slice P27_0_6 ((l0_6).length) pc27_0_6, .int .i64 p0_7, .slice P27_0_8 ((mOwnS l1 p0_0).length) pc27_0_8] 60)
      replace FP5_0_5 := FP5_0_5.alloc (.cells #[.int .i64 p0_0, .int .i64 p0_1, .int .i64 p0_2, .slice P27_0_3 ((l0_3).length) pc27_0_3, .slice P27_0_4 ((l0_4).length) pc27_0_4, .slice P27_0_5 ((l0_5).length) pc27_0_5, .slice P27_0_6 ((l0_6).length) pc27_0_6, .int .i64 p0_7, .slice P27_0_8 ((mOwnS l1 p0_0).length) pc27_0_8] 60)
      replace FP5_0_6 := FP5_0_6.alloc (.cells #[.int .i64 p0_0, .int .i64 p0_1, .int .i64 p0_2, .slice P27_0_3 ((l0_3).length) pc27_0_3, .slice P27_0_4 ((l0_4).length) pc27_0_4, .slice P27_0_5 ((l0_5).length) pc27_0_5, .slice P27_0_6 ((l0_6).length) pc27_0_6, .int .i64 p0_7, .slice P27_0_8 ((mOwnS l1 p0_0).length) pc27_0_8] 60)
      replace FP5_0_8 := FP5_0_8.alloc (.cells #[.int .i64 p0_0, .int .i64 p0_1, .int .i64 p0_2, .slice P27_0_3 ((l0_3).length) pc27_0_3, .slice P27_0_4 ((l0_4).length) pc27_0_4, .slice P27_0_5 ((l0_5).length) pc27_0_5, .slice P27_0_6 ((l0_6).length) pc27_0_6, .int .i64 p0_7, .slice P27_0_8 ((mOwnS l1 p0_0).length) pc27_0_8] 60)
      replace KX6 := KX6.alloc_ (.cells #[.int .i64 p0_0, .int .i64 p0_1, .int .i64 p0_2, .slice P27_0_3 ((l0_3).length) pc27_0_3, .slice P27_0_4 ((l0_4).length) pc27_0_4, .slice P27_0_5 ((l0_5).length) pc27_0_5, .slice P27_0_6 ((l0_6).length) pc27_0_6, .int .i64 p0_7, .slice P27_0_8 ((mOwnS l1 p0_0).length) pc27_0_8] 60)
      replace KX9 := KX9.alloc_ (.cells #[.int .i64 p0_0, .int .i64 p0_1, .int .i64 p0_2, .slice P27_0_3 ((l0_3).length) pc27_0_3, .slice P27_0_4 ((l0_4).length) pc27_0_4, .slice P27_0_5 ((l0_5).length) pc27_0_5, .slice P27_0_6 ((l0_6).length) pc27_0_6, .int .i64 p0_7, .slice P27_0_8 ((mOwnS l1 p0_0).length) pc27_0_8] 60)
      replace KX13 := KX13.alloc_ (.cells #[.int .i64 p0_0, .int .i64 p0_1, .int .i64 p0_2, .slice P27_0_3 ((l0_3).length) pc27_0_3, .slice P27_0_4 ((l0_4).length) pc27_0_4, .slice P27_0_5 ((l0_5).length) pc27_0_5, .slice P27_0_6 ((l0_6).length) pc27_0_6, .int .i64 p0_7, .slice P27_0_8 ((mOwnS l1 p0_0).length) pc27_0_8] 60)
      replace FM20_3 := FM20_3.alloc (.cells #[.int .i64 p0_0, .int .i64 p0_1, .int .i64 p0_2, .slice P27_0_3 ((l0_3).length) pc27_0_3, .slice P27_0_4 ((l0_4).length) pc27_0_4, .slice P27_0_5 ((l0_5).length) pc27_0_5, .slice P27_0_6 ((l0_6).length) pc27_0_6, .int .i64 p0_7, .slice P27_0_8 ((mOwnS l1 p0_0).length) pc27_0_8] 60)
      replace FM20_4 := FM20_4.alloc (.cells #[.int .i64 p0_0, .int .i64 p0_1, .int .i64 p0_2, .slice P27_0_3 ((l0_3).length) pc27_0_3, .slice P27_0_4 ((l0_4).length) pc27_0_4, .slice P27_0_5 ((l0_5).length) pc27_0_5, .slice P27_0_6 ((l0_6).length) pc27_0_6, .int .i64 p0_7, .slice P27_0_8 ((mOwnS l1 p0_0).length) pc27_0_8] 60)
      replace FM20_5 := FM20_5.alloc (.cells #[.int .i64 p0_0, .int .i64 p0_1, .int .i64 p0_2, .slice P27_0_3 ((l0_3).length) pc27_0_3, .slice P27_0_4 ((l0_4).length) pc27_0_4, .slice P27_0_5 ((l0_5).length) pc27_0_5, .slice P27_0_6 ((l0_6).length) pc27_0_6, .int .i64 p0_7, .slice P27_0_8 ((mOwnS l1 p0_0).length) pc27_0_8] 60)
      replace FM20_6 := FM20_6.alloc (.cells #[.int .i64 p0_0, .int .i64 p0_1, .int .i64 p0_2, .slice P27_0_3 ((l0_3).length) pc27_0_3, .slice P27_0_4 ((l0_4).length) pc27_0_4, .slice P27_0_5 ((l0_5).length) pc27_0_5, .slice P27_0_6 ((l0_6).length) pc27_0_6, .int .i64 p0_7, .slice P27_0_8 ((mOwnS l1 p0_0).length) pc27_0_8] 60)
      replace FM21 := FM21.alloc (.cells #[.int .i64 p0_0, .int .i64 p0_1, .int .i64 p0_2, .slice P27_0_3 ((l0_3).length) pc27_0_3, .slice P27_0_4 ((l0_4).length) pc27_0_4, .slice P27_0_5 ((l0_5).length) pc27_0_5, .slice P27_0_6 ((l0_6).length) pc27_0_6, .int .i64 p0_7, .slice P27_0_8 ((mOwnS l1 p0_0).length) pc27_0_8] 60)
      replace FM23_3 := FM23_3.alloc (.cells #[.int .i64 p0_0, .int .i64 p0_1, .int .i64 p0_2, .slice P27_0_3 ((l0_3).length) pc27_0_3, .slice P27_0_4 ((l0_4).length) pc27_0_4, .slice P27_0_5 ((l0_5).length) pc27_0_5, .slice P27_0_6 ((l0_6).length) pc27_0_6, .int .i64 p0_7, .slice P27_0_8 ((mOwnS l1 p0_0).length) pc27_0_8] 60)
      replace FM23_4 := FM23_4.alloc (.cells #[.int .i64 p0_0, .int .i64 p0_1, .int .i64 p0_2, .slice P27_0_3 ((l0_3).length) pc27_0_3, .slice P27_0_4 ((l0_4).length) pc27_0_4, .slice P27_0_5 ((l0_5).length) pc27_0_5, .slice P27_0_6 ((l0_6).length) pc27_0_6, .int .i64 p0_7, .slice P27_0_8 ((mOwnS l1 p0_0).length) pc27_0_8] 60)
      replace FM23_5 := FM23_5.alloc (.cells #[.int .i64 p0_0, .int .i64 p0_1, .int .i64 p0_2, .slice P27_0_3 ((l0_3).length) pc27_0_3, .slice P27_0_4 ((l0_4).length) pc27_0_4, .slice P27_0_5 ((l0_5).length) pc27_0_5, .slice P27_0_6 ((l0_6).length) pc27_0_6, .int .i64 p0_7, .slice P27_0_8 ((mOwnS l1 p0_0).length) pc27_0_8] 60)
      replace FM23_6 := FM23_6.alloc (.cells #[.int .i64 p0_0, .int .i64 p0_1, .int .i64 p0_2, .slice P27_0_3 ((l0_3).length) pc27_0_3, .slice P27_0_4 ((l0_4).length) pc27_0_4, .slice P27_0_5 ((l0_5).length) pc27_0_5, .slice P27_0_6 ((l0_6).length) pc27_0_6, .int .i64 p0_7, .slice P27_0_8 ((mOwnS l1 p0_0).length) pc27_0_8] 60)
      replace FM23_8 := FM23_8.alloc (.cells #[.int .i64 p0_0, .int .i64 p0_1, .int .i64 p0_2, .slice P27_0_3 ((l0_3).length) pc27_0_3, .slice P27_0_4 ((l0_4).length) pc27_0_4, .slice P27_0_5 ((l0_5).length) pc27_0_5, .slice P27_0_6 ((l0_6).length) pc27_0_6, .int .i64 p0_7, .slice P27_0_8 ((mOwnS l1 p0_0).length) pc27_0_8] 60)
      replace FT25_3 := FT25_3.alloc (.cells #[.int .i64 p0_0, .int .i64 p0_1, .int .i64 p0_2, .slice P27_0_3 ((l0_3).length) pc27_0_3, .slice P27_0_4 ((l0_4).length) pc27_0_4, .slice P27_0_5 ((l0_5).length) pc27_0_5, .slice P27_0_6 ((l0_6).length) pc27_0_6, .int .i64 p0_7, .slice P27_0_8 ((mOwnS l1 p0_0).length) pc27_0_8] 60)
      replace FT25_4 := FT25_4.alloc (.cells #[.int .i64 p0_0, .int .i64 p0_1, .int .i64 p0_2, .slice P27_0_3 ((l0_3).length) pc27_0_3, .slice P27_0_4 ((l0_4).length) pc27_0_4, .slice P27_0_5 ((l0_5).length) pc27_0_5, .slice P27_0_6 ((l0_6).length) pc27_0_6, .int .i64 p0_7, .slice P27_0_8 ((mOwnS l1 p0_0).length) pc27_0_8] 60)
      replace FT25_5 := FT25_5.alloc (.cells #[.int .i64 p0_0, .int .i64 p0_1, .int .i64 p0_2, .slice P27_0_3 ((l0_3).length) pc27_0_3, .slice P27_0_4 ((l0_4).length) pc27_0_4, .slice P27_0_5 ((l0_5).length) pc27_0_5, .slice P27_0_6 ((l0_6).length) pc27_0_6, .int .i64 p0_7, .slice P27_0_8 ((mOwnS l1 p0_0).length) pc27_0_8] 60)
      replace FT25_6 := FT25_6.alloc (.cells #[.int .i64 p0_0, .int .i64 p0_1, .int .i64 p0_2, .slice P27_0_3 ((l0_3).length) pc27_0_3, .slice P27_0_4 ((l0_4).length) pc27_0_4, .slice P27_0_5 ((l0_5).length) pc27_0_5, .slice P27_0_6 ((l0_6).length) pc27_0_6, .int .i64 p0_7, .slice P27_0_8 ((mOwnS l1 p0_0).length) pc27_0_8] 60)
      replace FT26 := FT26.alloc (.cells #[.int .i64 p0_0, .int .i64 p0_1, .int .i64 p0_2, .slice P27_0_3 ((l0_3).length) pc27_0_3, .slice P27_0_4 ((l0_4).length) pc27_0_4, .slice P27_0_5 ((l0_5).length) pc27_0_5, .slice P27_0_6 ((l0_6).length) pc27_0_6, .int .i64 p0_7, .slice P27_0_8 ((mOwnS l1 p0_0).length) pc27_0_8] 60)
      replace FP27_0_3 := FP27_0_3.alloc (.cells #[.int .i64 p0_0, .int .i64 p0_1, .int .i64 p0_2, .slice P27_0_3 ((l0_3).length) pc27_0_3, .slice P27_0_4 ((l0_4).length) pc27_0_4, .slice P27_0_5 ((l0_5).length) pc27_0_5, .slice P27_0_6 ((l0_6).length) pc27_0_6, .int .i64 p0_7, .slice P27_0_8 ((mOwnS l1 p0_0).length) pc27_0_8] 60)
      replace FP27_0_4 := FP27_0_4.alloc (.cells #[.int .i64 p0_0, .int .i64 p0_1, .int .i64 p0_2, .slice P27_0_3 ((l0_3).length) pc27_0_3, .slice P27_0_4 ((l0_4).length) pc27_0_4, .slice P27_0_5 ((l0_5).length) pc27_0_5, .slice P27_0_6 ((l0_6).length) pc27_0_6, .int .i64 p0_7, .slice P27_0_8 ((mOwnS l1 p0_0).length) pc27_0_8] 60)
      replace FP27_0_5 := FP27_0_5.alloc (.cells #[.int .i64 p0_0, .int .i64 p0_1, .int .i64 p0_2, .slice P27_0_3 ((l0_3).length) pc27_0_3, .slice P27_0_4 ((l0_4).length) pc27_0_4, .slice P27_0_5 ((l0_5).length) pc27_0_5, .slice P27_0_6 ((l0_6).length) pc27_0_6, .int .i64 p0_7, .slice P27_0_8 ((mOwnS l1 p0_0).length) pc27_0_8] 60)
      replace FP27_0_6 := FP27_0_6.alloc (.cells #[.int .i64 p0_0, .int .i64 p0_1, .int .i64 p0_2, .slice P27_0_3 ((l0_3).length) pc27_0_3, .slice P27_0_4 ((l0_4).length) pc27_0_4, .slice P27_0_5 ((l0_5).length) pc27_0_5, .slice P27_0_6 ((l0_6).length) pc27_0_6, .int .i64 p0_7, .slice P27_0_8 ((mOwnS l1 p0_0).length) pc27_0_8] 60)
      replace FP27_0_8 := FP27_0_8.alloc (.cells #[.int .i64 p0_0, .int .i64 p0_1, .int .i64 p0_2, .slice P27_0_3 ((l0_3).length) pc27_0_3, .slice P27_0_4 ((l0_4).length) pc27_0_4, .slice P27_0_5 ((l0_5).length) pc27_0_5, .slice P27_0_6 ((l0_6).length) pc27_0_6, .int .i64 p0_7, .slice P27_0_8 ((mOwnS l1 p0_0).length) pc27_0_8] 60)
      have KX28 : BoxAt (w21.alloc (.cells #[.int .i64 p0_0, .int .i64 p0_1, .int .i64 p0_2, .slice P27_0_3 ((l0_3).length) pc27_0_3, .slice P27_0_4 ((l0_4).length) pc27_0_4, .slice P27_0_5 ((l0_5).length) pc27_0_5, .slice P27_0_6 ((l0_6).length) pc27_0_6, .int .i64 p0_7, .slice P27_0_8 ((mOwnS l1 p0_0).length) pc27_0_8] 60)) (w21.heap.size) 60 #[.int .i64 p0_0, .int .i64 p0_1, .int .i64 p0_2, .slice P27_0_3 ((l0_3).length) pc27_0_3, .slice P27_0_4 ((l0_4).length) pc27_0_4, .slice P27_0_5 ((l0_5).length) pc27_0_5, .slice P27_0_6 ((l0_6).length) pc27_0_6, .int .i64 p0_7, .slice P27_0_8 ((mOwnS l1 p0_0).length) pc27_0_8] := box_new _ _ _
      replace G := G.alloc (by have := S0.out; have := S1.out; have := S2.out; have := S3.out; have := S4.out; have := S5.out; have := SA7.out; have := S6.out; have := SA10.out; have := S7.out; have := S8.out; have := SA14.out; have := S9.out; have := S10.out; have := S11.out; have := S12.out; have := S13.out; have := S14.out; have := S15.out; have := S16.out; have := S17.out; have := S18.out; have := S19.out; have := S20.out; have := S21.out; have := SA29.out; have := SepPackage_bd MT3.out; have := SepSnapshot_bd MP5_0.out; have := SepPackage_bd MT8.out; have := SepSnapshot_bd MP12_0.out; have := SepPackage_bd MT16.out; have := SepPackage_bd MT25.out; have := SepSnapshot_bd MP27_0.out; first | omega | (simp; omega)) (.cells #[.int .i64 p0_0, .int .i64 p0_1, .int .i64 p0_2, .slice P27_0_3 ((l0_3).length) pc27_0_3, .slice P27_0_4 ((l0_4).length) pc27_0_4, .slice P27_0_5 ((l0_5).length) pc27_0_5, .slice P27_0_6 ((l0_6).length) pc27_0_6, .int .i64 p0_7, .slice P27_0_8 ((mOwnS l1 p0_0).length) pc27_0_8] 60)
      have xKX28_0 : (w21.alloc (.cells #[.int .i64 p0_0, .int .i64 p0_1, .int .i64 p0_2, .slice P27_0_3 ((l0_3).length) pc27_0_3, .slice P27_0_4 ((l0_4).length) pc27_0_4, .slice P27_0_5 ((l0_5).length) pc27_0_5, .slice P27_0_6 ((l0_6).length) pc27_0_6, .int .i64 p0_7, .slice P27_0_8 ((mOwnS l1 p0_0).length) pc27_0_8] 60)).cell? ⟨w21.heap.size, 0, none⟩ = some (.int .i64 p0_0) := KX28.at_ rfl
      have xKX28_1 : (w21.alloc (.cells #[.int .i64 p0_0, .int .i64 p0_1, .int .i64 p0_2, .slice P27_0_3 ((l0_3).length) pc27_0_3, .slice P27_0_4 ((l0_4).length) pc27_0_4, .slice P27_0_5 ((l0_5).length) pc27_0_5, .slice P27_0_6 ((l0_6).length) pc27_0_6, .int .i64 p0_7, .slice P27_0_8 ((mOwnS l1 p0_0).length) pc27_0_8] 60)).cell? ⟨w21.heap.size, 1, none⟩ = some (.int .i64 p0_1) := KX28.at_ rfl
      have xKX28_2 : (w21.alloc (.cells #[.int .i64 p0_0, .int .i64 p0_1, .int .i64 p0_2, .slice P27_0_3 ((l0_3).length) pc27_0_3, .slice P27_0_4 ((l0_4).length) pc27_0_4, .slice P27_0_5 ((l0_5).length) pc27_0_5, .slice P27_0_6 ((l0_6).length) pc27_0_6, .int .i64 p0_7, .slice P27_0_8 ((mOwnS l1 p0_0).length) pc27_0_8] 60)).cell? ⟨w21.heap.size, 2, none⟩ = some (.int .i64 p0_2) := KX28.at_ rfl
      have xKX28_3 : (w21.alloc (.cells #[.int .i64 p0_0, .int .i64 p0_1, .int .i64 p0_2, .slice P27_0_3 ((l0_3).length) pc27_0_3, .slice P27_0_4 ((l0_4).length) pc27_0_4, .slice P27_0_5 ((l0_5).length) pc27_0_5, .slice P27_0_6 ((l0_6).length) pc27_0_6, .int .i64 p0_7, .slice P27_0_8 ((mOwnS l1 p0_0).length) pc27_0_8] 60)).cell? ⟨w21.heap.size, 3, none⟩ = some (.slice P27_0_3 ((l0_3).length) pc27_0_3) := KX28.at_ rfl
      have xKX28_4 : (w21.alloc (.cells #[.int .i64 p0_0, .int .i64 p0_1, .int .i64 p0_2, .slice P27_0_3 ((l0_3).length) pc27_0_3, .slice P27_0_4 ((l0_4).length) pc27_0_4, .slice P27_0_5 ((l0_5).length) pc27_0_5, .slice P27_0_6 ((l0_6).length) pc27_0_6, .int .i64 p0_7, .slice P27_0_8 ((mOwnS l1 p0_0).length) pc27_0_8] 60)).cell? ⟨w21.heap.size, 4, none⟩ = some (.slice P27_0_4 ((l0_4).length) pc27_0_4) := KX28.at_ rfl
      have xKX28_5 : (w21.alloc (.cells #[.int .i64 p0_0, .int .i64 p0_1, .int .i64 p0_2, .slice P27_0_3 ((l0_3).length) pc27_0_3, .slice P27_0_4 ((l0_4).length) pc27_0_4, .slice P27_0_5 ((l0_5).length) pc27_0_5, .slice P27_0_6 ((l0_6).length) pc27_0_6, .int .i64 p0_7, .slice P27_0_8 ((mOwnS l1 p0_0).length) pc27_0_8] 60)).cell? ⟨w21.heap.size, 5, none⟩ = some (.slice P27_0_5 ((l0_5).length) pc27_0_5) := KX28.at_ rfl
      have xKX28_6 : (w21.alloc (.cells #[.int .i64 p0_0, .int .i64 p0_1, .int .i64 p0_2, .slice P27_0_3 ((l0_3).length) pc27_0_3, .slice P27_0_4 ((l0_4).length) pc27_0_4, .slice P27_0_5 ((l0_5).length) pc27_0_5, .slice P27_0_6 ((l0_6).length) pc27_0_6, .int .i64 p0_7, .slice P27_0_8 ((mOwnS l1 p0_0).length) pc27_0_8] 60)).cell? ⟨w21.heap.size, 6, none⟩ = some (.slice P27_0_6 ((l0_6).length) pc27_0_6) := KX28.at_ rfl
      have xKX28_7 : (w21.alloc (.cells #[.int .i64 p0_0, .int .i64 p0_1, .int .i64 p0_2, .slice P27_0_3 ((l0_3).length) pc27_0_3, .slice P27_0_4 ((l0_4).length) pc27_0_4, .slice P27_0_5 ((l0_5).length) pc27_0_5, .slice P27_0_6 ((l0_6).length) pc27_0_6, .int .i64 p0_7, .slice P27_0_8 ((mOwnS l1 p0_0).length) pc27_0_8] 60)).cell? ⟨w21.heap.size, 7, none⟩ = some (.int .i64 p0_7) := KX28.at_ rfl
      have xKX28_8 : (w21.alloc (.cells #[.int .i64 p0_0, .int .i64 p0_1, .int .i64 p0_2, .slice P27_0_3 ((l0_3).length) pc27_0_3, .slice P27_0_4 ((l0_4).length) pc27_0_4, .slice P27_0_5 ((l0_5).length) pc27_0_5, .slice P27_0_6 ((l0_6).length) pc27_0_6, .int .i64 p0_7, .slice P27_0_8 ((mOwnS l1 p0_0).length) pc27_0_8] 60)).cell? ⟨w21.heap.size, 8, none⟩ = some (.slice P27_0_8 ((mOwnS l1 p0_0).length) pc27_0_8) := KX28.at_ rfl
      have xKX6_0 : (w21.alloc (.cells #[.int .i64 p0_0, .int .i64 p0_1, .int .i64 p0_2, .slice P27_0_3 ((l0_3).length) pc27_0_3, .slice P27_0_4 ((l0_4).length) pc27_0_4, .slice P27_0_5 ((l0_5).length) pc27_0_5, .slice P27_0_6 ((l0_6).length) pc27_0_6, .int .i64 p0_7, .slice P27_0_8 ((mOwnS l1 p0_0).length) pc27_0_8] 60)).cell? ⟨w5.heap.size, 0, none⟩ = some (.int .i64 p0_0) := KX6.at_ rfl
      have xKX6_1 : (w21.alloc (.cells #[.int .i64 p0_0, .int .i64 p0_1, .int .i64 p0_2, .slice P27_0_3 ((l0_3).length) pc27_0_3, .slice P27_0_4 ((l0_4).length) pc27_0_4, .slice P27_0_5 ((l0_5).length) pc27_0_5, .slice P27_0_6 ((l0_6).length) pc27_0_6, .int .i64 p0_7, .slice P27_0_8 ((mOwnS l1 p0_0).length) pc27_0_8] 60)).cell? ⟨w5.heap.size, 1, none⟩ = some (.int .i64 p0_1) := KX6.at_ rfl
      have xKX6_2 : (w21.alloc (.cells #[.int .i64 p0_0, .int .i64 p0_1, .int .i64 p0_2, .slice P27_0_3 ((l0_3).length) pc27_0_3, .slice P27_0_4 ((l0_4).length) pc27_0_4, .slice P27_0_5 ((l0_5).length) pc27_0_5, .slice P27_0_6 ((l0_6).length) pc27_0_6, .int .i64 p0_7, .slice P27_0_8 ((mOwnS l1 p0_0).length) pc27_0_8] 60)).cell? ⟨w5.heap.size, 2, none⟩ = some (.int .i64 p0_2) := KX6.at_ rfl
      have xKX6_3 : (w21.alloc (.cells #[.int .i64 p0_0, .int .i64 p0_1, .int .i64 p0_2, .slice P27_0_3 ((l0_3).length) pc27_0_3, .slice P27_0_4 ((l0_4).length) pc27_0_4, .slice P27_0_5 ((l0_5).length) pc27_0_5, .slice P27_0_6 ((l0_6).length) pc27_0_6, .int .i64 p0_7, .slice P27_0_8 ((mOwnS l1 p0_0).length) pc27_0_8] 60)).cell? ⟨w5.heap.size, 3, none⟩ = some (.slice P5_0_3 ((l0_3).length) pc5_0_3) := KX6.at_ rfl
      have xKX6_4 : (w21.alloc (.cells #[.int .i64 p0_0, .int .i64 p0_1, .int .i64 p0_2, .slice P27_0_3 ((l0_3).length) pc27_0_3, .slice P27_0_4 ((l0_4).length) pc27_0_4, .slice P27_0_5 ((l0_5).length) pc27_0_5, .slice P27_0_6 ((l0_6).length) pc27_0_6, .int .i64 p0_7, .slice P27_0_8 ((mOwnS l1 p0_0).length) pc27_0_8] 60)).cell? ⟨w5.heap.size, 4, none⟩ = some (.slice P5_0_4 ((l0_4).length) pc5_0_4) := KX6.at_ rfl
      have xKX6_5 : (w21.alloc (.cells #[.int .i64 p0_0, .int .i64 p0_1, .int .i64 p0_2, .slice P27_0_3 ((l0_3).length) pc27_0_3, .slice P27_0_4 ((l0_4).length) pc27_0_4, .slice P27_0_5 ((l0_5).length) pc27_0_5, .slice P27_0_6 ((l0_6).length) pc27_0_6, .int .i64 p0_7, .slice P27_0_8 ((mOwnS l1 p0_0).length) pc27_0_8] 60)).cell? ⟨w5.heap.size, 5, none⟩ = some (.slice P5_0_5 ((l0_5).length) pc5_0_5) := KX6.at_ rfl
      have xKX6_6 : (w21.alloc (.cells #[.int .i64 p0_0, .int .i64 p0_1, .int .i64 p0_2, .slice P27_0_3 ((l0_3).length) pc27_0_3, .slice P27_0_4 ((l0_4).length) pc27_0_4, .slice P27_0_5 ((l0_5).length) pc27_0_5, .slice P27_0_6 ((l0_6).length) pc27_0_6, .int .i64 p0_7, .slice P27_0_8 ((mOwnS l1 p0_0).length) pc27_0_8] 60)).cell? ⟨w5.heap.size, 6, none⟩ = some (.slice P5_0_6 ((l0_6).length) pc5_0_6) := KX6.at_ rfl
      have xKX6_7 : (w21.alloc (.cells #[.int .i64 p0_0, .int .i64 p0_1, .int .i64 p0_2, .slice P27_0_3 ((l0_3).length) pc27_0_3, .slice P27_0_4 ((l0_4).length) pc27_0_4, .slice P27_0_5 ((l0_5).length) pc27_0_5, .slice P27_0_6 ((l0_6).length) pc27_0_6, .int .i64 p0_7, .slice P27_0_8 ((mOwnS l1 p0_0).length) pc27_0_8] 60)).cell? ⟨w5.heap.size, 7, none⟩ = some (.int .i64 p0_7) := KX6.at_ rfl
      have xKX6_8 : (w21.alloc (.cells #[.int .i64 p0_0, .int .i64 p0_1, .int .i64 p0_2, .slice P27_0_3 ((l0_3).length) pc27_0_3, .slice P27_0_4 ((l0_4).length) pc27_0_4, .slice P27_0_5 ((l0_5).length) pc27_0_5, .slice P27_0_6 ((l0_6).length) pc27_0_6, .int .i64 p0_7, .slice P27_0_8 ((mOwnS l1 p0_0).length) pc27_0_8] 60)).cell? ⟨w5.heap.size, 8, none⟩ = some (.slice P5_0_8 ((mOwnS l1 p0_0).length) pc5_0_8) := KX6.at_ rfl
      go_wp2_with fail
      refine Calls.mono (eq_snapshot_same p0_0 p0_1 p0_2 l0_3 ((l0_3).length) P27_0_3 P5_0_3 pc27_0_3 pc5_0_3 _ _ _ _ l0_4 ((l0_4).length) P27_0_4 P5_0_4 pc27_0_4 pc5_0_4 _ _ _ _ l0_5 ((l0_5).length) P27_0_5 P5_0_5 pc27_0_5 pc5_0_5 _ _ _ _ l0_6 ((l0_6).length) P27_0_6 P5_0_6 pc27_0_6 pc5_0_6 _ _ _ _ p0_7 (mOwnS l1 p0_0) ((mOwnS l1 p0_0).length) P27_0_8 P5_0_8 pc27_0_8 pc5_0_8 _ _ _ _ _ (by omega) (by omega) (by omega) (by omega) (by omega) FP27_0_3.rd FP27_0_4.rd FP27_0_5.rd FP27_0_6.rd FP27_0_8.rd FP5_0_3.rd FP5_0_4.rd FP5_0_5.rd FP5_0_6.rd FP5_0_8.rd) ?_
      rintro e w22 ⟨rfl, B30⟩
      replace R0_3 := (R0_3).new B30
      replace R0_4 := (R0_4).new B30
      replace R0_5 := (R0_5).new B30
      replace R0_6 := (R0_6).new B30
      replace R1 := (R1).new B30
      replace KB0 := (KB0).new B30
      replace FP5_0_3 := (FP5_0_3).new B30
      replace FP5_0_4 := (FP5_0_4).new B30
      replace FP5_0_5 := (FP5_0_5).new B30
      replace FP5_0_6 := (FP5_0_6).new B30
      replace FP5_0_8 := (FP5_0_8).new B30
      replace KX6 := (KX6).new B30
      replace KX9 := (KX9).new B30
      replace KX13 := (KX13).new B30
      replace FM20_3 := (FM20_3).new B30
      replace FM20_4 := (FM20_4).new B30
      replace FM20_5 := (FM20_5).new B30
      replace FM20_6 := (FM20_6).new B30
      replace FM21 := (FM21).new B30
      replace FM23_3 := (FM23_3).new B30
      replace FM23_4 := (FM23_4).new B30
      replace FM23_5 := (FM23_5).new B30
      replace FM23_6 := (FM23_6).new B30
      replace FM23_8 := (FM23_8).new B30
      replace FT25_3 := (FT25_3).new B30
      replace FT25_4 := (FT25_4).new B30
      replace FT25_5 := (FT25_5).new B30
      replace FT25_6 := (FT25_6).new B30
      replace FT26 := (FT26).new B30
      replace FP27_0_3 := (FP27_0_3).new B30
      replace FP27_0_4 := (FP27_0_4).new B30
      replace FP27_0_5 := (FP27_0_5).new B30
      replace FP27_0_6 := (FP27_0_6).new B30
      replace FP27_0_8 := (FP27_0_8).new B30
      replace KX28 := (KX28).new B30
      replace G := below_trans G B30 (Nat.le_refl _)
      have S22 := Lib.hid (show (w21.alloc (.cells #[.int .i64 p0_0, .int .i64 p0_1, .int .i64 p0_2, .slice P27_0_3 ((l0_3).length) pc27_0_3, .slice P27_0_4 ((l0_4).length) pc27_0_4, .slice P27_0_5 ((l0_5).length) pc27_0_5, .slice P27_0_6 ((l0_6).length) pc27_0_6, .int .i64 p0_7, .slice P27_0_8 ((mOwnS l1 p0_0).length) pc27_0_8] 60)).heap.size + 0 ≤ w22.heap.size by have := B30.size; first | (simpa using this) | ((try simp at this); omega))
      clear B30
      clear xKX28_0 xKX28_1 xKX28_2 xKX28_3 xKX28_4 xKX28_5 xKX28_6 xKX28_7 xKX28_8 xKX6_0 xKX6_1 xKX6_2 xKX6_3 xKX6_4 xKX6_5 xKX6_6 xKX6_7 xKX6_8
      have xKX13_0 : w22.cell? ⟨w8.heap.size, 0, none⟩ = some (.int .i64 p0_0) := KX13.at_ rfl
      have xKX13_1 : w22.cell? ⟨w8.heap.size, 1, none⟩ = some (.int .i64 p0_1) := KX13.at_ rfl
      have xKX13_2 : w22.cell? ⟨w8.heap.size, 2, none⟩ = some (.int .i64 p0_2) := KX13.at_ rfl
      have xKX13_3 : w22.cell? ⟨w8.heap.size, 3, none⟩ = some (.slice P12_0_3 ((l0_3).length) pc12_0_3) := KX13.at_ rfl
      have xKX13_4 : w22.cell? ⟨w8.heap.size, 4, none⟩ = some (.slice P12_0_4 ((l0_4).length) pc12_0_4) := KX13.at_ rfl
      have xKX13_5 : w22.cell? ⟨w8.heap.size, 5, none⟩ = some (.slice P12_0_5 ((l0_5).length) pc12_0_5) := KX13.at_ rfl
      have xKX13_6 : w22.cell? ⟨w8.heap.size, 6, none⟩ = some (.slice P12_0_6 ((l0_6).length) pc12_0_6) := KX13.at_ rfl
      have xKX13_7 : w22.cell? ⟨w8.heap.size, 7, none⟩ = some (.int .i64 p0_7) := KX13.at_ rfl
      have xKX13_8 : w22.cell? ⟨w8.heap.size, 8, none⟩ = some (.slice P12_0_8 ((mOwnS l1 p0_0).length) pc12_0_8) := KX13.at_ rfl
      go_wp2_with fail
      refine Calls.mono (held_snapshot p0_0 p0_1 p0_2 P12_0_3 ((l0_3).length) pc12_0_3 _ _ P12_0_4 ((l0_4).length) pc12_0_4 _ _ P12_0_5 ((l0_5).length) pc12_0_5 _ _ P12_0_6 ((l0_6).length) pc12_0_6 _ _ p0_7 P12_0_8 ((mOwnS l1 p0_0).length) pc12_0_8 _ _ (1) _ (by omega) (by omega) (by omega) (by omega) (by omega) (by omega) FM23_3.rd FM23_4.rd FM23_5.rd FM23_6.rd FM23_8.rd) ?_
      rintro e w23 ⟨rfl, B31⟩
      replace R0_3 := (R0_3).new B31
      replace R0_4 := (R0_4).new B31
      replace R0_5 := (R0_5).new B31
      replace R0_6 := (R0_6).new B31
      replace R1 := (R1).new B31
      replace KB0 := (KB0).new B31
      replace FP5_0_3 := (FP5_0_3).new B31
      replace FP5_0_4 := (FP5_0_4).new B31
      replace FP5_0_5 := (FP5_0_5).new B31
      replace FP5_0_6 := (FP5_0_6).new B31
      replace FP5_0_8 := (FP5_0_8).new B31
      replace KX6 := (KX6).new B31
      replace KX9 := (KX9).new B31
      replace KX13 := (KX13).new B31
      replace FM20_3 := (FM20_3).new B31
      replace FM20_4 := (FM20_4).new B31
      replace FM20_5 := (FM20_5).new B31
      replace FM20_6 := (FM20_6).new B31
      replace FM21 := (FM21).new B31
      replace FM23_3 := (FM23_3).new B31
      replace FM23_4 := (FM23_4).new B31
      replace FM23_5 := (FM23_5).new B31
      replace FM23_6 := (FM23_6).new B31
      replace FM23_8 := (FM23_8).new B31
      replace FT25_3 := (FT25_3).new B31
      replace FT25_4 := (FT25_4).new B31
      replace FT25_5 := (FT25_5).new B31
      replace FT25_6 := (FT25_6).new B31
      replace FT26 := (FT26).new B31
      replace FP27_0_3 := (FP27_0_3).new B31
      replace FP27_0_4 := (FP27_0_4).new B31
      replace FP27_0_5 := (FP27_0_5).new B31
      replace FP27_0_6 := (FP27_0_6).new B31
      replace FP27_0_8 := (FP27_0_8).new B31
      replace KX28 := (KX28).new B31
      replace G := below_trans G B31 (Nat.le_refl _)
      have S23 := Lib.hid (show w22.heap.size + 0 ≤ w23.heap.size by have := B31.size; first | (simpa using this) | ((try simp at this); omega))
      clear B31
      clear xKX13_0 xKX13_1 xKX13_2 xKX13_3 xKX13_4 xKX13_5 xKX13_6 xKX13_7 xKX13_8
      go_wp2_with fail
      go_ret
      exact ⟨rfl, G⟩
    · skip
      have G : Below w.heap.size w (w.alloc (.cells #[.int .i64 p0_0, .int .i64 p0_1, .int .i64 p0_2, .slice A0_3 n0_3 c0_3, .slice A0_4 n0_4 c0_4, .slice A0_5 n0_5 c0_5, .slice A0_6 n0_6 c0_6, .int .i64 p0_7] 39)) := (Below.refl _ _).alloc (by simp) _
      have S0 := Lib.hid (show (w.alloc (.cells #[.int .i64 p0_0, .int .i64 p0_1, .int .i64 p0_2, .slice A0_3 n0_3 c0_3, .slice A0_4 n0_4 c0_4, .slice A0_5 n0_5 c0_5, .slice A0_6 n0_6 c0_6, .int .i64 p0_7] 39)).heap.size = w.heap.size + 1 by simp)
      replace R0_3 := R0_3.alloc (.cells #[.int .i64 p0_0, .int .i64 p0_1, .int .i64 p0_2, .slice A0_3 n0_3 c0_3, .slice A0_4 n0_4 c0_4, .slice A0_5 n0_5 c0_5, .slice A0_6 n0_6 c0_6, .int .i64 p0_7] 39)
      replace R0_4 := R0_4.alloc (.cells #[.int .i64 p0_0, .int .i64 p0_1, .int .i64 p0_2, .slice A0_3 n0_3 c0_3, .slice A0_4 n0_4 c0_4, .slice A0_5 n0_5 c0_5, .slice A0_6 n0_6 c0_6, .int .i64 p0_7] 39)
      replace R0_5 := R0_5.alloc (.cells #[.int .i64 p0_0, .int .i64 p0_1, .int .i64 p0_2, .slice A0_3 n0_3 c0_3, .slice A0_4 n0_4 c0_4, .slice A0_5 n0_5 c0_5, .slice A0_6 n0_6 c0_6, .int .i64 p0_7] 39)
      replace R0_6 := R0_6.alloc (.cells #[.int .i64 p0_0, .int .i64 p0_1, .int .i64 p0_2, .slice A0_3 n0_3 c0_3, .slice A0_4 n0_4 c0_4, .slice A0_5 n0_5 c0_5, .slice A0_6 n0_6 c0_6, .int .i64 p0_7] 39)
      replace R1 := R1.alloc (.cells #[.int .i64 p0_0, .int .i64 p0_1, .int .i64 p0_2, .slice A0_3 n0_3 c0_3, .slice A0_4 n0_4 c0_4, .slice A0_5 n0_5 c0_5, .slice A0_6 n0_6 c0_6, .int .i64 p0_7] 39)
      have KB0 : BoxAt (w.alloc (.cells #[.int .i64 p0_0, .int .i64 p0_1, .int .i64 p0_2, .slice A0_3 n0_3 c0_3, .slice A0_4 n0_4 c0_4, .slice A0_5 n0_5 c0_5, .slice A0_6 n0_6 c0_6, .int .i64 p0_7] 39)) (w.heap.size) 39 #[.int .i64 p0_0, .int .i64 p0_1, .int .i64 p0_2, .slice A0_3 n0_3 c0_3, .slice A0_4 n0_4 c0_4, .slice A0_5 n0_5 c0_5, .slice A0_6 n0_6 c0_6, .int .i64 p0_7] := box_new _ _ _
      go_enter Try.func7, Try.ntmps7
      have xKB0_0 : (w.alloc (.cells #[.int .i64 p0_0, .int .i64 p0_1, .int .i64 p0_2, .slice A0_3 n0_3 c0_3, .slice A0_4 n0_4 c0_4, .slice A0_5 n0_5 c0_5, .slice A0_6 n0_6 c0_6, .int .i64 p0_7] 39)).cell? ⟨w.heap.size, 0, none⟩ = some (.int .i64 p0_0) := KB0.at_ rfl
      have xKB0_1 : (w.alloc (.cells #[.int .i64 p0_0, .int .i64 p0_1, .int .i64 p0_2, .slice A0_3 n0_3 c0_3, .slice A0_4 n0_4 c0_4, .slice A0_5 n0_5 c0_5, .slice A0_6 n0_6 c0_6, .int .i64 p0_7] 39)).cell? ⟨w.heap.size, 1, none⟩ = some (.int .i64 p0_1) := KB0.at_ rfl
      have xKB0_2 : (w.alloc (.cells #[.int .i64 p0_0, .int .i64 p0_1, .int .i64 p0_2, .slice A0_3 n0_3 c0_3, .slice A0_4 n0_4 c0_4, .slice A0_5 n0_5 c0_5, .slice A0_6 n0_6 c0_6, .int .i64 p0_7] 39)).cell? ⟨w.heap.size, 2, none⟩ = some (.int .i64 p0_2) := KB0.at_ rfl
      have xKB0_3 : (w.alloc (.cells #[.int .i64 p0_0, .int .i64 p0_1, .int .i64 p0_2, .slice A0_3 n0_3 c0_3, .slice A0_4 n0_4 c0_4, .slice A0_5 n0_5 c0_5, .slice A0_6 n0_6 c0_6, .int .i64 p0_7] 39)).cell? ⟨w.heap.size, 3, none⟩ = some (.slice A0_3 n0_3 c0_3) := KB0.at_ rfl
      have xKB0_4 : (w.alloc (.cells #[.int .i64 p0_0, .int .i64 p0_1, .int .i64 p0_2, .slice A0_3 n0_3 c0_3, .slice A0_4 n0_4 c0_4, .slice A0_5 n0_5 c0_5, .slice A0_6 n0_6 c0_6, .int .i64 p0_7] 39)).cell? ⟨w.heap.size, 4, none⟩ = some (.slice A0_4 n0_4 c0_4) := KB0.at_ rfl
      have xKB0_5 : (w.alloc (.cells #[.int .i64 p0_0, .int .i64 p0_1, .int .i64 p0_2, .slice A0_3 n0_3 c0_3, .slice A0_4 n0_4 c0_4, .slice A0_5 n0_5 c0_5, .slice A0_6 n0_6 c0_6, .int .i64 p0_7] 39)).cell? ⟨w.heap.size, 5, none⟩ = some (.slice A0_5 n0_5 c0_5) := KB0.at_ rfl
      have xKB0_6 : (w.alloc (.cells #[.int .i64 p0_0, .int .i64 p0_1, .int .i64 p0_2, .slice A0_3 n0_3 c0_3, .slice A0_4 n0_4 c0_4, .slice A0_5 n0_5 c0_5, .slice A0_6 n0_6 c0_6, .int .i64 p0_7] 39)).cell? ⟨w.heap.size, 6, none⟩ = some (.slice A0_6 n0_6 c0_6) := KB0.at_ rfl
      have xKB0_7 : (w.alloc (.cells #[.int .i64 p0_0, .int .i64 p0_1, .int .i64 p0_2, .slice A0_3 n0_3 c0_3, .slice A0_4 n0_4 c0_4, .slice A0_5 n0_5 c0_5, .slice A0_6 n0_6 c0_6, .int .i64 p0_7] 39)).cell? ⟨w.heap.size, 7, none⟩ = some (.int .i64 p0_7) := KB0.at_ rfl
      go_wp2_with fail
      refine Calls.mono (sz_package p0_0 p0_1 p0_2 A0_3 n0_3 c0_3 A0_4 n0_4 c0_4 A0_5 n0_5 c0_5 A0_6 n0_6 c0_6 p0_7 (1048576) _ hm0_3 hm0_4 hm0_5 hm0_6 (by omega) (by omega)) ?_
      rintro e w1 ⟨rfl, B32⟩
      replace R0_3 := (R0_3).new B32
      replace R0_4 := (R0_4).new B32
      replace R0_5 := (R0_5).new B32
      replace R0_6 := (R0_6).new B32
      replace R1 := (R1).new B32
      replace KB0 := (KB0).new B32
      replace G := below_trans G B32 (Nat.le_refl _)
      have S1 := Lib.hid (show (w.alloc (.cells #[.int .i64 p0_0, .int .i64 p0_1, .int .i64 p0_2, .slice A0_3 n0_3 c0_3, .slice A0_4 n0_4 c0_4, .slice A0_5 n0_5 c0_5, .slice A0_6 n0_6 c0_6, .int .i64 p0_7] 39)).heap.size + 0 ≤ w1.heap.size by have := B32.size; first | (simpa using this) | ((try simp at this); omega))
      clear B32
      clear xKB0_0 xKB0_1 xKB0_2 xKB0_3 xKB0_4 xKB0_5 xKB0_6 xKB0_7
      go_wp2_with fail
      refine (szno_stored A1 n1 c1 (1048576 - (n0_3 : Int) - (n0_4 : Int) - (n0_5 : Int) - (n0_6 : Int)) _ hm1 (by omega) (by omega) (by omega)).mono ?_
      rintro e w2 hq
      obtain ⟨rfl, B33⟩ := hq.says
      go_wp2_with fail
      go_ret
      exact ⟨rfl, below_trans G B33 (Nat.le_refl _)⟩
  · skip
    have G : Below w.heap.size w (w.alloc (.cells #[.int .i64 p0_0, .int .i64 p0_1, .int .i64 p0_2, .slice A0_3 n0_3 c0_3, .slice A0_4 n0_4 c0_4, .slice A0_5 n0_5 c0_5, .slice A0_6 n0_6 c0_6, .int .i64 p0_7] 39)) := (Below.refl _ _).alloc (by simp) _
    have S0 := Lib.hid (show (w.alloc (.cells #[.int .i64 p0_0, .int .i64 p0_1, .int .i64 p0_2, .slice A0_3 n0_3 c0_3, .slice A0_4 n0_4 c0_4, .slice A0_5 n0_5 c0_5, .slice A0_6 n0_6 c0_6, .int .i64 p0_7] 39)).heap.size = w.heap.size + 1 by simp)
    replace R0_3 := R0_3.alloc (.cells #[.int .i64 p0_0, .int .i64 p0_1, .int .i64 p0_2, .slice A0_3 n0_3 c0_3, .slice A0_4 n0_4 c0_4, .slice A0_5 n0_5 c0_5, .slice A0_6 n0_6 c0_6, .int .i64 p0_7] 39)
    replace R0_4 := R0_4.alloc (.cells #[.int .i64 p0_0, .int .i64 p0_1, .int .i64 p0_2, .slice A0_3 n0_3 c0_3, .slice A0_4 n0_4 c0_4, .slice A0_5 n0_5 c0_5, .slice A0_6 n0_6 c0_6, .int .i64 p0_7] 39)
    replace R0_5 := R0_5.alloc (.cells #[.int .i64 p0_0, .int .i64 p0_1, .int .i64 p0_2, .slice A0_3 n0_3 c0_3, .slice A0_4 n0_4 c0_4, .slice A0_5 n0_5 c0_5, .slice A0_6 n0_6 c0_6, .int .i64 p0_7] 39)
    replace R0_6 := R0_6.alloc (.cells #[.int .i64 p0_0, .int .i64 p0_1, .int .i64 p0_2, .slice A0_3 n0_3 c0_3, .slice A0_4 n0_4 c0_4, .slice A0_5 n0_5 c0_5, .slice A0_6 n0_6 c0_6, .int .i64 p0_7] 39)
    replace R1 := R1.alloc (.cells #[.int .i64 p0_0, .int .i64 p0_1, .int .i64 p0_2, .slice A0_3 n0_3 c0_3, .slice A0_4 n0_4 c0_4, .slice A0_5 n0_5 c0_5, .slice A0_6 n0_6 c0_6, .int .i64 p0_7] 39)
    have KB0 : BoxAt (w.alloc (.cells #[.int .i64 p0_0, .int .i64 p0_1, .int .i64 p0_2, .slice A0_3 n0_3 c0_3, .slice A0_4 n0_4 c0_4, .slice A0_5 n0_5 c0_5, .slice A0_6 n0_6 c0_6, .int .i64 p0_7] 39)) (w.heap.size) 39 #[.int .i64 p0_0, .int .i64 p0_1, .int .i64 p0_2, .slice A0_3 n0_3 c0_3, .slice A0_4 n0_4 c0_4, .slice A0_5 n0_5 c0_5, .slice A0_6 n0_6 c0_6, .int .i64 p0_7] := box_new _ _ _
    go_enter Try.func7, Try.ntmps7
    have xKB0_0 : (w.alloc (.cells #[.int .i64 p0_0, .int .i64 p0_1, .int .i64 p0_2, .slice A0_3 n0_3 c0_3, .slice A0_4 n0_4 c0_4, .slice A0_5 n0_5 c0_5, .slice A0_6 n0_6 c0_6, .int .i64 p0_7] 39)).cell? ⟨w.heap.size, 0, none⟩ = some (.int .i64 p0_0) := KB0.at_ rfl
    have xKB0_1 : (w.alloc (.cells #[.int .i64 p0_0, .int .i64 p0_1, .int .i64 p0_2, .slice A0_3 n0_3 c0_3, .slice A0_4 n0_4 c0_4, .slice A0_5 n0_5 c0_5, .slice A0_6 n0_6 c0_6, .int .i64 p0_7] 39)).cell? ⟨w.heap.size, 1, none⟩ = some (.int .i64 p0_1) := KB0.at_ rfl
    have xKB0_2 : (w.alloc (.cells #[.int .i64 p0_0, .int .i64 p0_1, .int .i64 p0_2, .slice A0_3 n0_3 c0_3, .slice A0_4 n0_4 c0_4, .slice A0_5 n0_5 c0_5, .slice A0_6 n0_6 c0_6, .int .i64 p0_7] 39)).cell? ⟨w.heap.size, 2, none⟩ = some (.int .i64 p0_2) := KB0.at_ rfl
    have xKB0_3 : (w.alloc (.cells #[.int .i64 p0_0, .int .i64 p0_1, .int .i64 p0_2, .slice A0_3 n0_3 c0_3, .slice A0_4 n0_4 c0_4, .slice A0_5 n0_5 c0_5, .slice A0_6 n0_6 c0_6, .int .i64 p0_7] 39)).cell? ⟨w.heap.size, 3, none⟩ = some (.slice A0_3 n0_3 c0_3) := KB0.at_ rfl
    have xKB0_4 : (w.alloc (.cells #[.int .i64 p0_0, .int .i64 p0_1, .int .i64 p0_2, .slice A0_3 n0_3 c0_3, .slice A0_4 n0_4 c0_4, .slice A0_5 n0_5 c0_5, .slice A0_6 n0_6 c0_6, .int .i64 p0_7] 39)).cell? ⟨w.heap.size, 4, none⟩ = some (.slice A0_4 n0_4 c0_4) := KB0.at_ rfl
    have xKB0_5 : (w.alloc (.cells #[.int .i64 p0_0, .int .i64 p0_1, .int .i64 p0_2, .slice A0_3 n0_3 c0_3, .slice A0_4 n0_4 c0_4, .slice A0_5 n0_5 c0_5, .slice A0_6 n0_6 c0_6, .int .i64 p0_7] 39)).cell? ⟨w.heap.size, 5, none⟩ = some (.slice A0_5 n0_5 c0_5) := KB0.at_ rfl
    have xKB0_6 : (w.alloc (.cells #[.int .i64 p0_0, .int .i64 p0_1, .int .i64 p0_2, .slice A0_3 n0_3 c0_3, .slice A0_4 n0_4 c0_4, .slice A0_5 n0_5 c0_5, .slice A0_6 n0_6 c0_6, .int .i64 p0_7] 39)).cell? ⟨w.heap.size, 6, none⟩ = some (.slice A0_6 n0_6 c0_6) := KB0.at_ rfl
    have xKB0_7 : (w.alloc (.cells #[.int .i64 p0_0, .int .i64 p0_1, .int .i64 p0_2, .slice A0_3 n0_3 c0_3, .slice A0_4 n0_4 c0_4, .slice A0_5 n0_5 c0_5, .slice A0_6 n0_6 c0_6, .int .i64 p0_7] 39)).cell? ⟨w.heap.size, 7, none⟩ = some (.int .i64 p0_7) := KB0.at_ rfl
    go_wp2_with fail
    refine Calls.mono (szno_package p0_0 p0_1 p0_2 A0_3 n0_3 c0_3 A0_4 n0_4 c0_4 A0_5 n0_5 c0_5 A0_6 n0_6 c0_6 p0_7 (1048576) _ hm0_3 hm0_4 hm0_5 hm0_6 (by omega) (by omega) (by omega)) ?_
    rintro e w1 ⟨rfl, B34⟩
    clear xKB0_0 xKB0_1 xKB0_2 xKB0_3 xKB0_4 xKB0_5 xKB0_6 xKB0_7
    go_wp2_with fail
    go_ret
    exact ⟨rfl, below_trans G B34 (Nat.le_refl _)⟩

set_option maxRecDepth 100000 in
theorem lifted (os : Os) (started : os.Started) (H : Type) (enc : TypeId × Value → H) :
    ReturnsInHanded {} Try.checked os 7 .any (Rows.fnExactTakeSnapshotSpec.pre6 enc Try.prog Try.f7 Rows.fnExactTakeSnapshotRow.domain false) (Rows.fnExactTakeSnapshotSpec.post enc Try.prog Try.f7 false true false false) := by
  refine law_lifted Try.func7 (by kernel_rfl) rfl rfl (by kernel_rfl) os started
    (ChangeSpec.witness6 (enc := enc) (C := Try.checked) false ⟨#[], #[.agg #[.int .i64 0, .int .i64 0, .int .i64 0, .slice none 0 0, .slice none 0 0, .slice none 0 0, .slice none 0 0, .int .i64 0], .slice none 0 0], []⟩ 8 (by kernel_rfl) (by kernel_rfl) (by kernel_rfl) (by kernel_rfl)) ?_
  intro W base args ds p hval hA hlt
  rw [Try.params7] at hA hval
  obtain ⟨v0, vs0, d0, ds0, p0, q0, hargs, rfl, rfl, h0, r0⟩ := trodAll_cons hA
  obtain ⟨v1, vs1, d1, ds1, p1, q1, rfl, rfl, rfl, h1, r1⟩ := trodAll_cons r0
  obtain ⟨rfl, rfl, rfl⟩ := trodAll_nil r1
  obtain rfl : args = #[v0, v1] := by cases args; simp_all
  obtain ⟨p0_0, p0_1, p0_2, A0_3, n0_3, c0_3, l0_3, A0_4, n0_4, c0_4, l0_4, A0_5, n0_5, c0_5, l0_5, A0_6, n0_6, c0_6, l0_6, p0_7, rfl, wf0_0, wf0_1, wf0_2, m0_3, R0_3, H0_3, m0_4, R0_4, H0_4, m0_5, R0_5, H0_5, m0_6, R0_6, H0_6, wf0_7⟩ := open_package (hval 0 39 v0 rfl rfl) h0 (fun x hx => hlt x (by simp [hx]))
  obtain ⟨A1, n1, c1, l1, rfl, m1, R1, H1⟩ := open_stored_list (hval 1 56 v1 rfl rfl) h1 (fun x hx => hlt x (by simp [hx]))
  exact ⟨⟨rfl, rfl, rfl⟩, walk p0_0 p0_1 p0_2 l0_3 A0_3 n0_3 c0_3 l0_4 A0_4 n0_4 c0_4 l0_5 A0_5 n0_5 c0_5 l0_6 A0_6 n0_6 c0_6 p0_7 l1 A1 n1 c1 W wf0_0 wf0_1 wf0_2 m0_3 R0_3 H0_3 m0_4 R0_4 H0_4 m0_5 R0_5 H0_5 m0_6 R0_6 H0_6 wf0_7 m1 R1 H1⟩

set_option maxRecDepth 100000 in
set_option maxHeartbeats 8000000 in
theorem closed : joinedFacts Try.pinned.checked.prog 7 Try.f7 Rows.fnExactTakeSnapshotSpec Rows.fnExactTakeSnapshotRow = true :=
  (and_i (and_i (and_i (and_i (and_i (and_i (and_i (and_i (and_i (and_i (and_i (and_i (and_i (and_i (and_i (and_i (and_i (and_i (and_i (and_i (and_i (and_i (and_i (and_i (and_i (and_i (and_i (and_i (and_i (and_i (and_i (by as_aux_lemma => kernel_rfl) seatLaid) sf_maps) (by as_aux_lemma => kernel_rfl)) (by as_aux_lemma => kernel_rfl)) (by as_aux_lemma => kernel_rfl)) (by as_aux_lemma => kernel_rfl)) (by as_aux_lemma => kernel_rfl)) (by as_aux_lemma => kernel_rfl)) (by as_aux_lemma => kernel_rfl)) (by as_aux_lemma => kernel_rfl)) (by as_aux_lemma => kernel_rfl)) (by as_aux_lemma => kernel_rfl)) (by as_aux_lemma => kernel_rfl)) (by as_aux_lemma => kernel_rfl)) (by as_aux_lemma => kernel_rfl)) (by as_aux_lemma => kernel_rfl)) (by as_aux_lemma => kernel_rfl)) (by as_aux_lemma => kernel_rfl)) (by as_aux_lemma => kernel_rfl)) (by as_aux_lemma => kernel_rfl)) (by as_aux_lemma => kernel_rfl)) sf_plain) (by as_aux_lemma => kernel_rfl)) sf_heard) sf_enter) sf_lifts) sf_make) (by as_aux_lemma => kernel_rfl)) (by as_aux_lemma => kernel_rfl)) (by as_aux_lemma => kernel_rfl)) (by as_aux_lemma => kernel_rfl))

theorem over : Rows.fnExactTakeSnapshotRow.holds Try.pinned (OpenSpec.ofChange Rows.fnExactTakeSnapshotSpec) :=
  OpenClaim.holds_of_wide 7 Try.f7 rfl rfl rfl rfl rfl rfl rfl ⟨rfl, rfl, rfl, rfl, rfl⟩ rfl rfl rfl rfl rfl (by kernel_rfl) Try.func7 closed
    (of_decide_eq_true (by kernel_rfl)) (by unfold Func.isWrapper; first | (rw [if_pos (by decide +kernel)]; kernel_rfl) | (rw [if_neg (by decide +kernel)]; exact ⟨rfl, rfl⟩))
    (fun os started H enc _ => lifted os started H enc)

theorem proved : Rows.FnExactTakeSnapshotSaid := over
#print axioms proved
end Go.Proofs.Ytejcioenoofjlaa.fnExactTakeSnapshot
