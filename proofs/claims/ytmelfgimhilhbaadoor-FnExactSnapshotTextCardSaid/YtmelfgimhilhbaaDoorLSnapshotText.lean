/- The law FnExactSnapshotText answers true for every argument, and leaves each argument as it was. No condition. -/
import Derived.Test.YtmelfgimhilhbaaDoorDFrame
import Derived.Deep.RegionHeld3
import Derived.Deep.DeepCutAuto
import Derived.Test.YtmelfgimhilhbaaDoorFacts
import Derived.Test.YtmelfgimhilhbaaDoorRSnapshot
import Derived.Test.YtmelfgimhilhbaaDoorTxSnap
import Derived.Test.YtmelfgimhilhbaaDoorOSnapshot
namespace Go.Proofs.YtmelfgimhilhbaaDoor.fnExactSnapshotText
open Go Go.ChangeShapes Go.WideShapes Go.ChangeAt Go.RowKit Go.Lib
open Go.ChangeMaps (open_string)
set_option linter.unusedVariables false
set_option linter.unusedSimpArgs false
set_option maxRecDepth 100000

set_option maxRecDepth 100000 in
set_option maxHeartbeats 20000000 in
theorem walk (p0_0 : Int) (p0_1 : Int) (p0_2 : Int) (l0_3 : List TGrant) (A0_3 : Option Addr) (n0_3 c0_3 : Nat) (l0_4 : List TFlow) (A0_4 : Option Addr) (n0_4 c0_4 : Nat) (l0_5 : List TRule) (A0_5 : Option Addr) (n0_5 c0_5 : Nat) (l0_6 : List TOp) (A0_6 : Option Addr) (n0_6 c0_6 : Nat) (p0_7 : Int) (l0_8 : List TStored) (A0_8 : Option Addr) (n0_8 c0_8 : Nat) (w : World) (hT : Pow10 w) (wf0_0 : (Lit.int .i64 p0_0).wf = true) (wf0_1 : (Lit.int .i64 p0_1).wf = true) (wf0_2 : (Lit.int .i64 p0_2).wf = true) (hm0_3 : n0_3 ≤ maxLen) (R0_3 : Rd w 0 w.heap.size 7 A0_3 n0_3 (cGrant l0_3)) (H0_3 : Hid (cGrantOk l0_3)) (hm0_4 : n0_4 ≤ maxLen) (R0_4 : Rd w 0 w.heap.size 3 A0_4 n0_4 (cFlow l0_4)) (H0_4 : Hid (cFlowOk l0_4)) (hm0_5 : n0_5 ≤ maxLen) (R0_5 : Rd w 0 w.heap.size 8 A0_5 n0_5 (cRule l0_5)) (H0_5 : Hid (cRuleOk l0_5)) (hm0_6 : n0_6 ≤ maxLen) (R0_6 : Rd w 0 w.heap.size 4 A0_6 n0_6 (cOp l0_6)) (H0_6 : Hid (cOpOk l0_6)) (wf0_7 : (Lit.int .i64 p0_7).wf = true) (hm0_8 : n0_8 ≤ maxLen) (R0_8 : Rd w 0 w.heap.size 4 A0_8 n0_8 (cStored l0_8)) (H0_8 : Hid (cStoredOk l0_8)) :
    Calls Tryd.prog 4 #[.agg #[.int .i64 p0_0, .int .i64 p0_1, .int .i64 p0_2, .slice A0_3 n0_3 c0_3, .slice A0_4 n0_4 c0_4, .slice A0_5 n0_5 c0_5, .slice A0_6 n0_6 c0_6, .int .i64 p0_7, .slice A0_8 n0_8 c0_8]] w fun e w' => e = .returned (.bool true) ∧ Below w.heap.size w w' := by
  have hm0_3 : n0_3 ≤ 9223372036854775807 := hm0_3
  have hm0_4 : n0_4 ≤ 9223372036854775807 := hm0_4
  have hm0_5 : n0_5 ≤ 9223372036854775807 := hm0_5
  have hm0_6 : n0_6 ≤ 9223372036854775807 := hm0_6
  have hm0_8 : n0_8 ≤ 9223372036854775807 := hm0_8
  have Wf0_0 := Lib.hid wf0_0
  clear wf0_0
  have Wf0_1 := Lib.hid wf0_1
  clear wf0_1
  have Wf0_2 := Lib.hid wf0_2
  clear wf0_2
  have Wf0_7 := Lib.hid wf0_7
  clear wf0_7
  by_cases hz0 : n0_3 + n0_4 + n0_5 + n0_6 + n0_8 ≤ 1048576
  · skip
    have hqn0_3 : n0_3 ≤ 17179869184 := by omega
    have hqn0_4 : n0_4 ≤ 17179869184 := by omega
    have hqn0_5 : n0_5 ≤ 17179869184 := by omega
    have hqn0_6 : n0_6 ≤ 17179869184 := by omega
    have hqn0_8 : n0_8 ≤ 17179869184 := by omega
    have G : Below w.heap.size w (w.alloc (.cells #[.int .i64 p0_0, .int .i64 p0_1, .int .i64 p0_2, .slice A0_3 n0_3 c0_3, .slice A0_4 n0_4 c0_4, .slice A0_5 n0_5 c0_5, .slice A0_6 n0_6 c0_6, .int .i64 p0_7, .slice A0_8 n0_8 c0_8] 51)) := (Below.refl _ _).alloc (by simp) _
    have S0 := Lib.hid (show (w.alloc (.cells #[.int .i64 p0_0, .int .i64 p0_1, .int .i64 p0_2, .slice A0_3 n0_3 c0_3, .slice A0_4 n0_4 c0_4, .slice A0_5 n0_5 c0_5, .slice A0_6 n0_6 c0_6, .int .i64 p0_7, .slice A0_8 n0_8 c0_8] 51)).heap.size = w.heap.size + 1 by simp)
    replace R0_3 := R0_3.alloc (.cells #[.int .i64 p0_0, .int .i64 p0_1, .int .i64 p0_2, .slice A0_3 n0_3 c0_3, .slice A0_4 n0_4 c0_4, .slice A0_5 n0_5 c0_5, .slice A0_6 n0_6 c0_6, .int .i64 p0_7, .slice A0_8 n0_8 c0_8] 51)
    replace R0_4 := R0_4.alloc (.cells #[.int .i64 p0_0, .int .i64 p0_1, .int .i64 p0_2, .slice A0_3 n0_3 c0_3, .slice A0_4 n0_4 c0_4, .slice A0_5 n0_5 c0_5, .slice A0_6 n0_6 c0_6, .int .i64 p0_7, .slice A0_8 n0_8 c0_8] 51)
    replace R0_5 := R0_5.alloc (.cells #[.int .i64 p0_0, .int .i64 p0_1, .int .i64 p0_2, .slice A0_3 n0_3 c0_3, .slice A0_4 n0_4 c0_4, .slice A0_5 n0_5 c0_5, .slice A0_6 n0_6 c0_6, .int .i64 p0_7, .slice A0_8 n0_8 c0_8] 51)
    replace R0_6 := R0_6.alloc (.cells #[.int .i64 p0_0, .int .i64 p0_1, .int .i64 p0_2, .slice A0_3 n0_3 c0_3, .slice A0_4 n0_4 c0_4, .slice A0_5 n0_5 c0_5, .slice A0_6 n0_6 c0_6, .int .i64 p0_7, .slice A0_8 n0_8 c0_8] 51)
    replace R0_8 := R0_8.alloc (.cells #[.int .i64 p0_0, .int .i64 p0_1, .int .i64 p0_2, .slice A0_3 n0_3 c0_3, .slice A0_4 n0_4 c0_4, .slice A0_5 n0_5 c0_5, .slice A0_6 n0_6 c0_6, .int .i64 p0_7, .slice A0_8 n0_8 c0_8] 51)
    have KB0 : BoxAt (w.alloc (.cells #[.int .i64 p0_0, .int .i64 p0_1, .int .i64 p0_2, .slice A0_3 n0_3 c0_3, .slice A0_4 n0_4 c0_4, .slice A0_5 n0_5 c0_5, .slice A0_6 n0_6 c0_6, .int .i64 p0_7, .slice A0_8 n0_8 c0_8] 51)) (w.heap.size) 51 #[.int .i64 p0_0, .int .i64 p0_1, .int .i64 p0_2, .slice A0_3 n0_3 c0_3, .slice A0_4 n0_4 c0_4, .slice A0_5 n0_5 c0_5, .slice A0_6 n0_6 c0_6, .int .i64 p0_7, .slice A0_8 n0_8 c0_8] := box_new _ _ _
    go_enter Tryd.func4, Tryd.ntmps4
    have xKB0_0 : (w.alloc (.cells #[.int .i64 p0_0, .int .i64 p0_1, .int .i64 p0_2, .slice A0_3 n0_3 c0_3, .slice A0_4 n0_4 c0_4, .slice A0_5 n0_5 c0_5, .slice A0_6 n0_6 c0_6, .int .i64 p0_7, .slice A0_8 n0_8 c0_8] 51)).cell? ⟨w.heap.size, 0, none⟩ = some (.int .i64 p0_0) := KB0.at_ rfl
    have xKB0_1 : (w.alloc (.cells #[.int .i64 p0_0, .int .i64 p0_1, .int .i64 p0_2, .slice A0_3 n0_3 c0_3, .slice A0_4 n0_4 c0_4, .slice A0_5 n0_5 c0_5, .slice A0_6 n0_6 c0_6, .int .i64 p0_7, .slice A0_8 n0_8 c0_8] 51)).cell? ⟨w.heap.size, 1, none⟩ = some (.int .i64 p0_1) := KB0.at_ rfl
    have xKB0_2 : (w.alloc (.cells #[.int .i64 p0_0, .int .i64 p0_1, .int .i64 p0_2, .slice A0_3 n0_3 c0_3, .slice A0_4 n0_4 c0_4, .slice A0_5 n0_5 c0_5, .slice A0_6 n0_6 c0_6, .int .i64 p0_7, .slice A0_8 n0_8 c0_8] 51)).cell? ⟨w.heap.size, 2, none⟩ = some (.int .i64 p0_2) := KB0.at_ rfl
    have xKB0_3 : (w.alloc (.cells #[.int .i64 p0_0, .int .i64 p0_1, .int .i64 p0_2, .slice A0_3 n0_3 c0_3, .slice A0_4 n0_4 c0_4, .slice A0_5 n0_5 c0_5, .slice A0_6 n0_6 c0_6, .int .i64 p0_7, .slice A0_8 n0_8 c0_8] 51)).cell? ⟨w.heap.size, 3, none⟩ = some (.slice A0_3 n0_3 c0_3) := KB0.at_ rfl
    have xKB0_4 : (w.alloc (.cells #[.int .i64 p0_0, .int .i64 p0_1, .int .i64 p0_2, .slice A0_3 n0_3 c0_3, .slice A0_4 n0_4 c0_4, .slice A0_5 n0_5 c0_5, .slice A0_6 n0_6 c0_6, .int .i64 p0_7, .slice A0_8 n0_8 c0_8] 51)).cell? ⟨w.heap.size, 4, none⟩ = some (.slice A0_4 n0_4 c0_4) := KB0.at_ rfl
    have xKB0_5 : (w.alloc (.cells #[.int .i64 p0_0, .int .i64 p0_1, .int .i64 p0_2, .slice A0_3 n0_3 c0_3, .slice A0_4 n0_4 c0_4, .slice A0_5 n0_5 c0_5, .slice A0_6 n0_6 c0_6, .int .i64 p0_7, .slice A0_8 n0_8 c0_8] 51)).cell? ⟨w.heap.size, 5, none⟩ = some (.slice A0_5 n0_5 c0_5) := KB0.at_ rfl
    have xKB0_6 : (w.alloc (.cells #[.int .i64 p0_0, .int .i64 p0_1, .int .i64 p0_2, .slice A0_3 n0_3 c0_3, .slice A0_4 n0_4 c0_4, .slice A0_5 n0_5 c0_5, .slice A0_6 n0_6 c0_6, .int .i64 p0_7, .slice A0_8 n0_8 c0_8] 51)).cell? ⟨w.heap.size, 6, none⟩ = some (.slice A0_6 n0_6 c0_6) := KB0.at_ rfl
    have xKB0_7 : (w.alloc (.cells #[.int .i64 p0_0, .int .i64 p0_1, .int .i64 p0_2, .slice A0_3 n0_3 c0_3, .slice A0_4 n0_4 c0_4, .slice A0_5 n0_5 c0_5, .slice A0_6 n0_6 c0_6, .int .i64 p0_7, .slice A0_8 n0_8 c0_8] 51)).cell? ⟨w.heap.size, 7, none⟩ = some (.int .i64 p0_7) := KB0.at_ rfl
    have xKB0_8 : (w.alloc (.cells #[.int .i64 p0_0, .int .i64 p0_1, .int .i64 p0_2, .slice A0_3 n0_3 c0_3, .slice A0_4 n0_4 c0_4, .slice A0_5 n0_5 c0_5, .slice A0_6 n0_6 c0_6, .int .i64 p0_7, .slice A0_8 n0_8 c0_8] 51)).cell? ⟨w.heap.size, 8, none⟩ = some (.slice A0_8 n0_8 c0_8) := KB0.at_ rfl
    go_wp2_with fail
    refine Calls.mono (sz_snapshot p0_0 p0_1 p0_2 A0_3 n0_3 c0_3 A0_4 n0_4 c0_4 A0_5 n0_5 c0_5 A0_6 n0_6 c0_6 p0_7 A0_8 n0_8 c0_8 (1048576) _ hm0_3 hm0_4 hm0_5 hm0_6 hm0_8 (by omega) (by omega)) ?_
    rintro e w1 ⟨rfl, B1⟩
    replace R0_3 := (R0_3).new B1
    replace R0_4 := (R0_4).new B1
    replace R0_5 := (R0_5).new B1
    replace R0_6 := (R0_6).new B1
    replace R0_8 := (R0_8).new B1
    replace KB0 := (KB0).new B1
    replace G := below_trans G B1 (Nat.le_refl _)
    have S1 := Lib.hid (show (w.alloc (.cells #[.int .i64 p0_0, .int .i64 p0_1, .int .i64 p0_2, .slice A0_3 n0_3 c0_3, .slice A0_4 n0_4 c0_4, .slice A0_5 n0_5 c0_5, .slice A0_6 n0_6 c0_6, .int .i64 p0_7, .slice A0_8 n0_8 c0_8] 51)).heap.size + 0 ≤ w1.heap.size by have := B1.size; first | (simpa using this) | ((try simp at this); omega))
    clear B1
    clear xKB0_0 xKB0_1 xKB0_2 xKB0_3 xKB0_4 xKB0_5 xKB0_6 xKB0_7 xKB0_8
    have xKB0_0 : w1.cell? ⟨w.heap.size, 0, none⟩ = some (.int .i64 p0_0) := KB0.at_ rfl
    have xKB0_1 : w1.cell? ⟨w.heap.size, 1, none⟩ = some (.int .i64 p0_1) := KB0.at_ rfl
    have xKB0_2 : w1.cell? ⟨w.heap.size, 2, none⟩ = some (.int .i64 p0_2) := KB0.at_ rfl
    have xKB0_3 : w1.cell? ⟨w.heap.size, 3, none⟩ = some (.slice A0_3 n0_3 c0_3) := KB0.at_ rfl
    have xKB0_4 : w1.cell? ⟨w.heap.size, 4, none⟩ = some (.slice A0_4 n0_4 c0_4) := KB0.at_ rfl
    have xKB0_5 : w1.cell? ⟨w.heap.size, 5, none⟩ = some (.slice A0_5 n0_5 c0_5) := KB0.at_ rfl
    have xKB0_6 : w1.cell? ⟨w.heap.size, 6, none⟩ = some (.slice A0_6 n0_6 c0_6) := KB0.at_ rfl
    have xKB0_7 : w1.cell? ⟨w.heap.size, 7, none⟩ = some (.int .i64 p0_7) := KB0.at_ rfl
    have xKB0_8 : w1.cell? ⟨w.heap.size, 8, none⟩ = some (.slice A0_8 n0_8 c0_8) := KB0.at_ rfl
    go_wp2_with fail
    refine Calls.mono (to_snapshot p0_0 p0_1 p0_2 l0_3 A0_3 n0_3 c0_3 _ _ l0_4 A0_4 n0_4 c0_4 _ _ l0_5 A0_5 n0_5 c0_5 _ _ l0_6 A0_6 n0_6 c0_6 _ _ p0_7 l0_8 A0_8 n0_8 c0_8 _ _ _ hqn0_3 R0_3 hqn0_4 R0_4 hqn0_5 R0_5 hqn0_6 R0_6 hqn0_8 R0_8) ?_
    rintro e w2 ⟨T2_3, T2_4, T2_5, T2_6, T2_8, tc2_3, tlo2_3, thi2_3, tc2_4, tlo2_4, thi2_4, tc2_5, tlo2_5, thi2_5, tc2_6, tlo2_6, thi2_6, tc2_8, tlo2_8, thi2_8, rfl, FT2_3, FT2_4, FT2_5, FT2_6, FT2_8, MT2, B2⟩
    replace R0_3 := (R0_3).new B2
    replace R0_4 := (R0_4).new B2
    replace R0_5 := (R0_5).new B2
    replace R0_6 := (R0_6).new B2
    replace R0_8 := (R0_8).new B2
    replace KB0 := (KB0).new B2
    replace G := below_trans G B2 (Nat.le_refl _)
    have S2 := Lib.hid (show w1.heap.size + 0 ≤ w2.heap.size by have := B2.size; first | (simpa using this) | ((try simp at this); omega))
    clear B2
    clear xKB0_0 xKB0_1 xKB0_2 xKB0_3 xKB0_4 xKB0_5 xKB0_6 xKB0_7 xKB0_8
    go_wp2_with fail
    refine Calls.mono (spec_SnapshotText p0_0 p0_1 p0_2 l0_3 T2_3 n0_3 tc2_3 _ _ l0_4 T2_4 n0_4 tc2_4 _ _ l0_5 T2_5 n0_5 tc2_5 _ _ l0_6 T2_6 n0_6 tc2_6 _ _ p0_7 l0_8 T2_8 n0_8 tc2_8 _ _ _ (pow10_below hT G) Wf0_0.out Wf0_1.out Wf0_2.out (by omega) FT2_3.rd H0_3 (by omega) FT2_4.rd H0_4 (by omega) FT2_5.rd H0_5 (by omega) FT2_6.rd H0_6 Wf0_7.out (by omega) FT2_8.rd H0_8) ?_
    rintro e w3 ⟨rfl, B3⟩
    replace R0_3 := (R0_3).new B3
    replace R0_4 := (R0_4).new B3
    replace R0_5 := (R0_5).new B3
    replace R0_6 := (R0_6).new B3
    replace R0_8 := (R0_8).new B3
    replace KB0 := (KB0).new B3
    replace FT2_3 := (FT2_3).new B3
    replace FT2_4 := (FT2_4).new B3
    replace FT2_5 := (FT2_5).new B3
    replace FT2_6 := (FT2_6).new B3
    replace FT2_8 := (FT2_8).new B3
    replace G := below_trans G B3 (Nat.le_refl _)
    have S3 := Lib.hid (show w2.heap.size + 0 ≤ w3.heap.size by have := B3.size; first | (simpa using this) | ((try simp at this); omega))
    clear B3
    clear FT2_3
    clear FT2_4
    clear FT2_5
    clear FT2_6
    clear FT2_8
    have xKB0_0 : w3.cell? ⟨w.heap.size, 0, none⟩ = some (.int .i64 p0_0) := KB0.at_ rfl
    have xKB0_1 : w3.cell? ⟨w.heap.size, 1, none⟩ = some (.int .i64 p0_1) := KB0.at_ rfl
    have xKB0_2 : w3.cell? ⟨w.heap.size, 2, none⟩ = some (.int .i64 p0_2) := KB0.at_ rfl
    have xKB0_3 : w3.cell? ⟨w.heap.size, 3, none⟩ = some (.slice A0_3 n0_3 c0_3) := KB0.at_ rfl
    have xKB0_4 : w3.cell? ⟨w.heap.size, 4, none⟩ = some (.slice A0_4 n0_4 c0_4) := KB0.at_ rfl
    have xKB0_5 : w3.cell? ⟨w.heap.size, 5, none⟩ = some (.slice A0_5 n0_5 c0_5) := KB0.at_ rfl
    have xKB0_6 : w3.cell? ⟨w.heap.size, 6, none⟩ = some (.slice A0_6 n0_6 c0_6) := KB0.at_ rfl
    have xKB0_7 : w3.cell? ⟨w.heap.size, 7, none⟩ = some (.int .i64 p0_7) := KB0.at_ rfl
    have xKB0_8 : w3.cell? ⟨w.heap.size, 8, none⟩ = some (.slice A0_8 n0_8 c0_8) := KB0.at_ rfl
    go_wp2_with fail
    refine Calls.mono (to_snapshot p0_0 p0_1 p0_2 l0_3 A0_3 n0_3 c0_3 _ _ l0_4 A0_4 n0_4 c0_4 _ _ l0_5 A0_5 n0_5 c0_5 _ _ l0_6 A0_6 n0_6 c0_6 _ _ p0_7 l0_8 A0_8 n0_8 c0_8 _ _ _ hqn0_3 R0_3 hqn0_4 R0_4 hqn0_5 R0_5 hqn0_6 R0_6 hqn0_8 R0_8) ?_
    rintro e w4 ⟨T4_3, T4_4, T4_5, T4_6, T4_8, tc4_3, tlo4_3, thi4_3, tc4_4, tlo4_4, thi4_4, tc4_5, tlo4_5, thi4_5, tc4_6, tlo4_6, thi4_6, tc4_8, tlo4_8, thi4_8, rfl, FT4_3, FT4_4, FT4_5, FT4_6, FT4_8, MT4, B4⟩
    replace R0_3 := (R0_3).new B4
    replace R0_4 := (R0_4).new B4
    replace R0_5 := (R0_5).new B4
    replace R0_6 := (R0_6).new B4
    replace R0_8 := (R0_8).new B4
    replace KB0 := (KB0).new B4
    replace G := below_trans G B4 (Nat.le_refl _)
    have S4 := Lib.hid (show w3.heap.size + 0 ≤ w4.heap.size by have := B4.size; first | (simpa using this) | ((try simp at this); omega))
    clear B4
    clear xKB0_0 xKB0_1 xKB0_2 xKB0_3 xKB0_4 xKB0_5 xKB0_6 xKB0_7 xKB0_8
    have SA6 := Lib.hid (show (w4.alloc (.cells #[.int .i64 p0_0, .int .i64 p0_1, .int .i64 p0_2, .slice T4_3 n0_3 tc4_3, .slice T4_4 n0_4 tc4_4, .slice T4_5 n0_5 tc4_5, .slice T4_6 n0_6 tc4_6, .int .i64 p0_7, .slice T4_8 n0_8 tc4_8] 62)).heap.size = w4.heap.size + 1 by simp)
    replace R0_3 := R0_3.alloc (.cells #[.int .i64 p0_0, .int .i64 p0_1, .int .i64 p0_2, .slice T4_3 n0_3 tc4_3, .slice T4_4 n0_4 tc4_4, .slice T4_5 n0_5 tc4_5, .slice T4_6 n0_6 tc4_6, .int .i64 p0_7, .slice T4_8 n0_8 tc4_8] 62)
    replace R0_4 := R0_4.alloc (.cells #[.int .i64 p0_0, .int .i64 p0_1, .int .i64 p0_2, .slice T4_3 n0_3 tc4_3, .slice T4_4 n0_4 tc4_4, .slice T4_5 n0_5 tc4_5, .slice T4_6 n0_6 tc4_6, .int .i64 p0_7, .slice T4_8 n0_8 tc4_8] 62)
    replace R0_5 := R0_5.alloc (.cells #[.int .i64 p0_0, .int .i64 p0_1, .int .i64 p0_2, .slice T4_3 n0_3 tc4_3, .slice T4_4 n0_4 tc4_4, .slice T4_5 n0_5 tc4_5, .slice T4_6 n0_6 tc4_6, .int .i64 p0_7, .slice T4_8 n0_8 tc4_8] 62)
    replace R0_6 := R0_6.alloc (.cells #[.int .i64 p0_0, .int .i64 p0_1, .int .i64 p0_2, .slice T4_3 n0_3 tc4_3, .slice T4_4 n0_4 tc4_4, .slice T4_5 n0_5 tc4_5, .slice T4_6 n0_6 tc4_6, .int .i64 p0_7, .slice T4_8 n0_8 tc4_8] 62)
    replace R0_8 := R0_8.alloc (.cells #[.int .i64 p0_0, .int .i64 p0_1, .int .i64 p0_2, .slice T4_3 n0_3 tc4_3, .slice T4_4 n0_4 tc4_4, .slice T4_5 n0_5 tc4_5, .slice T4_6 n0_6 tc4_6, .int .i64 p0_7, .slice T4_8 n0_8 tc4_8] 62)
    replace KB0 := KB0.alloc_ (.cells #[.int .i64 p0_0, .int .i64 p0_1, .int .i64 p0_2, .slice T4_3 n0_3 tc4_3, .slice T4_4 n0_4 tc4_4, .slice T4_5 n0_5 tc4_5, .slice T4_6 n0_6 tc4_6, .int .i64 p0_7, .slice T4_8 n0_8 tc4_8] 62)
    replace FT4_3 := FT4_3.alloc (.cells #[.int .i64 p0_0, .int .i64 p0_1, .int .i64 p0_2, .slice T4_3 n0_3 tc4_3, .slice T4_4 n0_4 tc4_4, .slice T4_5 n0_5 tc4_5, .slice T4_6 n0_6 tc4_6, .int .i64 p0_7, .slice T4_8 n0_8 tc4_8] 62)
    replace FT4_4 := FT4_4.alloc (.cells #[.int .i64 p0_0, .int .i64 p0_1, .int .i64 p0_2, .slice T4_3 n0_3 tc4_3, .slice T4_4 n0_4 tc4_4, .slice T4_5 n0_5 tc4_5, .slice T4_6 n0_6 tc4_6, .int .i64 p0_7, .slice T4_8 n0_8 tc4_8] 62)
    replace FT4_5 := FT4_5.alloc (.cells #[.int .i64 p0_0, .int .i64 p0_1, .int .i64 p0_2, .slice T4_3 n0_3 tc4_3, .slice T4_4 n0_4 tc4_4, .slice T4_5 n0_5 tc4_5, .slice T4_6 n0_6 tc4_6, .int .i64 p0_7, .slice T4_8 n0_8 tc4_8] 62)
    replace FT4_6 := FT4_6.alloc (.cells #[.int .i64 p0_0, .int .i64 p0_1, .int .i64 p0_2, .slice T4_3 n0_3 tc4_3, .slice T4_4 n0_4 tc4_4, .slice T4_5 n0_5 tc4_5, .slice T4_6 n0_6 tc4_6, .int .i64 p0_7, .slice T4_8 n0_8 tc4_8] 62)
    replace FT4_8 := FT4_8.alloc (.cells #[.int .i64 p0_0, .int .i64 p0_1, .int .i64 p0_2, .slice T4_3 n0_3 tc4_3, .slice T4_4 n0_4 tc4_4, .slice T4_5 n0_5 tc4_5, .slice T4_6 n0_6 tc4_6, .int .i64 p0_7, .slice T4_8 n0_8 tc4_8] 62)
    have KX5 : BoxAt (w4.alloc (.cells #[.int .i64 p0_0, .int .i64 p0_1, .int .i64 p0_2, .slice T4_3 n0_3 tc4_3, .slice T4_4 n0_4 tc4_4, .slice T4_5 n0_5 tc4_5, .slice T4_6 n0_6 tc4_6, .int .i64 p0_7, .slice T4_8 n0_8 tc4_8] 62)) (w4.heap.size) 62 #[.int .i64 p0_0, .int .i64 p0_1, .int .i64 p0_2, .slice T4_3 n0_3 tc4_3, .slice T4_4 n0_4 tc4_4, .slice T4_5 n0_5 tc4_5, .slice T4_6 n0_6 tc4_6, .int .i64 p0_7, .slice T4_8 n0_8 tc4_8] := box_new _ _ _
    replace G := G.alloc (by have := S0.out; have := S1.out; have := S2.out; have := S3.out; have := S4.out; have := SA6.out; have := SepSnapshot_bd MT2.out; have := SepSnapshot_bd MT4.out; first | omega | (simp; omega)) (.cells #[.int .i64 p0_0, .int .i64 p0_1, .int .i64 p0_2, .slice T4_3 n0_3 tc4_3, .slice T4_4 n0_4 tc4_4, .slice T4_5 n0_5 tc4_5, .slice T4_6 n0_6 tc4_6, .int .i64 p0_7, .slice T4_8 n0_8 tc4_8] 62)
    have xKX5_0 : (w4.alloc (.cells #[.int .i64 p0_0, .int .i64 p0_1, .int .i64 p0_2, .slice T4_3 n0_3 tc4_3, .slice T4_4 n0_4 tc4_4, .slice T4_5 n0_5 tc4_5, .slice T4_6 n0_6 tc4_6, .int .i64 p0_7, .slice T4_8 n0_8 tc4_8] 62)).cell? ⟨w4.heap.size, 0, none⟩ = some (.int .i64 p0_0) := KX5.at_ rfl
    have xKX5_1 : (w4.alloc (.cells #[.int .i64 p0_0, .int .i64 p0_1, .int .i64 p0_2, .slice T4_3 n0_3 tc4_3, .slice T4_4 n0_4 tc4_4, .slice T4_5 n0_5 tc4_5, .slice T4_6 n0_6 tc4_6, .int .i64 p0_7, .slice T4_8 n0_8 tc4_8] 62)).cell? ⟨w4.heap.size, 1, none⟩ = some (.int .i64 p0_1) := KX5.at_ rfl
    have xKX5_2 : (w4.alloc (.cells #[.int .i64 p0_0, .int .i64 p0_1, .int .i64 p0_2, .slice T4_3 n0_3 tc4_3, .slice T4_4 n0_4 tc4_4, .slice T4_5 n0_5 tc4_5, .slice T4_6 n0_6 tc4_6, .int .i64 p0_7, .slice T4_8 n0_8 tc4_8] 62)).cell? ⟨w4.heap.size, 2, none⟩ = some (.int .i64 p0_2) := KX5.at_ rfl
    have xKX5_3 : (w4.alloc (.cells #[.int .i64 p0_0, .int .i64 p0_1, .int .i64 p0_2, .slice T4_3 n0_3 tc4_3, .slice T4_4 n0_4 tc4_4, .slice T4_5 n0_5 tc4_5, .slice T4_6 n0_6 tc4_6, .int .i64 p0_7, .slice T4_8 n0_8 tc4_8] 62)).cell? ⟨w4.heap.size, 3, none⟩ = some (.slice T4_3 n0_3 tc4_3) := KX5.at_ rfl
    have xKX5_4 : (w4.alloc (.cells #[.int .i64 p0_0, .int .i64 p0_1, .int .i64 p0_2, .slice T4_3 n0_3 tc4_3, .slice T4_4 n0_4 tc4_4, .slice T4_5 n0_5 tc4_5, .slice T4_6 n0_6 tc4_6, .int .i64 p0_7, .slice T4_8 n0_8 tc4_8] 62)).cell? ⟨w4.heap.size, 4, none⟩ = some (.slice T4_4 n0_4 tc4_4) := KX5.at_ rfl
    have xKX5_5 : (w4.alloc (.cells #[.int .i64 p0_0, .int .i64 p0_1, .int .i64 p0_2, .slice T4_3 n0_3 tc4_3, .slice T4_4 n0_4 tc4_4, .slice T4_5 n0_5 tc4_5, .slice T4_6 n0_6 tc4_6, .int .i64 p0_7, .slice T4_8 n0_8 tc4_8] 62)).cell? ⟨w4.heap.size, 5, none⟩ = some (.slice T4_5 n0_5 tc4_5) := KX5.at_ rfl
    have xKX5_6 : (w4.alloc (.cells #[.int .i64 p0_0, .int .i64 p0_1, .int .i64 p0_2, .slice T4_3 n0_3 tc4_3, .slice T4_4 n0_4 tc4_4, .slice T4_5 n0_5 tc4_5, .slice T4_6 n0_6 tc4_6, .int .i64 p0_7, .slice T4_8 n0_8 tc4_8] 62)).cell? ⟨w4.heap.size, 6, none⟩ = some (.slice T4_6 n0_6 tc4_6) := KX5.at_ rfl
    have xKX5_7 : (w4.alloc (.cells #[.int .i64 p0_0, .int .i64 p0_1, .int .i64 p0_2, .slice T4_3 n0_3 tc4_3, .slice T4_4 n0_4 tc4_4, .slice T4_5 n0_5 tc4_5, .slice T4_6 n0_6 tc4_6, .int .i64 p0_7, .slice T4_8 n0_8 tc4_8] 62)).cell? ⟨w4.heap.size, 7, none⟩ = some (.int .i64 p0_7) := KX5.at_ rfl
    have xKX5_8 : (w4.alloc (.cells #[.int .i64 p0_0, .int .i64 p0_1, .int .i64 p0_2, .slice T4_3 n0_3 tc4_3, .slice T4_4 n0_4 tc4_4, .slice T4_5 n0_5 tc4_5, .slice T4_6 n0_6 tc4_6, .int .i64 p0_7, .slice T4_8 n0_8 tc4_8] 62)).cell? ⟨w4.heap.size, 8, none⟩ = some (.slice T4_8 n0_8 tc4_8) := KX5.at_ rfl
    go_wp2_with fail
    refine Calls.mono (impl_SnapshotText p0_0 p0_1 p0_2 l0_3 T4_3 n0_3 tc4_3 _ _ l0_4 T4_4 n0_4 tc4_4 _ _ l0_5 T4_5 n0_5 tc4_5 _ _ l0_6 T4_6 n0_6 tc4_6 _ _ p0_7 l0_8 T4_8 n0_8 tc4_8 _ _ _ (pow10_below hT G) Wf0_0.out Wf0_1.out Wf0_2.out (by omega) FT4_3.rd H0_3 (by omega) FT4_4.rd H0_4 (by omega) FT4_5.rd H0_5 (by omega) FT4_6.rd H0_6 Wf0_7.out (by omega) FT4_8.rd H0_8) ?_
    rintro e w5 ⟨rfl, B7⟩
    replace R0_3 := (R0_3).new B7
    replace R0_4 := (R0_4).new B7
    replace R0_5 := (R0_5).new B7
    replace R0_6 := (R0_6).new B7
    replace R0_8 := (R0_8).new B7
    replace KB0 := (KB0).new B7
    replace FT4_3 := (FT4_3).new B7
    replace FT4_4 := (FT4_4).new B7
    replace FT4_5 := (FT4_5).new B7
    replace FT4_6 := (FT4_6).new B7
    replace FT4_8 := (FT4_8).new B7
    replace KX5 := (KX5).new B7
    replace G := below_trans G B7 (Nat.le_refl _)
    have S5 := Lib.hid (show (w4.alloc (.cells #[.int .i64 p0_0, .int .i64 p0_1, .int .i64 p0_2, .slice T4_3 n0_3 tc4_3, .slice T4_4 n0_4 tc4_4, .slice T4_5 n0_5 tc4_5, .slice T4_6 n0_6 tc4_6, .int .i64 p0_7, .slice T4_8 n0_8 tc4_8] 62)).heap.size + 0 ≤ w5.heap.size by have := B7.size; first | (simpa using this) | ((try simp at this); omega))
    clear B7
    clear xKX5_0 xKX5_1 xKX5_2 xKX5_3 xKX5_4 xKX5_5 xKX5_6 xKX5_7 xKX5_8
    go_wp2_with fail
    replace G := G.drew
    replace R0_3 := R0_3.drw
    replace R0_4 := R0_4.drw
    replace R0_5 := R0_5.drw
    replace R0_6 := R0_6.drw
    replace R0_8 := R0_8.drw
    replace KB0 := KB0.drw
    replace FT4_3 := FT4_3.drw
    replace FT4_4 := FT4_4.drw
    replace FT4_5 := FT4_5.drw
    replace FT4_6 := FT4_6.drw
    replace FT4_8 := FT4_8.drw
    replace KX5 := KX5.drw
    go_region_held3 (fun w' => w'.cell? ⟨w4.heap.size, 0, none⟩ = some (.int .i64 p0_0) ∧ w'.cell? ⟨w4.heap.size, 1, none⟩ = some (.int .i64 p0_1) ∧ w'.cell? ⟨w4.heap.size, 2, none⟩ = some (.int .i64 p0_2) ∧ w'.cell? ⟨w4.heap.size, 3, none⟩ = some (.slice T4_3 n0_3 tc4_3) ∧ w'.cell? ⟨w4.heap.size, 4, none⟩ = some (.slice T4_4 n0_4 tc4_4) ∧ w'.cell? ⟨w4.heap.size, 5, none⟩ = some (.slice T4_5 n0_5 tc4_5) ∧ w'.cell? ⟨w4.heap.size, 6, none⟩ = some (.slice T4_6 n0_6 tc4_6) ∧ w'.cell? ⟨w4.heap.size, 7, none⟩ = some (.int .i64 p0_7) ∧ w'.cell? ⟨w4.heap.size, 8, none⟩ = some (.slice T4_8 n0_8 tc4_8) ∧ w'.cell? ⟨w.heap.size, 0, none⟩ = some (.int .i64 p0_0) ∧ w'.cell? ⟨w.heap.size, 1, none⟩ = some (.int .i64 p0_1) ∧ w'.cell? ⟨w.heap.size, 2, none⟩ = some (.int .i64 p0_2) ∧ w'.cell? ⟨w.heap.size, 3, none⟩ = some (.slice A0_3 n0_3 c0_3) ∧ w'.cell? ⟨w.heap.size, 4, none⟩ = some (.slice A0_4 n0_4 c0_4) ∧ w'.cell? ⟨w.heap.size, 5, none⟩ = some (.slice A0_5 n0_5 c0_5) ∧ w'.cell? ⟨w.heap.size, 6, none⟩ = some (.slice A0_6 n0_6 c0_6) ∧ w'.cell? ⟨w.heap.size, 7, none⟩ = some (.int .i64 p0_7) ∧ w'.cell? ⟨w.heap.size, 8, none⟩ = some (.slice A0_8 n0_8 c0_8))
      (exact ⟨KX5.at_ rfl, KX5.at_ rfl, KX5.at_ rfl, KX5.at_ rfl, KX5.at_ rfl, KX5.at_ rfl, KX5.at_ rfl, KX5.at_ rfl, KX5.at_ rfl, KB0.at_ rfl, KB0.at_ rfl, KB0.at_ rfl, KB0.at_ rfl, KB0.at_ rfl, KB0.at_ rfl, KB0.at_ rfl, KB0.at_ rfl, KB0.at_ rfl⟩)
      (first
        | (go_at_call 19; (fail_if_success (have hx := B8)); refine Calls.mono (to_snapshot p0_0 p0_1 p0_2 l0_3 A0_3 n0_3 c0_3 _ _ l0_4 A0_4 n0_4 c0_4 _ _ l0_5 A0_5 n0_5 c0_5 _ _ l0_6 A0_6 n0_6 c0_6 _ _ p0_7 l0_8 A0_8 n0_8 c0_8 _ _ _ hqn0_3 R0_3 hqn0_4 R0_4 hqn0_5 R0_5 hqn0_6 R0_6 hqn0_8 R0_8) ?_; rintro e w6 ⟨T8_3, T8_4, T8_5, T8_6, T8_8, tc8_3, tlo8_3, thi8_3, tc8_4, tlo8_4, thi8_4, tc8_5, tlo8_5, thi8_5, tc8_6, tlo8_6, thi8_6, tc8_8, tlo8_8, thi8_8, rfl, FT8_3, FT8_4, FT8_5, FT8_6, FT8_8, MT8, B8⟩; (replace R0_3 := rd_nw B8 R0_3); (replace R0_4 := rd_nw B8 R0_4); (replace R0_5 := rd_nw B8 R0_5); (replace R0_6 := rd_nw B8 R0_6); (replace R0_8 := rd_nw B8 R0_8); (replace KB0 := box_nw B8 KB0); (replace FT4_3 := fr_nw B8 FT4_3); (replace FT4_4 := fr_nw B8 FT4_4); (replace FT4_5 := fr_nw B8 FT4_5); (replace FT4_6 := fr_nw B8 FT4_6); (replace FT4_8 := fr_nw B8 FT4_8); (replace KX5 := box_nw B8 KX5); (replace G := (by first | exact below_trans G B8 (Nat.le_refl _) | exact below_trans G.drew B8 (Nat.le_refl _) | exact below_trans (below_dN G _) B8 (Nat.le_refl _))); (have S6 := Lib.hid (show w5.heap.size ≤ w6.heap.size from B8.size)))
        | (go_at_call 21; (fail_if_success (have hx := B9)); refine Calls.mono (eq_snapshot_same p0_0 p0_1 p0_2 l0_3 n0_3 T4_3 T8_3 tc4_3 tc8_3 _ _ _ _ l0_4 n0_4 T4_4 T8_4 tc4_4 tc8_4 _ _ _ _ l0_5 n0_5 T4_5 T8_5 tc4_5 tc8_5 _ _ _ _ l0_6 n0_6 T4_6 T8_6 tc4_6 tc8_6 _ _ _ _ p0_7 l0_8 n0_8 T4_8 T8_8 tc4_8 tc8_8 _ _ _ _ _ (by omega) (by omega) (by omega) (by omega) (by omega) FT4_3.rd FT4_4.rd FT4_5.rd FT4_6.rd FT4_8.rd FT8_3.rd FT8_4.rd FT8_5.rd FT8_6.rd FT8_8.rd) ?_; rintro e w7 ⟨rfl, B9⟩; (replace R0_3 := rd_nw B9 R0_3); (replace R0_4 := rd_nw B9 R0_4); (replace R0_5 := rd_nw B9 R0_5); (replace R0_6 := rd_nw B9 R0_6); (replace R0_8 := rd_nw B9 R0_8); (replace KB0 := box_nw B9 KB0); (replace FT4_3 := fr_nw B9 FT4_3); (replace FT4_4 := fr_nw B9 FT4_4); (replace FT4_5 := fr_nw B9 FT4_5); (replace FT4_6 := fr_nw B9 FT4_6); (replace FT4_8 := fr_nw B9 FT4_8); (replace KX5 := box_nw B9 KX5); (replace FT8_3 := fr_nw B9 FT8_3); (replace FT8_4 := fr_nw B9 FT8_4); (replace FT8_5 := fr_nw B9 FT8_5); (replace FT8_6 := fr_nw B9 FT8_6); (replace FT8_8 := fr_nw B9 FT8_8); (replace G := (by first | exact below_trans G B9 (Nat.le_refl _) | exact below_trans G.drew B9 (Nat.le_refl _) | exact below_trans (below_dN G _) B9 (Nat.le_refl _))); (have S7 := Lib.hid (show w6.heap.size ≤ w7.heap.size from B9.size))))
    clear B8
    clear B9
    clear FT8_3
    clear FT8_4
    clear FT8_5
    clear FT8_6
    clear FT8_8
    go_wp2_with fail
    go_ret
    exact ⟨rfl, G⟩
  · skip
    have G : Below w.heap.size w (w.alloc (.cells #[.int .i64 p0_0, .int .i64 p0_1, .int .i64 p0_2, .slice A0_3 n0_3 c0_3, .slice A0_4 n0_4 c0_4, .slice A0_5 n0_5 c0_5, .slice A0_6 n0_6 c0_6, .int .i64 p0_7, .slice A0_8 n0_8 c0_8] 51)) := (Below.refl _ _).alloc (by simp) _
    have S0 := Lib.hid (show (w.alloc (.cells #[.int .i64 p0_0, .int .i64 p0_1, .int .i64 p0_2, .slice A0_3 n0_3 c0_3, .slice A0_4 n0_4 c0_4, .slice A0_5 n0_5 c0_5, .slice A0_6 n0_6 c0_6, .int .i64 p0_7, .slice A0_8 n0_8 c0_8] 51)).heap.size = w.heap.size + 1 by simp)
    replace R0_3 := R0_3.alloc (.cells #[.int .i64 p0_0, .int .i64 p0_1, .int .i64 p0_2, .slice A0_3 n0_3 c0_3, .slice A0_4 n0_4 c0_4, .slice A0_5 n0_5 c0_5, .slice A0_6 n0_6 c0_6, .int .i64 p0_7, .slice A0_8 n0_8 c0_8] 51)
    replace R0_4 := R0_4.alloc (.cells #[.int .i64 p0_0, .int .i64 p0_1, .int .i64 p0_2, .slice A0_3 n0_3 c0_3, .slice A0_4 n0_4 c0_4, .slice A0_5 n0_5 c0_5, .slice A0_6 n0_6 c0_6, .int .i64 p0_7, .slice A0_8 n0_8 c0_8] 51)
    replace R0_5 := R0_5.alloc (.cells #[.int .i64 p0_0, .int .i64 p0_1, .int .i64 p0_2, .slice A0_3 n0_3 c0_3, .slice A0_4 n0_4 c0_4, .slice A0_5 n0_5 c0_5, .slice A0_6 n0_6 c0_6, .int .i64 p0_7, .slice A0_8 n0_8 c0_8] 51)
    replace R0_6 := R0_6.alloc (.cells #[.int .i64 p0_0, .int .i64 p0_1, .int .i64 p0_2, .slice A0_3 n0_3 c0_3, .slice A0_4 n0_4 c0_4, .slice A0_5 n0_5 c0_5, .slice A0_6 n0_6 c0_6, .int .i64 p0_7, .slice A0_8 n0_8 c0_8] 51)
    replace R0_8 := R0_8.alloc (.cells #[.int .i64 p0_0, .int .i64 p0_1, .int .i64 p0_2, .slice A0_3 n0_3 c0_3, .slice A0_4 n0_4 c0_4, .slice A0_5 n0_5 c0_5, .slice A0_6 n0_6 c0_6, .int .i64 p0_7, .slice A0_8 n0_8 c0_8] 51)
    have KB0 : BoxAt (w.alloc (.cells #[.int .i64 p0_0, .int .i64 p0_1, .int .i64 p0_2, .slice A0_3 n0_3 c0_3, .slice A0_4 n0_4 c0_4, .slice A0_5 n0_5 c0_5, .slice A0_6 n0_6 c0_6, .int .i64 p0_7, .slice A0_8 n0_8 c0_8] 51)) (w.heap.size) 51 #[.int .i64 p0_0, .int .i64 p0_1, .int .i64 p0_2, .slice A0_3 n0_3 c0_3, .slice A0_4 n0_4 c0_4, .slice A0_5 n0_5 c0_5, .slice A0_6 n0_6 c0_6, .int .i64 p0_7, .slice A0_8 n0_8 c0_8] := box_new _ _ _
    go_enter Tryd.func4, Tryd.ntmps4
    have xKB0_0 : (w.alloc (.cells #[.int .i64 p0_0, .int .i64 p0_1, .int .i64 p0_2, .slice A0_3 n0_3 c0_3, .slice A0_4 n0_4 c0_4, .slice A0_5 n0_5 c0_5, .slice A0_6 n0_6 c0_6, .int .i64 p0_7, .slice A0_8 n0_8 c0_8] 51)).cell? ⟨w.heap.size, 0, none⟩ = some (.int .i64 p0_0) := KB0.at_ rfl
    have xKB0_1 : (w.alloc (.cells #[.int .i64 p0_0, .int .i64 p0_1, .int .i64 p0_2, .slice A0_3 n0_3 c0_3, .slice A0_4 n0_4 c0_4, .slice A0_5 n0_5 c0_5, .slice A0_6 n0_6 c0_6, .int .i64 p0_7, .slice A0_8 n0_8 c0_8] 51)).cell? ⟨w.heap.size, 1, none⟩ = some (.int .i64 p0_1) := KB0.at_ rfl
    have xKB0_2 : (w.alloc (.cells #[.int .i64 p0_0, .int .i64 p0_1, .int .i64 p0_2, .slice A0_3 n0_3 c0_3, .slice A0_4 n0_4 c0_4, .slice A0_5 n0_5 c0_5, .slice A0_6 n0_6 c0_6, .int .i64 p0_7, .slice A0_8 n0_8 c0_8] 51)).cell? ⟨w.heap.size, 2, none⟩ = some (.int .i64 p0_2) := KB0.at_ rfl
    have xKB0_3 : (w.alloc (.cells #[.int .i64 p0_0, .int .i64 p0_1, .int .i64 p0_2, .slice A0_3 n0_3 c0_3, .slice A0_4 n0_4 c0_4, .slice A0_5 n0_5 c0_5, .slice A0_6 n0_6 c0_6, .int .i64 p0_7, .slice A0_8 n0_8 c0_8] 51)).cell? ⟨w.heap.size, 3, none⟩ = some (.slice A0_3 n0_3 c0_3) := KB0.at_ rfl
    have xKB0_4 : (w.alloc (.cells #[.int .i64 p0_0, .int .i64 p0_1, .int .i64 p0_2, .slice A0_3 n0_3 c0_3, .slice A0_4 n0_4 c0_4, .slice A0_5 n0_5 c0_5, .slice A0_6 n0_6 c0_6, .int .i64 p0_7, .slice A0_8 n0_8 c0_8] 51)).cell? ⟨w.heap.size, 4, none⟩ = some (.slice A0_4 n0_4 c0_4) := KB0.at_ rfl
    have xKB0_5 : (w.alloc (.cells #[.int .i64 p0_0, .int .i64 p0_1, .int .i64 p0_2, .slice A0_3 n0_3 c0_3, .slice A0_4 n0_4 c0_4, .slice A0_5 n0_5 c0_5, .slice A0_6 n0_6 c0_6, .int .i64 p0_7, .slice A0_8 n0_8 c0_8] 51)).cell? ⟨w.heap.size, 5, none⟩ = some (.slice A0_5 n0_5 c0_5) := KB0.at_ rfl
    have xKB0_6 : (w.alloc (.cells #[.int .i64 p0_0, .int .i64 p0_1, .int .i64 p0_2, .slice A0_3 n0_3 c0_3, .slice A0_4 n0_4 c0_4, .slice A0_5 n0_5 c0_5, .slice A0_6 n0_6 c0_6, .int .i64 p0_7, .slice A0_8 n0_8 c0_8] 51)).cell? ⟨w.heap.size, 6, none⟩ = some (.slice A0_6 n0_6 c0_6) := KB0.at_ rfl
    have xKB0_7 : (w.alloc (.cells #[.int .i64 p0_0, .int .i64 p0_1, .int .i64 p0_2, .slice A0_3 n0_3 c0_3, .slice A0_4 n0_4 c0_4, .slice A0_5 n0_5 c0_5, .slice A0_6 n0_6 c0_6, .int .i64 p0_7, .slice A0_8 n0_8 c0_8] 51)).cell? ⟨w.heap.size, 7, none⟩ = some (.int .i64 p0_7) := KB0.at_ rfl
    have xKB0_8 : (w.alloc (.cells #[.int .i64 p0_0, .int .i64 p0_1, .int .i64 p0_2, .slice A0_3 n0_3 c0_3, .slice A0_4 n0_4 c0_4, .slice A0_5 n0_5 c0_5, .slice A0_6 n0_6 c0_6, .int .i64 p0_7, .slice A0_8 n0_8 c0_8] 51)).cell? ⟨w.heap.size, 8, none⟩ = some (.slice A0_8 n0_8 c0_8) := KB0.at_ rfl
    go_wp2_with fail
    refine Calls.mono (szno_snapshot p0_0 p0_1 p0_2 A0_3 n0_3 c0_3 A0_4 n0_4 c0_4 A0_5 n0_5 c0_5 A0_6 n0_6 c0_6 p0_7 A0_8 n0_8 c0_8 (1048576) _ hm0_3 hm0_4 hm0_5 hm0_6 hm0_8 (by omega) (by omega) (by omega)) ?_
    rintro e w1 ⟨rfl, B10⟩
    clear xKB0_0 xKB0_1 xKB0_2 xKB0_3 xKB0_4 xKB0_5 xKB0_6 xKB0_7 xKB0_8
    go_wp2_with fail
    go_ret
    exact ⟨rfl, below_trans G B10 (Nat.le_refl _)⟩

set_option maxRecDepth 100000 in
theorem lifted (os : Os) (started : os.Started) (H : Type) (enc : TypeId × Value → H) :
    ReturnsInHanded {} Tryd.checked os 4 .any (fun w args => (Rows.fnExactSnapshotTextSpec.pre enc Tryd.prog Tryd.f4 [] false w args ∧ laidMetH Tryd.prog laidVars w) ∧ sizedMet enc Tryd.prog Tryd.f4 (OpenSpec.ofChange Rows.fnExactSnapshotTextSpec) false w args) (Rows.fnExactSnapshotTextSpec.post enc Tryd.prog Tryd.f4 false true false false) := by
  refine law_lifted_laid Tryd.func4 (by kernel_rfl) rfl rfl (by kernel_rfl) os started
    (ChangeSpec.witness_shaped (enc := enc) (C := Tryd.checked) (os := os) (X := fun w _ => laidMetH Tryd.prog laidVars w) false (World.laidAll Tryd.prog os laidVars) #[.agg #[.int .i64 0, .int .i64 0, .int .i64 0, .slice none 0 0, .slice none 0 0, .slice none 0 0, .slice none 0 0, .int .i64 0, .slice none 0 0]] 8 (World.laidAll_os _ _ _)
      (World.shaped_of_ZipB (by kernel_rfl) (by kernel_rfl)) (by kernel_rfl) (by kernel_rfl) (by kernel_rfl)
      (by rw [MakeChecks.laidMetH_plain _ _ _ (by kernel_rfl)]; exact laidMet_laidAll _ (by kernel_rfl) (by kernel_rfl))) ?_
  intro W base args ds p hT hval hA hlt
  rw [Tryd.params4] at hA hval
  obtain ⟨v0, vs0, d0, ds0, p0, q0, hargs, rfl, rfl, h0, r0⟩ := trodAll_cons hA
  obtain ⟨rfl, rfl, rfl⟩ := trodAll_nil r0
  obtain rfl : args = #[v0] := by cases args; simp_all
  obtain ⟨p0_0, p0_1, p0_2, A0_3, n0_3, c0_3, l0_3, A0_4, n0_4, c0_4, l0_4, A0_5, n0_5, c0_5, l0_5, A0_6, n0_6, c0_6, l0_6, p0_7, A0_8, n0_8, c0_8, l0_8, rfl, wf0_0, wf0_1, wf0_2, m0_3, R0_3, H0_3, m0_4, R0_4, H0_4, m0_5, R0_5, H0_5, m0_6, R0_6, H0_6, wf0_7, m0_8, R0_8, H0_8⟩ := open_snapshot (hval 0 51 v0 rfl rfl) h0 (fun x hx => hlt x (by simp [hx]))
  exact ⟨⟨rfl, rfl, rfl⟩, walk p0_0 p0_1 p0_2 l0_3 A0_3 n0_3 c0_3 l0_4 A0_4 n0_4 c0_4 l0_5 A0_5 n0_5 c0_5 l0_6 A0_6 n0_6 c0_6 p0_7 l0_8 A0_8 n0_8 c0_8 W hT wf0_0 wf0_1 wf0_2 m0_3 R0_3 H0_3 m0_4 R0_4 H0_4 m0_5 R0_5 H0_5 m0_6 R0_6 H0_6 wf0_7 m0_8 R0_8 H0_8⟩

set_option maxRecDepth 100000 in
set_option maxHeartbeats 8000000 in
theorem closed : joinedFacts Tryd.pinned.checked.prog 4 Tryd.f4 Rows.fnExactSnapshotTextSpec Rows.fnExactSnapshotTextRow = true :=
  (and_i (and_i (and_i (and_i (and_i (and_i (and_i (and_i (and_i (and_i (and_i (and_i (and_i (and_i (and_i (and_i (and_i (and_i (and_i (and_i (and_i (and_i (and_i (and_i (and_i (and_i (and_i (and_i (and_i (and_i (and_i (by as_aux_lemma => kernel_rfl) seatLaid) sf_maps) (by as_aux_lemma => kernel_rfl)) (by as_aux_lemma => kernel_rfl)) (by as_aux_lemma => kernel_rfl)) (by as_aux_lemma => kernel_rfl)) (by as_aux_lemma => kernel_rfl)) (by as_aux_lemma => kernel_rfl)) (by as_aux_lemma => kernel_rfl)) (by as_aux_lemma => kernel_rfl)) (by as_aux_lemma => kernel_rfl)) (by as_aux_lemma => kernel_rfl)) (by as_aux_lemma => kernel_rfl)) (by as_aux_lemma => kernel_rfl)) (by as_aux_lemma => kernel_rfl)) (by as_aux_lemma => kernel_rfl)) (by as_aux_lemma => kernel_rfl)) (by as_aux_lemma => kernel_rfl)) (by as_aux_lemma => kernel_rfl)) (by as_aux_lemma => kernel_rfl)) (by as_aux_lemma => kernel_rfl)) sf_plain) (by as_aux_lemma => kernel_rfl)) sf_heard) sf_enter) sf_lifts) sf_make) (by as_aux_lemma => kernel_rfl)) (by as_aux_lemma => kernel_rfl)) (by as_aux_lemma => kernel_rfl)) (by as_aux_lemma => kernel_rfl))

theorem over : Rows.fnExactSnapshotTextRow.holds Tryd.pinned (OpenSpec.ofChange Rows.fnExactSnapshotTextSpec) :=
  OpenClaim.holds_of_wide 4 Tryd.f4 rfl rfl rfl rfl rfl rfl rfl ⟨rfl, rfl, rfl, rfl, rfl⟩ rfl rfl rfl rfl rfl (by kernel_rfl) Tryd.func4 closed
    (of_decide_eq_true (by kernel_rfl)) (by unfold Func.isWrapper; first | (rw [if_pos (by decide +kernel)]; kernel_rfl) | (rw [if_neg (by decide +kernel)]; exact ⟨rfl, rfl⟩))
    (fun os started H enc _ => lifted os started H enc)

theorem proved : Rows.FnExactSnapshotTextCardSaid :=
  Claim7.holds_tied_plain_at .later [] [.data, .data, .data] true Rows.fnExactSnapshotTextCard.stood.harness false over (fun _ h => by cases h) (by kernel_rfl) (fun _ h => by cases h) fnExactSnapshotText_row_tie rfl ⟨rfl, rfl⟩ (by kernel_rfl) rfl
    (fun f fn hf hfn => by
      obtain rfl : f = 4 := Option.some.inj ((show Tryd.prog.funcNamed "loop.example/g03001/laws.FnExactSnapshotText" = some 4 by kernel_rfl).symm.trans hf) |>.symm
      obtain rfl : fn = Tryd.f4 := (Option.some.inj (Tryd.func4.symm.trans hfn)).symm
      exact ⟨by kernel_rfl, fun j t ht => by
        rw [Tryd.params4] at ht
        have hm : t ∈ [51] := by simpa using Array.mem_of_getElem? ht
        have hall : ([51].all fun u => !Tryd.prog.wantsStandIn u) = true := by kernel_rfl
        exact (show Tryd.prog.wantsStandIn t = false by simpa using List.all_eq_true.1 hall t hm)⟩)
    (by kernel_rfl)
#print axioms proved
end Go.Proofs.YtmelfgimhilhbaaDoor.fnExactSnapshotText
