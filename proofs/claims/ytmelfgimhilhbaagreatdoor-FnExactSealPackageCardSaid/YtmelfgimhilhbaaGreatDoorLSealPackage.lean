/- The law FnExactSealPackage answers true for every argument, and leaves each argument as it was. No condition. -/
import Derived.Test.YtmelfgimhilhbaaGreatDoorEFrame
import Derived.Deep.RegionHeld3
import Derived.Deep.DeepCutAuto
import Derived.Test.YtmelfgimhilhbaaGreatDoorFacts
import Derived.Test.YtmelfgimhilhbaaGreatDoorRPackage
import Derived.Test.YtmelfgimhilhbaaGreatDoorSealP
namespace Go.Proofs.YtmelfgimhilhbaaGreatDoor.fnExactSealPackage
open Go Go.ChangeShapes Go.WideShapes Go.ChangeAt Go.RowKit Go.Lib
open Go.ChangeMaps (open_string)
set_option linter.unusedVariables false
set_option linter.unusedSimpArgs false
set_option maxRecDepth 100000

set_option maxRecDepth 100000 in
set_option maxHeartbeats 20000000 in
theorem walk (a0 : Int) (p1_0 : Int) (p1_1 : Int) (p1_2 : Int) (l1_3 : List TGrant) (A1_3 : Option Addr) (n1_3 c1_3 : Nat) (l1_4 : List TFlow) (A1_4 : Option Addr) (n1_4 c1_4 : Nat) (l1_5 : List TRule) (A1_5 : Option Addr) (n1_5 c1_5 : Nat) (l1_6 : List TOp) (A1_6 : Option Addr) (n1_6 c1_6 : Nat) (p1_7 : Int) (w : World) (hT : Pow10 w) (wf0 : (Lit.int .i64 a0).wf = true) (wf1_0 : (Lit.int .i64 p1_0).wf = true) (wf1_1 : (Lit.int .i64 p1_1).wf = true) (wf1_2 : (Lit.int .i64 p1_2).wf = true) (hm1_3 : n1_3 ≤ maxLen) (R1_3 : Rd w 0 w.heap.size 7 A1_3 n1_3 (cGrant l1_3)) (H1_3 : Hid (cGrantOk l1_3)) (hm1_4 : n1_4 ≤ maxLen) (R1_4 : Rd w 0 w.heap.size 3 A1_4 n1_4 (cFlow l1_4)) (H1_4 : Hid (cFlowOk l1_4)) (hm1_5 : n1_5 ≤ maxLen) (R1_5 : Rd w 0 w.heap.size 8 A1_5 n1_5 (cRule l1_5)) (H1_5 : Hid (cRuleOk l1_5)) (hm1_6 : n1_6 ≤ maxLen) (R1_6 : Rd w 0 w.heap.size 4 A1_6 n1_6 (cOp l1_6)) (H1_6 : Hid (cOpOk l1_6)) (wf1_7 : (Lit.int .i64 p1_7).wf = true) :
    Calls Tryz.prog 4 #[.int .i64 a0, .agg #[.int .i64 p1_0, .int .i64 p1_1, .int .i64 p1_2, .slice A1_3 n1_3 c1_3, .slice A1_4 n1_4 c1_4, .slice A1_5 n1_5 c1_5, .slice A1_6 n1_6 c1_6, .int .i64 p1_7]] w fun e w' => e = .returned (.bool true) ∧ Below w.heap.size w w' := by
  have hm1_3 : n1_3 ≤ 9223372036854775807 := hm1_3
  have hm1_4 : n1_4 ≤ 9223372036854775807 := hm1_4
  have hm1_5 : n1_5 ≤ 9223372036854775807 := hm1_5
  have hm1_6 : n1_6 ≤ 9223372036854775807 := hm1_6
  have Wf0 := Lib.hid wf0
  clear wf0
  have Wf1_0 := Lib.hid wf1_0
  clear wf1_0
  have Wf1_1 := Lib.hid wf1_1
  clear wf1_1
  have Wf1_2 := Lib.hid wf1_2
  clear wf1_2
  have Wf1_7 := Lib.hid wf1_7
  clear wf1_7
  by_cases hz1 : n1_3 + n1_4 + n1_5 + n1_6 ≤ 1048576
  · skip
    have hl0 : (l1_3).length ≤ 1073741823 := by (have := rd_len TGrant.len R1_3 (by decide); omega)
    have hl1 : (l1_4).length ≤ 1073741823 := by (have := rd_len TFlow.len R1_4 (by decide); omega)
    have hl2 : (l1_5).length ≤ 1073741823 := by (have := rd_len TRule.len R1_5 (by decide); omega)
    have hl3 : (l1_6).length ≤ 1073741823 := by (have := rd_len TOp.len R1_6 (by decide); omega)
    have hqn1_3 : n1_3 ≤ 17179869184 := by omega
    have hqn1_4 : n1_4 ≤ 17179869184 := by omega
    have hqn1_5 : n1_5 ≤ 17179869184 := by omega
    have hqn1_6 : n1_6 ≤ 17179869184 := by omega
    have G : Below w.heap.size w (w.alloc (.cells #[.int .i64 p1_0, .int .i64 p1_1, .int .i64 p1_2, .slice A1_3 n1_3 c1_3, .slice A1_4 n1_4 c1_4, .slice A1_5 n1_5 c1_5, .slice A1_6 n1_6 c1_6, .int .i64 p1_7] 27)) := (Below.refl _ _).alloc (by simp) _
    have S0 := Lib.hid (show (w.alloc (.cells #[.int .i64 p1_0, .int .i64 p1_1, .int .i64 p1_2, .slice A1_3 n1_3 c1_3, .slice A1_4 n1_4 c1_4, .slice A1_5 n1_5 c1_5, .slice A1_6 n1_6 c1_6, .int .i64 p1_7] 27)).heap.size = w.heap.size + 1 by simp)
    replace R1_3 := R1_3.alloc (.cells #[.int .i64 p1_0, .int .i64 p1_1, .int .i64 p1_2, .slice A1_3 n1_3 c1_3, .slice A1_4 n1_4 c1_4, .slice A1_5 n1_5 c1_5, .slice A1_6 n1_6 c1_6, .int .i64 p1_7] 27)
    replace R1_4 := R1_4.alloc (.cells #[.int .i64 p1_0, .int .i64 p1_1, .int .i64 p1_2, .slice A1_3 n1_3 c1_3, .slice A1_4 n1_4 c1_4, .slice A1_5 n1_5 c1_5, .slice A1_6 n1_6 c1_6, .int .i64 p1_7] 27)
    replace R1_5 := R1_5.alloc (.cells #[.int .i64 p1_0, .int .i64 p1_1, .int .i64 p1_2, .slice A1_3 n1_3 c1_3, .slice A1_4 n1_4 c1_4, .slice A1_5 n1_5 c1_5, .slice A1_6 n1_6 c1_6, .int .i64 p1_7] 27)
    replace R1_6 := R1_6.alloc (.cells #[.int .i64 p1_0, .int .i64 p1_1, .int .i64 p1_2, .slice A1_3 n1_3 c1_3, .slice A1_4 n1_4 c1_4, .slice A1_5 n1_5 c1_5, .slice A1_6 n1_6 c1_6, .int .i64 p1_7] 27)
    have KB1 : BoxAt (w.alloc (.cells #[.int .i64 p1_0, .int .i64 p1_1, .int .i64 p1_2, .slice A1_3 n1_3 c1_3, .slice A1_4 n1_4 c1_4, .slice A1_5 n1_5 c1_5, .slice A1_6 n1_6 c1_6, .int .i64 p1_7] 27)) (w.heap.size) 27 #[.int .i64 p1_0, .int .i64 p1_1, .int .i64 p1_2, .slice A1_3 n1_3 c1_3, .slice A1_4 n1_4 c1_4, .slice A1_5 n1_5 c1_5, .slice A1_6 n1_6 c1_6, .int .i64 p1_7] := box_new _ _ _
    go_enter Tryz.func4, Tryz.ntmps4
    have xKB1_0 : (w.alloc (.cells #[.int .i64 p1_0, .int .i64 p1_1, .int .i64 p1_2, .slice A1_3 n1_3 c1_3, .slice A1_4 n1_4 c1_4, .slice A1_5 n1_5 c1_5, .slice A1_6 n1_6 c1_6, .int .i64 p1_7] 27)).cell? ⟨w.heap.size, 0, none⟩ = some (.int .i64 p1_0) := KB1.at_ rfl
    have xKB1_1 : (w.alloc (.cells #[.int .i64 p1_0, .int .i64 p1_1, .int .i64 p1_2, .slice A1_3 n1_3 c1_3, .slice A1_4 n1_4 c1_4, .slice A1_5 n1_5 c1_5, .slice A1_6 n1_6 c1_6, .int .i64 p1_7] 27)).cell? ⟨w.heap.size, 1, none⟩ = some (.int .i64 p1_1) := KB1.at_ rfl
    have xKB1_2 : (w.alloc (.cells #[.int .i64 p1_0, .int .i64 p1_1, .int .i64 p1_2, .slice A1_3 n1_3 c1_3, .slice A1_4 n1_4 c1_4, .slice A1_5 n1_5 c1_5, .slice A1_6 n1_6 c1_6, .int .i64 p1_7] 27)).cell? ⟨w.heap.size, 2, none⟩ = some (.int .i64 p1_2) := KB1.at_ rfl
    have xKB1_3 : (w.alloc (.cells #[.int .i64 p1_0, .int .i64 p1_1, .int .i64 p1_2, .slice A1_3 n1_3 c1_3, .slice A1_4 n1_4 c1_4, .slice A1_5 n1_5 c1_5, .slice A1_6 n1_6 c1_6, .int .i64 p1_7] 27)).cell? ⟨w.heap.size, 3, none⟩ = some (.slice A1_3 n1_3 c1_3) := KB1.at_ rfl
    have xKB1_4 : (w.alloc (.cells #[.int .i64 p1_0, .int .i64 p1_1, .int .i64 p1_2, .slice A1_3 n1_3 c1_3, .slice A1_4 n1_4 c1_4, .slice A1_5 n1_5 c1_5, .slice A1_6 n1_6 c1_6, .int .i64 p1_7] 27)).cell? ⟨w.heap.size, 4, none⟩ = some (.slice A1_4 n1_4 c1_4) := KB1.at_ rfl
    have xKB1_5 : (w.alloc (.cells #[.int .i64 p1_0, .int .i64 p1_1, .int .i64 p1_2, .slice A1_3 n1_3 c1_3, .slice A1_4 n1_4 c1_4, .slice A1_5 n1_5 c1_5, .slice A1_6 n1_6 c1_6, .int .i64 p1_7] 27)).cell? ⟨w.heap.size, 5, none⟩ = some (.slice A1_5 n1_5 c1_5) := KB1.at_ rfl
    have xKB1_6 : (w.alloc (.cells #[.int .i64 p1_0, .int .i64 p1_1, .int .i64 p1_2, .slice A1_3 n1_3 c1_3, .slice A1_4 n1_4 c1_4, .slice A1_5 n1_5 c1_5, .slice A1_6 n1_6 c1_6, .int .i64 p1_7] 27)).cell? ⟨w.heap.size, 6, none⟩ = some (.slice A1_6 n1_6 c1_6) := KB1.at_ rfl
    have xKB1_7 : (w.alloc (.cells #[.int .i64 p1_0, .int .i64 p1_1, .int .i64 p1_2, .slice A1_3 n1_3 c1_3, .slice A1_4 n1_4 c1_4, .slice A1_5 n1_5 c1_5, .slice A1_6 n1_6 c1_6, .int .i64 p1_7] 27)).cell? ⟨w.heap.size, 7, none⟩ = some (.int .i64 p1_7) := KB1.at_ rfl
    go_wp2_with fail
    refine Calls.mono (sz_package p1_0 p1_1 p1_2 A1_3 n1_3 c1_3 A1_4 n1_4 c1_4 A1_5 n1_5 c1_5 A1_6 n1_6 c1_6 p1_7 (1048576) _ hm1_3 hm1_4 hm1_5 hm1_6 (by omega) (by omega)) ?_
    rintro e w1 ⟨rfl, B1⟩
    replace R1_3 := (R1_3).new B1
    replace R1_4 := (R1_4).new B1
    replace R1_5 := (R1_5).new B1
    replace R1_6 := (R1_6).new B1
    replace KB1 := (KB1).new B1
    replace G := below_trans G B1 (Nat.le_refl _)
    have S1 := Lib.hid (show (w.alloc (.cells #[.int .i64 p1_0, .int .i64 p1_1, .int .i64 p1_2, .slice A1_3 n1_3 c1_3, .slice A1_4 n1_4 c1_4, .slice A1_5 n1_5 c1_5, .slice A1_6 n1_6 c1_6, .int .i64 p1_7] 27)).heap.size + 0 ≤ w1.heap.size by have := B1.size; first | (simpa using this) | ((try simp at this); omega))
    clear B1
    clear xKB1_0 xKB1_1 xKB1_2 xKB1_3 xKB1_4 xKB1_5 xKB1_6 xKB1_7
    have xKB1_0 : w1.cell? ⟨w.heap.size, 0, none⟩ = some (.int .i64 p1_0) := KB1.at_ rfl
    have xKB1_1 : w1.cell? ⟨w.heap.size, 1, none⟩ = some (.int .i64 p1_1) := KB1.at_ rfl
    have xKB1_2 : w1.cell? ⟨w.heap.size, 2, none⟩ = some (.int .i64 p1_2) := KB1.at_ rfl
    have xKB1_3 : w1.cell? ⟨w.heap.size, 3, none⟩ = some (.slice A1_3 n1_3 c1_3) := KB1.at_ rfl
    have xKB1_4 : w1.cell? ⟨w.heap.size, 4, none⟩ = some (.slice A1_4 n1_4 c1_4) := KB1.at_ rfl
    have xKB1_5 : w1.cell? ⟨w.heap.size, 5, none⟩ = some (.slice A1_5 n1_5 c1_5) := KB1.at_ rfl
    have xKB1_6 : w1.cell? ⟨w.heap.size, 6, none⟩ = some (.slice A1_6 n1_6 c1_6) := KB1.at_ rfl
    have xKB1_7 : w1.cell? ⟨w.heap.size, 7, none⟩ = some (.int .i64 p1_7) := KB1.at_ rfl
    go_wp2_with fail
    refine Calls.mono (to_package p1_0 p1_1 p1_2 l1_3 A1_3 n1_3 c1_3 _ _ l1_4 A1_4 n1_4 c1_4 _ _ l1_5 A1_5 n1_5 c1_5 _ _ l1_6 A1_6 n1_6 c1_6 _ _ p1_7 _ hqn1_3 R1_3 hqn1_4 R1_4 hqn1_5 R1_5 hqn1_6 R1_6) ?_
    rintro e w2 ⟨T2_3, T2_4, T2_5, T2_6, tc2_3, tlo2_3, thi2_3, tc2_4, tlo2_4, thi2_4, tc2_5, tlo2_5, thi2_5, tc2_6, tlo2_6, thi2_6, rfl, FT2_3, FT2_4, FT2_5, FT2_6, MT2, B2⟩
    replace R1_3 := (R1_3).new B2
    replace R1_4 := (R1_4).new B2
    replace R1_5 := (R1_5).new B2
    replace R1_6 := (R1_6).new B2
    replace KB1 := (KB1).new B2
    replace G := below_trans G B2 (Nat.le_refl _)
    have S2 := Lib.hid (show w1.heap.size + 0 ≤ w2.heap.size by have := B2.size; first | (simpa using this) | ((try simp at this); omega))
    clear B2
    clear xKB1_0 xKB1_1 xKB1_2 xKB1_3 xKB1_4 xKB1_5 xKB1_6 xKB1_7
    go_wp2_with fail
    refine Calls.mono (spec_SealPackage a0 p1_0 p1_1 p1_2 l1_3 T2_3 n1_3 tc2_3 _ _ l1_4 T2_4 n1_4 tc2_4 _ _ l1_5 T2_5 n1_5 tc2_5 _ _ l1_6 T2_6 n1_6 tc2_6 _ _ p1_7 _ (pow10_below hT G) Wf0.out (by omega) FT2_3.rd FT2_3.cap H1_3 (by omega) FT2_4.rd FT2_4.cap H1_4 (by omega) FT2_5.rd FT2_5.cap H1_5 (by omega) FT2_6.rd FT2_6.cap H1_6) ?_
    rintro e w3 ⟨P3_0_3, P3_0_4, P3_0_5, P3_0_6, pc3_0_3, plo3_0_3, phi3_0_3, pc3_0_4, plo3_0_4, phi3_0_4, pc3_0_5, plo3_0_5, phi3_0_5, pc3_0_6, plo3_0_6, phi3_0_6, rfl, FP3_0_3, FP3_0_4, FP3_0_5, FP3_0_6, MP3_0, B3⟩
    replace R1_3 := (R1_3).new B3
    replace R1_4 := (R1_4).new B3
    replace R1_5 := (R1_5).new B3
    replace R1_6 := (R1_6).new B3
    replace KB1 := (KB1).new B3
    replace FT2_3 := (FT2_3).new B3
    replace FT2_4 := (FT2_4).new B3
    replace FT2_5 := (FT2_5).new B3
    replace FT2_6 := (FT2_6).new B3
    replace G := below_trans G B3 (Nat.le_refl _)
    have S3 := Lib.hid (show w2.heap.size + 0 ≤ w3.heap.size by have := B3.size; first | (simpa using this) | ((try simp at this); omega))
    clear B3
    clear FT2_3
    clear FT2_4
    clear FT2_5
    clear FT2_6
    have SA5 := Lib.hid (show (w3.alloc (.cells #[.int .i64 p1_0, .int .i64 p1_1, .int .i64 p1_2, .slice P3_0_3 ((l1_3).length) pc3_0_3, .slice P3_0_4 ((l1_4).length) pc3_0_4, .slice P3_0_5 ((l1_5).length) pc3_0_5, .slice P3_0_6 ((l1_6).length) pc3_0_6, .int .i64 (mSealPk a0 p1_0 p1_1 p1_2 l1_3 l1_4 l1_5 l1_6)] 39)).heap.size = w3.heap.size + 1 by simp)
    replace R1_3 := R1_3.alloc (.cells #[.int .i64 p1_0, .int .i64 p1_1, .int .i64 p1_2, .slice P3_0_3 ((l1_3).length) pc3_0_3, .slice P3_0_4 ((l1_4).length) pc3_0_4, .slice P3_0_5 ((l1_5).length) pc3_0_5, .slice P3_0_6 ((l1_6).length) pc3_0_6, .int .i64 (mSealPk a0 p1_0 p1_1 p1_2 l1_3 l1_4 l1_5 l1_6)] 39)
    replace R1_4 := R1_4.alloc (.cells #[.int .i64 p1_0, .int .i64 p1_1, .int .i64 p1_2, .slice P3_0_3 ((l1_3).length) pc3_0_3, .slice P3_0_4 ((l1_4).length) pc3_0_4, .slice P3_0_5 ((l1_5).length) pc3_0_5, .slice P3_0_6 ((l1_6).length) pc3_0_6, .int .i64 (mSealPk a0 p1_0 p1_1 p1_2 l1_3 l1_4 l1_5 l1_6)] 39)
    replace R1_5 := R1_5.alloc (.cells #[.int .i64 p1_0, .int .i64 p1_1, .int .i64 p1_2, .slice P3_0_3 ((l1_3).length) pc3_0_3, .slice P3_0_4 ((l1_4).length) pc3_0_4, .slice P3_0_5 ((l1_5).length) pc3_0_5, .slice P3_0_6 ((l1_6).length) pc3_0_6, .int .i64 (mSealPk a0 p1_0 p1_1 p1_2 l1_3 l1_4 l1_5 l1_6)] 39)
    replace R1_6 := R1_6.alloc (.cells #[.int .i64 p1_0, .int .i64 p1_1, .int .i64 p1_2, .slice P3_0_3 ((l1_3).length) pc3_0_3, .slice P3_0_4 ((l1_4).length) pc3_0_4, .slice P3_0_5 ((l1_5).length) pc3_0_5, .slice P3_0_6 ((l1_6).length) pc3_0_6, .int .i64 (mSealPk a0 p1_0 p1_1 p1_2 l1_3 l1_4 l1_5 l1_6)] 39)
    replace KB1 := KB1.alloc_ (.cells #[.int .i64 p1_0, .int .i64 p1_1, .int .i64 p1_2, .slice P3_0_3 ((l1_3).length) pc3_0_3, .slice P3_0_4 ((l1_4).length) pc3_0_4, .slice P3_0_5 ((l1_5).length) pc3_0_5, .slice P3_0_6 ((l1_6).length) pc3_0_6, .int .i64 (mSealPk a0 p1_0 p1_1 p1_2 l1_3 l1_4 l1_5 l1_6)] 39)
    replace FP3_0_3 := FP3_0_3.alloc (.cells #[.int .i64 p1_0, .int .i64 p1_1, .int .i64 p1_2, .slice P3_0_3 ((l1_3).length) pc3_0_3, .slice P3_0_4 ((l1_4).length) pc3_0_4, .slice P3_0_5 ((l1_5).length) pc3_0_5, .slice P3_0_6 ((l1_6).length) pc3_0_6, .int .i64 (mSealPk a0 p1_0 p1_1 p1_2 l1_3 l1_4 l1_5 l1_6)] 39)
    replace FP3_0_4 := FP3_0_4.alloc (.cells #[.int .i64 p1_0, .int .i64 p1_1, .int .i64 p1_2, .slice P3_0_3 ((l1_3).length) pc3_0_3, .slice P3_0_4 ((l1_4).length) pc3_0_4, .slice P3_0_5 ((l1_5).length) pc3_0_5, .slice P3_0_6 ((l1_6).length) pc3_0_6, .int .i64 (mSealPk a0 p1_0 p1_1 p1_2 l1_3 l1_4 l1_5 l1_6)] 39)
    replace FP3_0_5 := FP3_0_5.alloc (.cells #[.int .i64 p1_0, .int .i64 p1_1, .int .i64 p1_2, .slice P3_0_3 ((l1_3).length) pc3_0_3, .slice P3_0_4 ((l1_4).length) pc3_0_4, .slice P3_0_5 ((l1_5).length) pc3_0_5, .slice P3_0_6 ((l1_6).length) pc3_0_6, .int .i64 (mSealPk a0 p1_0 p1_1 p1_2 l1_3 l1_4 l1_5 l1_6)] 39)
    replace FP3_0_6 := FP3_0_6.alloc (.cells #[.int .i64 p1_0, .int .i64 p1_1, .int .i64 p1_2, .slice P3_0_3 ((l1_3).length) pc3_0_3, .slice P3_0_4 ((l1_4).length) pc3_0_4, .slice P3_0_5 ((l1_5).length) pc3_0_5, .slice P3_0_6 ((l1_6).length) pc3_0_6, .int .i64 (mSealPk a0 p1_0 p1_1 p1_2 l1_3 l1_4 l1_5 l1_6)] 39)
    have KX4 : BoxAt (w3.alloc (.cells #[.int .i64 p1_0, .int .i64 p1_1, .int .i64 p1_2, .slice P3_0_3 ((l1_3).length) pc3_0_3, .slice P3_0_4 ((l1_4).length) pc3_0_4, .slice P3_0_5 ((l1_5).length) pc3_0_5, .slice P3_0_6 ((l1_6).length) pc3_0_6, .int .i64 (mSealPk a0 p1_0 p1_1 p1_2 l1_3 l1_4 l1_5 l1_6)] 39)) (w3.heap.size) 39 #[.int .i64 p1_0, .int .i64 p1_1, .int .i64 p1_2, .slice P3_0_3 ((l1_3).length) pc3_0_3, .slice P3_0_4 ((l1_4).length) pc3_0_4, .slice P3_0_5 ((l1_5).length) pc3_0_5, .slice P3_0_6 ((l1_6).length) pc3_0_6, .int .i64 (mSealPk a0 p1_0 p1_1 p1_2 l1_3 l1_4 l1_5 l1_6)] := box_new _ _ _
    replace G := G.alloc (by have := S0.out; have := S1.out; have := S2.out; have := S3.out; have := SA5.out; have := SepPackage_bd MT2.out; have := SepPackage_bd MP3_0.out; first | omega | (simp; omega)) (.cells #[.int .i64 p1_0, .int .i64 p1_1, .int .i64 p1_2, .slice P3_0_3 ((l1_3).length) pc3_0_3, .slice P3_0_4 ((l1_4).length) pc3_0_4, .slice P3_0_5 ((l1_5).length) pc3_0_5, .slice P3_0_6 ((l1_6).length) pc3_0_6, .int .i64 (mSealPk a0 p1_0 p1_1 p1_2 l1_3 l1_4 l1_5 l1_6)] 39)
    have xKB1_0 : (w3.alloc (.cells #[.int .i64 p1_0, .int .i64 p1_1, .int .i64 p1_2, .slice P3_0_3 ((l1_3).length) pc3_0_3, .slice P3_0_4 ((l1_4).length) pc3_0_4, .slice P3_0_5 ((l1_5).length) pc3_0_5, .slice P3_0_6 ((l1_6).length) pc3_0_6, .int .i64 (mSealPk a0 p1_0 p1_1 p1_2 l1_3 l1_4 l1_5 l1_6)] 39)).cell? ⟨w.heap.size, 0, none⟩ = some (.int .i64 p1_0) := KB1.at_ rfl
    have xKB1_1 : (w3.alloc (.cells #[.int .i64 p1_0, .int .i64 p1_1, .int .i64 p1_2, .slice P3_0_3 ((l1_3).length) pc3_0_3, .slice P3_0_4 ((l1_4).length) pc3_0_4, .slice P3_0_5 ((l1_5).length) pc3_0_5, .slice P3_0_6 ((l1_6).length) pc3_0_6, .int .i64 (mSealPk a0 p1_0 p1_1 p1_2 l1_3 l1_4 l1_5 l1_6)] 39)).cell? ⟨w.heap.size, 1, none⟩ = some (.int .i64 p1_1) := KB1.at_ rfl
    have xKB1_2 : (w3.alloc (.cells #[.int .i64 p1_0, .int .i64 p1_1, .int .i64 p1_2, .slice P3_0_3 ((l1_3).length) pc3_0_3, .slice P3_0_4 ((l1_4).length) pc3_0_4, .slice P3_0_5 ((l1_5).length) pc3_0_5, .slice P3_0_6 ((l1_6).length) pc3_0_6, .int .i64 (mSealPk a0 p1_0 p1_1 p1_2 l1_3 l1_4 l1_5 l1_6)] 39)).cell? ⟨w.heap.size, 2, none⟩ = some (.int .i64 p1_2) := KB1.at_ rfl
    have xKB1_3 : (w3.alloc (.cells #[.int .i64 p1_0, .int .i64 p1_1, .int .i64 p1_2, .slice P3_0_3 ((l1_3).length) pc3_0_3, .slice P3_0_4 ((l1_4).length) pc3_0_4, .slice P3_0_5 ((l1_5).length) pc3_0_5, .slice P3_0_6 ((l1_6).length) pc3_0_6, .int .i64 (mSealPk a0 p1_0 p1_1 p1_2 l1_3 l1_4 l1_5 l1_6)] 39)).cell? ⟨w.heap.size, 3, none⟩ = some (.slice A1_3 n1_3 c1_3) := KB1.at_ rfl
    have xKB1_4 : (w3.alloc (.cells #[.int .i64 p1_0, .int .i64 p1_1, .int .i64 p1_2, .slice P3_0_3 ((l1_3).length) pc3_0_3, .slice P3_0_4 ((l1_4).length) pc3_0_4, .slice P3_0_5 ((l1_5).length) pc3_0_5, .slice P3_0_6 ((l1_6).length) pc3_0_6, .int .i64 (mSealPk a0 p1_0 p1_1 p1_2 l1_3 l1_4 l1_5 l1_6)] 39)).cell? ⟨w.heap.size, 4, none⟩ = some (.slice A1_4 n1_4 c1_4) := KB1.at_ rfl
    have xKB1_5 : (w3.alloc (.cells #[.int .i64 p1_0, .int .i64 p1_1, .int .i64 p1_2, .slice P3_0_3 ((l1_3).length) pc3_0_3, .slice P3_0_4 ((l1_4).length) pc3_0_4, .slice P3_0_5 ((l1_5).length) pc3_0_5, .slice P3_0_6 ((l1_6).length) pc3_0_6, .int .i64 (mSealPk a0 p1_0 p1_1 p1_2 l1_3 l1_4 l1_5 l1_6)] 39)).cell? ⟨w.heap.size, 5, none⟩ = some (.slice A1_5 n1_5 c1_5) := KB1.at_ rfl
    have xKB1_6 : (w3.alloc (.cells #[.int .i64 p1_0, .int .i64 p1_1, .int .i64 p1_2, .slice P3_0_3 ((l1_3).length) pc3_0_3, .slice P3_0_4 ((l1_4).length) pc3_0_4, .slice P3_0_5 ((l1_5).length) pc3_0_5, .slice P3_0_6 ((l1_6).length) pc3_0_6, .int .i64 (mSealPk a0 p1_0 p1_1 p1_2 l1_3 l1_4 l1_5 l1_6)] 39)).cell? ⟨w.heap.size, 6, none⟩ = some (.slice A1_6 n1_6 c1_6) := KB1.at_ rfl
    have xKB1_7 : (w3.alloc (.cells #[.int .i64 p1_0, .int .i64 p1_1, .int .i64 p1_2, .slice P3_0_3 ((l1_3).length) pc3_0_3, .slice P3_0_4 ((l1_4).length) pc3_0_4, .slice P3_0_5 ((l1_5).length) pc3_0_5, .slice P3_0_6 ((l1_6).length) pc3_0_6, .int .i64 (mSealPk a0 p1_0 p1_1 p1_2 l1_3 l1_4 l1_5 l1_6)] 39)).cell? ⟨w.heap.size, 7, none⟩ = some (.int .i64 p1_7) := KB1.at_ rfl
    go_wp2_with fail
    refine Calls.mono (to_package p1_0 p1_1 p1_2 l1_3 A1_3 n1_3 c1_3 _ _ l1_4 A1_4 n1_4 c1_4 _ _ l1_5 A1_5 n1_5 c1_5 _ _ l1_6 A1_6 n1_6 c1_6 _ _ p1_7 _ hqn1_3 R1_3 hqn1_4 R1_4 hqn1_5 R1_5 hqn1_6 R1_6) ?_
    rintro e w4 ⟨T6_3, T6_4, T6_5, T6_6, tc6_3, tlo6_3, thi6_3, tc6_4, tlo6_4, thi6_4, tc6_5, tlo6_5, thi6_5, tc6_6, tlo6_6, thi6_6, rfl, FT6_3, FT6_4, FT6_5, FT6_6, MT6, B6⟩
    replace R1_3 := (R1_3).new B6
    replace R1_4 := (R1_4).new B6
    replace R1_5 := (R1_5).new B6
    replace R1_6 := (R1_6).new B6
    replace KB1 := (KB1).new B6
    replace FP3_0_3 := (FP3_0_3).new B6
    replace FP3_0_4 := (FP3_0_4).new B6
    replace FP3_0_5 := (FP3_0_5).new B6
    replace FP3_0_6 := (FP3_0_6).new B6
    replace KX4 := (KX4).new B6
    replace G := below_trans G B6 (Nat.le_refl _)
    have S4 := Lib.hid (show (w3.alloc (.cells #[.int .i64 p1_0, .int .i64 p1_1, .int .i64 p1_2, .slice P3_0_3 ((l1_3).length) pc3_0_3, .slice P3_0_4 ((l1_4).length) pc3_0_4, .slice P3_0_5 ((l1_5).length) pc3_0_5, .slice P3_0_6 ((l1_6).length) pc3_0_6, .int .i64 (mSealPk a0 p1_0 p1_1 p1_2 l1_3 l1_4 l1_5 l1_6)] 39)).heap.size + 0 ≤ w4.heap.size by have := B6.size; first | (simpa using this) | ((try simp at this); omega))
    clear B6
    clear xKB1_0 xKB1_1 xKB1_2 xKB1_3 xKB1_4 xKB1_5 xKB1_6 xKB1_7
    have SA8 := Lib.hid (show (w4.alloc (.cells #[.int .i64 p1_0, .int .i64 p1_1, .int .i64 p1_2, .slice T6_3 n1_3 tc6_3, .slice T6_4 n1_4 tc6_4, .slice T6_5 n1_5 tc6_5, .slice T6_6 n1_6 tc6_6, .int .i64 p1_7] 39)).heap.size = w4.heap.size + 1 by simp)
    replace R1_3 := R1_3.alloc (.cells #[.int .i64 p1_0, .int .i64 p1_1, .int .i64 p1_2, .slice T6_3 n1_3 tc6_3, .slice T6_4 n1_4 tc6_4, .slice T6_5 n1_5 tc6_5, .slice T6_6 n1_6 tc6_6, .int .i64 p1_7] 39)
    replace R1_4 := R1_4.alloc (.cells #[.int .i64 p1_0, .int .i64 p1_1, .int .i64 p1_2, .slice T6_3 n1_3 tc6_3, .slice T6_4 n1_4 tc6_4, .slice T6_5 n1_5 tc6_5, .slice T6_6 n1_6 tc6_6, .int .i64 p1_7] 39)
    replace R1_5 := R1_5.alloc (.cells #[.int .i64 p1_0, .int .i64 p1_1, .int .i64 p1_2, .slice T6_3 n1_3 tc6_3, .slice T6_4 n1_4 tc6_4, .slice T6_5 n1_5 tc6_5, .slice T6_6 n1_6 tc6_6, .int .i64 p1_7] 39)
    replace R1_6 := R1_6.alloc (.cells #[.int .i64 p1_0, .int .i64 p1_1, .int .i64 p1_2, .slice T6_3 n1_3 tc6_3, .slice T6_4 n1_4 tc6_4, .slice T6_5 n1_5 tc6_5, .slice T6_6 n1_6 tc6_6, .int .i64 p1_7] 39)
    replace KB1 := KB1.alloc_ (.cells #[.int .i64 p1_0, .int .i64 p1_1, .int .i64 p1_2, .slice T6_3 n1_3 tc6_3, .slice T6_4 n1_4 tc6_4, .slice T6_5 n1_5 tc6_5, .slice T6_6 n1_6 tc6_6, .int .i64 p1_7] 39)
    replace FP3_0_3 := FP3_0_3.alloc (.cells #[.int .i64 p1_0, .int .i64 p1_1, .int .i64 p1_2, .slice T6_3 n1_3 tc6_3, .slice T6_4 n1_4 tc6_4, .slice T6_5 n1_5 tc6_5, .slice T6_6 n1_6 tc6_6, .int .i64 p1_7] 39)
    replace FP3_0_4 := FP3_0_4.alloc (.cells #[.int .i64 p1_0, .int .i64 p1_1, .int .i64 p1_2, .slice T6_3 n1_3 tc6_3, .slice T6_4 n1_4 tc6_4, .slice T6_5 n1_5 tc6_5, .slice T6_6 n1_6 tc6_6, .int .i64 p1_7] 39)
    replace FP3_0_5 := FP3_0_5.alloc (.cells #[.int .i64 p1_0, .int .i64 p1_1, .int .i64 p1_2, .slice T6_3 n1_3 tc6_3, .slice T6_4 n1_4 tc6_4, .slice T6_5 n1_5 tc6_5, .slice T6_6 n1_6 tc6_6, .int .i64 p1_7] 39)
    replace FP3_0_6 := FP3_0_6.alloc (.cells #[.int .i64 p1_0, .int .i64 p1_1, .int .i64 p1_2, .slice T6_3 n1_3 tc6_3, .slice T6_4 n1_4 tc6_4, .slice T6_5 n1_5 tc6_5, .slice T6_6 n1_6 tc6_6, .int .i64 p1_7] 39)
    replace KX4 := KX4.alloc_ (.cells #[.int .i64 p1_0, .int .i64 p1_1, .int .i64 p1_2, .slice T6_3 n1_3 tc6_3, .slice T6_4 n1_4 tc6_4, .slice T6_5 n1_5 tc6_5, .slice T6_6 n1_6 tc6_6, .int .i64 p1_7] 39)
    replace FT6_3 := FT6_3.alloc (.cells #[.int .i64 p1_0, .int .i64 p1_1, .int .i64 p1_2, .slice T6_3 n1_3 tc6_3, .slice T6_4 n1_4 tc6_4, .slice T6_5 n1_5 tc6_5, .slice T6_6 n1_6 tc6_6, .int .i64 p1_7] 39)
    replace FT6_4 := FT6_4.alloc (.cells #[.int .i64 p1_0, .int .i64 p1_1, .int .i64 p1_2, .slice T6_3 n1_3 tc6_3, .slice T6_4 n1_4 tc6_4, .slice T6_5 n1_5 tc6_5, .slice T6_6 n1_6 tc6_6, .int .i64 p1_7] 39)
    replace FT6_5 := FT6_5.alloc (.cells #[.int .i64 p1_0, .int .i64 p1_1, .int .i64 p1_2, .slice T6_3 n1_3 tc6_3, .slice T6_4 n1_4 tc6_4, .slice T6_5 n1_5 tc6_5, .slice T6_6 n1_6 tc6_6, .int .i64 p1_7] 39)
    replace FT6_6 := FT6_6.alloc (.cells #[.int .i64 p1_0, .int .i64 p1_1, .int .i64 p1_2, .slice T6_3 n1_3 tc6_3, .slice T6_4 n1_4 tc6_4, .slice T6_5 n1_5 tc6_5, .slice T6_6 n1_6 tc6_6, .int .i64 p1_7] 39)
    have KX7 : BoxAt (w4.alloc (.cells #[.int .i64 p1_0, .int .i64 p1_1, .int .i64 p1_2, .slice T6_3 n1_3 tc6_3, .slice T6_4 n1_4 tc6_4, .slice T6_5 n1_5 tc6_5, .slice T6_6 n1_6 tc6_6, .int .i64 p1_7] 39)) (w4.heap.size) 39 #[.int .i64 p1_0, .int .i64 p1_1, .int .i64 p1_2, .slice T6_3 n1_3 tc6_3, .slice T6_4 n1_4 tc6_4, .slice T6_5 n1_5 tc6_5, .slice T6_6 n1_6 tc6_6, .int .i64 p1_7] := box_new _ _ _
    replace G := G.alloc (by have := S0.out; have := S1.out; have := S2.out; have := S3.out; have := SA5.out; have := S4.out; have := SA8.out; have := SepPackage_bd MT2.out; have := SepPackage_bd MP3_0.out; have := SepPackage_bd MT6.out; first | omega | (simp; omega)) (.cells #[.int .i64 p1_0, .int .i64 p1_1, .int .i64 p1_2, .slice T6_3 n1_3 tc6_3, .slice T6_4 n1_4 tc6_4, .slice T6_5 n1_5 tc6_5, .slice T6_6 n1_6 tc6_6, .int .i64 p1_7] 39)
    have xKX7_0 : (w4.alloc (.cells #[.int .i64 p1_0, .int .i64 p1_1, .int .i64 p1_2, .slice T6_3 n1_3 tc6_3, .slice T6_4 n1_4 tc6_4, .slice T6_5 n1_5 tc6_5, .slice T6_6 n1_6 tc6_6, .int .i64 p1_7] 39)).cell? ⟨w4.heap.size, 0, none⟩ = some (.int .i64 p1_0) := KX7.at_ rfl
    have xKX7_1 : (w4.alloc (.cells #[.int .i64 p1_0, .int .i64 p1_1, .int .i64 p1_2, .slice T6_3 n1_3 tc6_3, .slice T6_4 n1_4 tc6_4, .slice T6_5 n1_5 tc6_5, .slice T6_6 n1_6 tc6_6, .int .i64 p1_7] 39)).cell? ⟨w4.heap.size, 1, none⟩ = some (.int .i64 p1_1) := KX7.at_ rfl
    have xKX7_2 : (w4.alloc (.cells #[.int .i64 p1_0, .int .i64 p1_1, .int .i64 p1_2, .slice T6_3 n1_3 tc6_3, .slice T6_4 n1_4 tc6_4, .slice T6_5 n1_5 tc6_5, .slice T6_6 n1_6 tc6_6, .int .i64 p1_7] 39)).cell? ⟨w4.heap.size, 2, none⟩ = some (.int .i64 p1_2) := KX7.at_ rfl
    have xKX7_3 : (w4.alloc (.cells #[.int .i64 p1_0, .int .i64 p1_1, .int .i64 p1_2, .slice T6_3 n1_3 tc6_3, .slice T6_4 n1_4 tc6_4, .slice T6_5 n1_5 tc6_5, .slice T6_6 n1_6 tc6_6, .int .i64 p1_7] 39)).cell? ⟨w4.heap.size, 3, none⟩ = some (.slice T6_3 n1_3 tc6_3) := KX7.at_ rfl
    have xKX7_4 : (w4.alloc (.cells #[.int .i64 p1_0, .int .i64 p1_1, .int .i64 p1_2, .slice T6_3 n1_3 tc6_3, .slice T6_4 n1_4 tc6_4, .slice T6_5 n1_5 tc6_5, .slice T6_6 n1_6 tc6_6, .int .i64 p1_7] 39)).cell? ⟨w4.heap.size, 4, none⟩ = some (.slice T6_4 n1_4 tc6_4) := KX7.at_ rfl
    have xKX7_5 : (w4.alloc (.cells #[.int .i64 p1_0, .int .i64 p1_1, .int .i64 p1_2, .slice T6_3 n1_3 tc6_3, .slice T6_4 n1_4 tc6_4, .slice T6_5 n1_5 tc6_5, .slice T6_6 n1_6 tc6_6, .int .i64 p1_7] 39)).cell? ⟨w4.heap.size, 5, none⟩ = some (.slice T6_5 n1_5 tc6_5) := KX7.at_ rfl
    have xKX7_6 : (w4.alloc (.cells #[.int .i64 p1_0, .int .i64 p1_1, .int .i64 p1_2, .slice T6_3 n1_3 tc6_3, .slice T6_4 n1_4 tc6_4, .slice T6_5 n1_5 tc6_5, .slice T6_6 n1_6 tc6_6, .int .i64 p1_7] 39)).cell? ⟨w4.heap.size, 6, none⟩ = some (.slice T6_6 n1_6 tc6_6) := KX7.at_ rfl
    have xKX7_7 : (w4.alloc (.cells #[.int .i64 p1_0, .int .i64 p1_1, .int .i64 p1_2, .slice T6_3 n1_3 tc6_3, .slice T6_4 n1_4 tc6_4, .slice T6_5 n1_5 tc6_5, .slice T6_6 n1_6 tc6_6, .int .i64 p1_7] 39)).cell? ⟨w4.heap.size, 7, none⟩ = some (.int .i64 p1_7) := KX7.at_ rfl
    go_wp2_with fail
    refine Calls.mono (impl_SealPackageC a0 p1_0 p1_1 p1_2 l1_3 T6_3 n1_3 tc6_3 _ _ l1_4 T6_4 n1_4 tc6_4 _ _ l1_5 T6_5 n1_5 tc6_5 _ _ l1_6 T6_6 n1_6 tc6_6 _ _ p1_7 _ (pow10_below hT G) Wf0.out (by omega) FT6_3.rd FT6_3.cap H1_3 (by omega) FT6_4.rd FT6_4.cap H1_4 (by omega) FT6_5.rd FT6_5.cap H1_5 (by omega) FT6_6.rd FT6_6.cap H1_6) ?_
    rintro e w5 ⟨P9_0_3, P9_0_4, P9_0_5, P9_0_6, pc9_0_3, plo9_0_3, phi9_0_3, pc9_0_4, plo9_0_4, phi9_0_4, pc9_0_5, plo9_0_5, phi9_0_5, pc9_0_6, plo9_0_6, phi9_0_6, rfl, FP9_0_3, FP9_0_4, FP9_0_5, FP9_0_6, MP9_0, B9⟩
    replace R1_3 := (R1_3).new B9
    replace R1_4 := (R1_4).new B9
    replace R1_5 := (R1_5).new B9
    replace R1_6 := (R1_6).new B9
    replace KB1 := (KB1).new B9
    replace FP3_0_3 := (FP3_0_3).new B9
    replace FP3_0_4 := (FP3_0_4).new B9
    replace FP3_0_5 := (FP3_0_5).new B9
    replace FP3_0_6 := (FP3_0_6).new B9
    replace KX4 := (KX4).new B9
    replace FT6_3 := (FT6_3).new B9
    replace FT6_4 := (FT6_4).new B9
    replace FT6_5 := (FT6_5).new B9
    replace FT6_6 := (FT6_6).new B9
    replace KX7 := (KX7).new B9
    replace G := below_trans G B9 (Nat.le_refl _)
    have S5 := Lib.hid (show (w4.alloc (.cells #[.int .i64 p1_0, .int .i64 p1_1, .int .i64 p1_2, .slice T6_3 n1_3 tc6_3, .slice T6_4 n1_4 tc6_4, .slice T6_5 n1_5 tc6_5, .slice T6_6 n1_6 tc6_6, .int .i64 p1_7] 39)).heap.size + 0 ≤ w5.heap.size by have := B9.size; first | (simpa using this) | ((try simp at this); omega))
    clear B9
    clear xKX7_0 xKX7_1 xKX7_2 xKX7_3 xKX7_4 xKX7_5 xKX7_6 xKX7_7
    have SA11 := Lib.hid (show (w5.alloc (.cells #[.int .i64 p1_0, .int .i64 p1_1, .int .i64 p1_2, .slice P9_0_3 ((l1_3).length) pc9_0_3, .slice P9_0_4 ((l1_4).length) pc9_0_4, .slice P9_0_5 ((l1_5).length) pc9_0_5, .slice P9_0_6 ((l1_6).length) pc9_0_6, .int .i64 (mSealPk a0 p1_0 p1_1 p1_2 l1_3 l1_4 l1_5 l1_6)] 39)).heap.size = w5.heap.size + 1 by simp)
    replace R1_3 := R1_3.alloc (.cells #[.int .i64 p1_0, .int .i64 p1_1, .int .i64 p1_2, .slice P9_0_3 ((l1_3).length) pc9_0_3, .slice P9_0_4 ((l1_4).length) pc9_0_4, .slice P9_0_5 ((l1_5).length) pc9_0_5, .slice P9_0_6 ((l1_6).length) pc9_0_6, .int .i64 (mSealPk a0 p1_0 p1_1 p1_2 l1_3 l1_4 l1_5 l1_6)] 39)
    replace R1_4 := R1_4.alloc (.cells #[.int .i64 p1_0, .int .i64 p1_1, .int .i64 p1_2, .slice P9_0_3 ((l1_3).length) pc9_0_3, .slice P9_0_4 ((l1_4).length) pc9_0_4, .slice P9_0_5 ((l1_5).length) pc9_0_5, .slice P9_0_6 ((l1_6).length) pc9_0_6, .int .i64 (mSealPk a0 p1_0 p1_1 p1_2 l1_3 l1_4 l1_5 l1_6)] 39)
    replace R1_5 := R1_5.alloc (.cells #[.int .i64 p1_0, .int .i64 p1_1, .int .i64 p1_2, .slice P9_0_3 ((l1_3).length) pc9_0_3, .slice P9_0_4 ((l1_4).length) pc9_0_4, .slice P9_0_5 ((l1_5).length) pc9_0_5, .slice P9_0_6 ((l1_6).length) pc9_0_6, .int .i64 (mSealPk a0 p1_0 p1_1 p1_2 l1_3 l1_4 l1_5 l1_6)] 39)
    replace R1_6 := R1_6.alloc (.cells #[.int .i64 p1_0, .int .i64 p1_1, .int .i64 p1_2, .slice P9_0_3 ((l1_3).length) pc9_0_3, .slice P9_0_4 ((l1_4).length) pc9_0_4, .slice P9_0_5 ((l1_5).length) pc9_0_5, .slice P9_0_6 ((l1_6).length) pc9_0_6, .int .i64 (mSealPk a0 p1_0 p1_1 p1_2 l1_3 l1_4 l1_5 l1_6)] 39)
    replace KB1 := KB1.alloc_ (.cells #[.int .i64 p1_0, .int .i64 p1_1, .int .i64 p1_2, .slice P9_0_3 ((l1_3).length) pc9_0_3, .slice P9_0_4 ((l1_4).length) pc9_0_4, .slice P9_0_5 ((l1_5).length) pc9_0_5, .slice P9_0_6 ((l1_6).length) pc9_0_6, .int .i64 (mSealPk a0 p1_0 p1_1 p1_2 l1_3 l1_4 l1_5 l1_6)] 39)
    replace FP3_0_3 := FP3_0_3.alloc (.cells #[.int .i64 p1_0, .int .i64 p1_1, .int .i64 p1_2, .slice P9_0_3 ((l1_3).length) pc9_0_3, .slice P9_0_4 ((l1_4).length) pc9_0_4, .slice P9_0_5 ((l1_5).length) pc9_0_5, .slice P9_0_6 ((l1_6).length) pc9_0_6, .int .i64 (mSealPk a0 p1_0 p1_1 p1_2 l1_3 l1_4 l1_5 l1_6)] 39)
    replace FP3_0_4 := FP3_0_4.alloc (.cells #[.int .i64 p1_0, .int .i64 p1_1, .int .i64 p1_2, .slice P9_0_3 ((l1_3).length) pc9_0_3, .slice P9_0_4 ((l1_4).length) pc9_0_4, .slice P9_0_5 ((l1_5).length) pc9_0_5, .slice P9_0_6 ((l1_6).length) pc9_0_6, .int .i64 (mSealPk a0 p1_0 p1_1 p1_2 l1_3 l1_4 l1_5 l1_6)] 39)
    replace FP3_0_5 := FP3_0_5.alloc (.cells #[.int .i64 p1_0, .int .i64 p1_1, .int .i64 p1_2, .slice P9_0_3 ((l1_3).length) pc9_0_3, .slice P9_0_4 ((l1_4).length) pc9_0_4, .slice P9_0_5 ((l1_5).length) pc9_0_5, .slice P9_0_6 ((l1_6).length) pc9_0_6, .int .i64 (mSealPk a0 p1_0 p1_1 p1_2 l1_3 l1_4 l1_5 l1_6)] 39)
    replace FP3_0_6 := FP3_0_6.alloc (.cells #[.int .i64 p1_0, .int .i64 p1_1, .int .i64 p1_2, .slice P9_0_3 ((l1_3).length) pc9_0_3, .slice P9_0_4 ((l1_4).length) pc9_0_4, .slice P9_0_5 ((l1_5).length) pc9_0_5, .slice P9_0_6 ((l1_6).length) pc9_0_6, .int .i64 (mSealPk a0 p1_0 p1_1 p1_2 l1_3 l1_4 l1_5 l1_6)] 39)
    replace KX4 := KX4.alloc_ (.cells #[.int .i64 p1_0, .int .i64 p1_1, .int .i64 p1_2, .slice P9_0_3 ((l1_3).length) pc9_0_3, .slice P9_0_4 ((l1_4).length) pc9_0_4, .slice P9_0_5 ((l1_5).length) pc9_0_5, .slice P9_0_6 ((l1_6).length) pc9_0_6, .int .i64 (mSealPk a0 p1_0 p1_1 p1_2 l1_3 l1_4 l1_5 l1_6)] 39)
    replace FT6_3 := FT6_3.alloc (.cells #[.int .i64 p1_0, .int .i64 p1_1, .int .i64 p1_2, .slice P9_0_3 ((l1_3).length) pc9_0_3, .slice P9_0_4 ((l1_4).length) pc9_0_4, .slice P9_0_5 ((l1_5).length) pc9_0_5, .slice P9_0_6 ((l1_6).length) pc9_0_6, .int .i64 (mSealPk a0 p1_0 p1_1 p1_2 l1_3 l1_4 l1_5 l1_6)] 39)
    replace FT6_4 := FT6_4.alloc (.cells #[.int .i64 p1_0, .int .i64 p1_1, .int .i64 p1_2, .slice P9_0_3 ((l1_3).length) pc9_0_3, .slice P9_0_4 ((l1_4).length) pc9_0_4, .slice P9_0_5 ((l1_5).length) pc9_0_5, .slice P9_0_6 ((l1_6).length) pc9_0_6, .int .i64 (mSealPk a0 p1_0 p1_1 p1_2 l1_3 l1_4 l1_5 l1_6)] 39)
    replace FT6_5 := FT6_5.alloc (.cells #[.int .i64 p1_0, .int .i64 p1_1, .int .i64 p1_2, .slice P9_0_3 ((l1_3).length) pc9_0_3, .slice P9_0_4 ((l1_4).length) pc9_0_4, .slice P9_0_5 ((l1_5).length) pc9_0_5, .slice P9_0_6 ((l1_6).length) pc9_0_6, .int .i64 (mSealPk a0 p1_0 p1_1 p1_2 l1_3 l1_4 l1_5 l1_6)] 39)
    replace FT6_6 := FT6_6.alloc (.cells #[.int .i64 p1_0, .int .i64 p1_1, .int .i64 p1_2, .slice P9_0_3 ((l1_3).length) pc9_0_3, .slice P9_0_4 ((l1_4).length) pc9_0_4, .slice P9_0_5 ((l1_5).length) pc9_0_5, .slice P9_0_6 ((l1_6).length) pc9_0_6, .int .i64 (mSealPk a0 p1_0 p1_1 p1_2 l1_3 l1_4 l1_5 l1_6)] 39)
    replace KX7 := KX7.alloc_ (.cells #[.int .i64 p1_0, .int .i64 p1_1, .int .i64 p1_2, .slice P9_0_3 ((l1_3).length) pc9_0_3, .slice P9_0_4 ((l1_4).length) pc9_0_4, .slice P9_0_5 ((l1_5).length) pc9_0_5, .slice P9_0_6 ((l1_6).length) pc9_0_6, .int .i64 (mSealPk a0 p1_0 p1_1 p1_2 l1_3 l1_4 l1_5 l1_6)] 39)
    replace FP9_0_3 := FP9_0_3.alloc (.cells #[.int .i64 p1_0, .int .i64 p1_1, .int .i64 p1_2, .slice P9_0_3 ((l1_3).length) pc9_0_3, .slice P9_0_4 ((l1_4).length) pc9_0_4, .slice P9_0_5 ((l1_5).length) pc9_0_5, .slice P9_0_6 ((l1_6).length) pc9_0_6, .int .i64 (mSealPk a0 p1_0 p1_1 p1_2 l1_3 l1_4 l1_5 l1_6)] 39)
    replace FP9_0_4 := FP9_0_4.alloc (.cells #[.int .i64 p1_0, .int .i64 p1_1, .int .i64 p1_2, .slice P9_0_3 ((l1_3).length) pc9_0_3, .slice P9_0_4 ((l1_4).length) pc9_0_4, .slice P9_0_5 ((l1_5).length) pc9_0_5, .slice P9_0_6 ((l1_6).length) pc9_0_6, .int .i64 (mSealPk a0 p1_0 p1_1 p1_2 l1_3 l1_4 l1_5 l1_6)] 39)
    replace FP9_0_5 := FP9_0_5.alloc (.cells #[.int .i64 p1_0, .int .i64 p1_1, .int .i64 p1_2, .slice P9_0_3 ((l1_3).length) pc9_0_3, .slice P9_0_4 ((l1_4).length) pc9_0_4, .slice P9_0_5 ((l1_5).length) pc9_0_5, .slice P9_0_6 ((l1_6).length) pc9_0_6, .int .i64 (mSealPk a0 p1_0 p1_1 p1_2 l1_3 l1_4 l1_5 l1_6)] 39)
    replace FP9_0_6 := FP9_0_6.alloc (.cells #[.int .i64 p1_0, .int .i64 p1_1, .int .i64 p1_2, .slice P9_0_3 ((l1_3).length) pc9_0_3, .slice P9_0_4 ((l1_4).length) pc9_0_4, .slice P9_0_5 ((l1_5).length) pc9_0_5, .slice P9_0_6 ((l1_6).length) pc9_0_6, .int .i64 (mSealPk a0 p1_0 p1_1 p1_2 l1_3 l1_4 l1_5 l1_6)] 39)
    have KX10 : BoxAt (w5.alloc (.cells #[.int .i64 p1_0, .int .i64 p1_1, .int .i64 p1_2, .slice P9_0_3 ((l1_3).length) pc9_0_3, .slice P9_0_4 ((l1_4).length) pc9_0_4, .slice P9_0_5 ((l1_5).length) pc9_0_5, .slice P9_0_6 ((l1_6).length) pc9_0_6, .int .i64 (mSealPk a0 p1_0 p1_1 p1_2 l1_3 l1_4 l1_5 l1_6)] 39)) (w5.heap.size) 39 #[.int .i64 p1_0, .int .i64 p1_1, .int .i64 p1_2, .slice P9_0_3 ((l1_3).length) pc9_0_3, .slice P9_0_4 ((l1_4).length) pc9_0_4, .slice P9_0_5 ((l1_5).length) pc9_0_5, .slice P9_0_6 ((l1_6).length) pc9_0_6, .int .i64 (mSealPk a0 p1_0 p1_1 p1_2 l1_3 l1_4 l1_5 l1_6)] := box_new _ _ _
    replace G := G.alloc (by have := S0.out; have := S1.out; have := S2.out; have := S3.out; have := SA5.out; have := S4.out; have := SA8.out; have := S5.out; have := SA11.out; have := SepPackage_bd MT2.out; have := SepPackage_bd MP3_0.out; have := SepPackage_bd MT6.out; have := SepPackage_bd MP9_0.out; first | omega | (simp; omega)) (.cells #[.int .i64 p1_0, .int .i64 p1_1, .int .i64 p1_2, .slice P9_0_3 ((l1_3).length) pc9_0_3, .slice P9_0_4 ((l1_4).length) pc9_0_4, .slice P9_0_5 ((l1_5).length) pc9_0_5, .slice P9_0_6 ((l1_6).length) pc9_0_6, .int .i64 (mSealPk a0 p1_0 p1_1 p1_2 l1_3 l1_4 l1_5 l1_6)] 39)
    have xKX10_0 : (w5.alloc (.cells #[.int .i64 p1_0, .int .i64 p1_1, .int .i64 p1_2, .slice P9_0_3 ((l1_3).length) pc9_0_3, .slice P9_0_4 ((l1_4).length) pc9_0_4, .slice P9_0_5 ((l1_5).length) pc9_0_5, .slice P9_0_6 ((l1_6).length) pc9_0_6, .int .i64 (mSealPk a0 p1_0 p1_1 p1_2 l1_3 l1_4 l1_5 l1_6)] 39)).cell? ⟨w5.heap.size, 0, none⟩ = some (.int .i64 p1_0) := KX10.at_ rfl
    have xKX10_1 : (w5.alloc (.cells #[.int .i64 p1_0, .int .i64 p1_1, .int .i64 p1_2, .slice P9_0_3 ((l1_3).length) pc9_0_3, .slice P9_0_4 ((l1_4).length) pc9_0_4, .slice P9_0_5 ((l1_5).length) pc9_0_5, .slice P9_0_6 ((l1_6).length) pc9_0_6, .int .i64 (mSealPk a0 p1_0 p1_1 p1_2 l1_3 l1_4 l1_5 l1_6)] 39)).cell? ⟨w5.heap.size, 1, none⟩ = some (.int .i64 p1_1) := KX10.at_ rfl
    have xKX10_2 : (w5.alloc (.cells #[.int .i64 p1_0, .int .i64 p1_1, .int .i64 p1_2, .slice P9_0_3 ((l1_3).length) pc9_0_3, .slice P9_0_4 ((l1_4).length) pc9_0_4, .slice P9_0_5 ((l1_5).length) pc9_0_5, .slice P9_0_6 ((l1_6).length) pc9_0_6, .int .i64 (mSealPk a0 p1_0 p1_1 p1_2 l1_3 l1_4 l1_5 l1_6)] 39)).cell? ⟨w5.heap.size, 2, none⟩ = some (.int .i64 p1_2) := KX10.at_ rfl
    have xKX10_3 : (w5.alloc (.cells #[.int .i64 p1_0, .int .i64 p1_1, .int .i64 p1_2, .slice P9_0_3 ((l1_3).length) pc9_0_3, .slice P9_0_4 ((l1_4).length) pc9_0_4, .slice P9_0_5 ((l1_5).length) pc9_0_5, .slice P9_0_6 ((l1_6).length) pc9_0_6, .int .i64 (mSealPk a0 p1_0 p1_1 p1_2 l1_3 l1_4 l1_5 l1_6)] 39)).cell? ⟨w5.heap.size, 3, none⟩ = some (.slice P9_0_3 ((l1_3).length) pc9_0_3) := KX10.at_ rfl
    have xKX10_4 : (w5.alloc (.cells #[.int .i64 p1_0, .int .i64 p1_1, .int .i64 p1_2, .slice P9_0_3 ((l1_3).length) pc9_0_3, .slice P9_0_4 ((l1_4).length) pc9_0_4, .slice P9_0_5 ((l1_5).length) pc9_0_5, .slice P9_0_6 ((l1_6).length) pc9_0_6, .int .i64 (mSealPk a0 p1_0 p1_1 p1_2 l1_3 l1_4 l1_5 l1_6)] 39)).cell? ⟨w5.heap.size, 4, none⟩ = some (.slice P9_0_4 ((l1_4).length) pc9_0_4) := KX10.at_ rfl
    have xKX10_5 : (w5.alloc (.cells #[.int .i64 p1_0, .int .i64 p1_1, .int .i64 p1_2, .slice P9_0_3 ((l1_3).length) pc9_0_3, .slice P9_0_4 ((l1_4).length) pc9_0_4, .slice P9_0_5 ((l1_5).length) pc9_0_5, .slice P9_0_6 ((l1_6).length) pc9_0_6, .int .i64 (mSealPk a0 p1_0 p1_1 p1_2 l1_3 l1_4 l1_5 l1_6)] 39)).cell? ⟨w5.heap.size, 5, none⟩ = some (.slice P9_0_5 ((l1_5).length) pc9_0_5) := KX10.at_ rfl
    have xKX10_6 : (w5.alloc (.cells #[.int .i64 p1_0, .int .i64 p1_1, .int .i64 p1_2, .slice P9_0_3 ((l1_3).length) pc9_0_3, .slice P9_0_4 ((l1_4).length) pc9_0_4, .slice P9_0_5 ((l1_5).length) pc9_0_5, .slice P9_0_6 ((l1_6).length) pc9_0_6, .int .i64 (mSealPk a0 p1_0 p1_1 p1_2 l1_3 l1_4 l1_5 l1_6)] 39)).cell? ⟨w5.heap.size, 6, none⟩ = some (.slice P9_0_6 ((l1_6).length) pc9_0_6) := KX10.at_ rfl
    have xKX10_7 : (w5.alloc (.cells #[.int .i64 p1_0, .int .i64 p1_1, .int .i64 p1_2, .slice P9_0_3 ((l1_3).length) pc9_0_3, .slice P9_0_4 ((l1_4).length) pc9_0_4, .slice P9_0_5 ((l1_5).length) pc9_0_5, .slice P9_0_6 ((l1_6).length) pc9_0_6, .int .i64 (mSealPk a0 p1_0 p1_1 p1_2 l1_3 l1_4 l1_5 l1_6)] 39)).cell? ⟨w5.heap.size, 7, none⟩ = some (.int .i64 (mSealPk a0 p1_0 p1_1 p1_2 l1_3 l1_4 l1_5 l1_6)) := KX10.at_ rfl
    have xKX4_0 : (w5.alloc (.cells #[.int .i64 p1_0, .int .i64 p1_1, .int .i64 p1_2, .slice P9_0_3 ((l1_3).length) pc9_0_3, .slice P9_0_4 ((l1_4).length) pc9_0_4, .slice P9_0_5 ((l1_5).length) pc9_0_5, .slice P9_0_6 ((l1_6).length) pc9_0_6, .int .i64 (mSealPk a0 p1_0 p1_1 p1_2 l1_3 l1_4 l1_5 l1_6)] 39)).cell? ⟨w3.heap.size, 0, none⟩ = some (.int .i64 p1_0) := KX4.at_ rfl
    have xKX4_1 : (w5.alloc (.cells #[.int .i64 p1_0, .int .i64 p1_1, .int .i64 p1_2, .slice P9_0_3 ((l1_3).length) pc9_0_3, .slice P9_0_4 ((l1_4).length) pc9_0_4, .slice P9_0_5 ((l1_5).length) pc9_0_5, .slice P9_0_6 ((l1_6).length) pc9_0_6, .int .i64 (mSealPk a0 p1_0 p1_1 p1_2 l1_3 l1_4 l1_5 l1_6)] 39)).cell? ⟨w3.heap.size, 1, none⟩ = some (.int .i64 p1_1) := KX4.at_ rfl
    have xKX4_2 : (w5.alloc (.cells #[.int .i64 p1_0, .int .i64 p1_1, .int .i64 p1_2, .slice P9_0_3 ((l1_3).length) pc9_0_3, .slice P9_0_4 ((l1_4).length) pc9_0_4, .slice P9_0_5 ((l1_5).length) pc9_0_5, .slice P9_0_6 ((l1_6).length) pc9_0_6, .int .i64 (mSealPk a0 p1_0 p1_1 p1_2 l1_3 l1_4 l1_5 l1_6)] 39)).cell? ⟨w3.heap.size, 2, none⟩ = some (.int .i64 p1_2) := KX4.at_ rfl
    have xKX4_3 : (w5.alloc (.cells #[.int .i64 p1_0, .int .i64 p1_1, .int .i64 p1_2, .slice P9_0_3 ((l1_3).length) pc9_0_3, .slice P9_0_4 ((l1_4).length) pc9_0_4, .slice P9_0_5 ((l1_5).length) pc9_0_5, .slice P9_0_6 ((l1_6).length) pc9_0_6, .int .i64 (mSealPk a0 p1_0 p1_1 p1_2 l1_3 l1_4 l1_5 l1_6)] 39)).cell? ⟨w3.heap.size, 3, none⟩ = some (.slice P3_0_3 ((l1_3).length) pc3_0_3) := KX4.at_ rfl
    have xKX4_4 : (w5.alloc (.cells #[.int .i64 p1_0, .int .i64 p1_1, .int .i64 p1_2, .slice P9_0_3 ((l1_3).length) pc9_0_3, .slice P9_0_4 ((l1_4).length) pc9_0_4, .slice P9_0_5 ((l1_5).length) pc9_0_5, .slice P9_0_6 ((l1_6).length) pc9_0_6, .int .i64 (mSealPk a0 p1_0 p1_1 p1_2 l1_3 l1_4 l1_5 l1_6)] 39)).cell? ⟨w3.heap.size, 4, none⟩ = some (.slice P3_0_4 ((l1_4).length) pc3_0_4) := KX4.at_ rfl
    have xKX4_5 : (w5.alloc (.cells #[.int .i64 p1_0, .int .i64 p1_1, .int .i64 p1_2, .slice P9_0_3 ((l1_3).length) pc9_0_3, .slice P9_0_4 ((l1_4).length) pc9_0_4, .slice P9_0_5 ((l1_5).length) pc9_0_5, .slice P9_0_6 ((l1_6).length) pc9_0_6, .int .i64 (mSealPk a0 p1_0 p1_1 p1_2 l1_3 l1_4 l1_5 l1_6)] 39)).cell? ⟨w3.heap.size, 5, none⟩ = some (.slice P3_0_5 ((l1_5).length) pc3_0_5) := KX4.at_ rfl
    have xKX4_6 : (w5.alloc (.cells #[.int .i64 p1_0, .int .i64 p1_1, .int .i64 p1_2, .slice P9_0_3 ((l1_3).length) pc9_0_3, .slice P9_0_4 ((l1_4).length) pc9_0_4, .slice P9_0_5 ((l1_5).length) pc9_0_5, .slice P9_0_6 ((l1_6).length) pc9_0_6, .int .i64 (mSealPk a0 p1_0 p1_1 p1_2 l1_3 l1_4 l1_5 l1_6)] 39)).cell? ⟨w3.heap.size, 6, none⟩ = some (.slice P3_0_6 ((l1_6).length) pc3_0_6) := KX4.at_ rfl
    have xKX4_7 : (w5.alloc (.cells #[.int .i64 p1_0, .int .i64 p1_1, .int .i64 p1_2, .slice P9_0_3 ((l1_3).length) pc9_0_3, .slice P9_0_4 ((l1_4).length) pc9_0_4, .slice P9_0_5 ((l1_5).length) pc9_0_5, .slice P9_0_6 ((l1_6).length) pc9_0_6, .int .i64 (mSealPk a0 p1_0 p1_1 p1_2 l1_3 l1_4 l1_5 l1_6)] 39)).cell? ⟨w3.heap.size, 7, none⟩ = some (.int .i64 (mSealPk a0 p1_0 p1_1 p1_2 l1_3 l1_4 l1_5 l1_6)) := KX4.at_ rfl
    go_wp2_with fail
    refine Calls.mono (eq_package_same p1_0 p1_1 p1_2 l1_3 ((l1_3).length) P9_0_3 P3_0_3 pc9_0_3 pc3_0_3 _ _ _ _ l1_4 ((l1_4).length) P9_0_4 P3_0_4 pc9_0_4 pc3_0_4 _ _ _ _ l1_5 ((l1_5).length) P9_0_5 P3_0_5 pc9_0_5 pc3_0_5 _ _ _ _ l1_6 ((l1_6).length) P9_0_6 P3_0_6 pc9_0_6 pc3_0_6 _ _ _ _ (mSealPk a0 p1_0 p1_1 p1_2 l1_3 l1_4 l1_5 l1_6) _ (by omega) (by omega) (by omega) (by omega) FP9_0_3.rd FP9_0_4.rd FP9_0_5.rd FP9_0_6.rd FP3_0_3.rd FP3_0_4.rd FP3_0_5.rd FP3_0_6.rd) ?_
    rintro e w6 ⟨rfl, B12⟩
    replace R1_3 := (R1_3).new B12
    replace R1_4 := (R1_4).new B12
    replace R1_5 := (R1_5).new B12
    replace R1_6 := (R1_6).new B12
    replace KB1 := (KB1).new B12
    replace FP3_0_3 := (FP3_0_3).new B12
    replace FP3_0_4 := (FP3_0_4).new B12
    replace FP3_0_5 := (FP3_0_5).new B12
    replace FP3_0_6 := (FP3_0_6).new B12
    replace KX4 := (KX4).new B12
    replace FT6_3 := (FT6_3).new B12
    replace FT6_4 := (FT6_4).new B12
    replace FT6_5 := (FT6_5).new B12
    replace FT6_6 := (FT6_6).new B12
    replace KX7 := (KX7).new B12
    replace FP9_0_3 := (FP9_0_3).new B12
    replace FP9_0_4 := (FP9_0_4).new B12
    replace FP9_0_5 := (FP9_0_5).new B12
    replace FP9_0_6 := (FP9_0_6).new B12
    replace KX10 := (KX10).new B12
    replace G := below_trans G B12 (Nat.le_refl _)
    have S6 := Lib.hid (show (w5.alloc (.cells #[.int .i64 p1_0, .int .i64 p1_1, .int .i64 p1_2, .slice P9_0_3 ((l1_3).length) pc9_0_3, .slice P9_0_4 ((l1_4).length) pc9_0_4, .slice P9_0_5 ((l1_5).length) pc9_0_5, .slice P9_0_6 ((l1_6).length) pc9_0_6, .int .i64 (mSealPk a0 p1_0 p1_1 p1_2 l1_3 l1_4 l1_5 l1_6)] 39)).heap.size + 0 ≤ w6.heap.size by have := B12.size; first | (simpa using this) | ((try simp at this); omega))
    clear B12
    clear xKX10_0 xKX10_1 xKX10_2 xKX10_3 xKX10_4 xKX10_5 xKX10_6 xKX10_7 xKX4_0 xKX4_1 xKX4_2 xKX4_3 xKX4_4 xKX4_5 xKX4_6 xKX4_7
    go_wp2_with fail
    replace G := G.drew
    replace R1_3 := R1_3.drw
    replace R1_4 := R1_4.drw
    replace R1_5 := R1_5.drw
    replace R1_6 := R1_6.drw
    replace KB1 := KB1.drw
    replace FP3_0_3 := FP3_0_3.drw
    replace FP3_0_4 := FP3_0_4.drw
    replace FP3_0_5 := FP3_0_5.drw
    replace FP3_0_6 := FP3_0_6.drw
    replace KX4 := KX4.drw
    replace FT6_3 := FT6_3.drw
    replace FT6_4 := FT6_4.drw
    replace FT6_5 := FT6_5.drw
    replace FT6_6 := FT6_6.drw
    replace KX7 := KX7.drw
    replace FP9_0_3 := FP9_0_3.drw
    replace FP9_0_4 := FP9_0_4.drw
    replace FP9_0_5 := FP9_0_5.drw
    replace FP9_0_6 := FP9_0_6.drw
    replace KX10 := KX10.drw
    go_region_held3 (fun w' => w'.cell? ⟨w4.heap.size, 0, none⟩ = some (.int .i64 p1_0) ∧ w'.cell? ⟨w4.heap.size, 1, none⟩ = some (.int .i64 p1_1) ∧ w'.cell? ⟨w4.heap.size, 2, none⟩ = some (.int .i64 p1_2) ∧ w'.cell? ⟨w4.heap.size, 3, none⟩ = some (.slice T6_3 n1_3 tc6_3) ∧ w'.cell? ⟨w4.heap.size, 4, none⟩ = some (.slice T6_4 n1_4 tc6_4) ∧ w'.cell? ⟨w4.heap.size, 5, none⟩ = some (.slice T6_5 n1_5 tc6_5) ∧ w'.cell? ⟨w4.heap.size, 6, none⟩ = some (.slice T6_6 n1_6 tc6_6) ∧ w'.cell? ⟨w4.heap.size, 7, none⟩ = some (.int .i64 p1_7) ∧ w'.cell? ⟨w.heap.size, 0, none⟩ = some (.int .i64 p1_0) ∧ w'.cell? ⟨w.heap.size, 1, none⟩ = some (.int .i64 p1_1) ∧ w'.cell? ⟨w.heap.size, 2, none⟩ = some (.int .i64 p1_2) ∧ w'.cell? ⟨w.heap.size, 3, none⟩ = some (.slice A1_3 n1_3 c1_3) ∧ w'.cell? ⟨w.heap.size, 4, none⟩ = some (.slice A1_4 n1_4 c1_4) ∧ w'.cell? ⟨w.heap.size, 5, none⟩ = some (.slice A1_5 n1_5 c1_5) ∧ w'.cell? ⟨w.heap.size, 6, none⟩ = some (.slice A1_6 n1_6 c1_6) ∧ w'.cell? ⟨w.heap.size, 7, none⟩ = some (.int .i64 p1_7))
      (exact ⟨KX7.at_ rfl, KX7.at_ rfl, KX7.at_ rfl, KX7.at_ rfl, KX7.at_ rfl, KX7.at_ rfl, KX7.at_ rfl, KX7.at_ rfl, KB1.at_ rfl, KB1.at_ rfl, KB1.at_ rfl, KB1.at_ rfl, KB1.at_ rfl, KB1.at_ rfl, KB1.at_ rfl, KB1.at_ rfl⟩)
      (first
        | (go_at_call 10; (fail_if_success (have hx := B13)); refine Calls.mono (to_package p1_0 p1_1 p1_2 l1_3 A1_3 n1_3 c1_3 _ _ l1_4 A1_4 n1_4 c1_4 _ _ l1_5 A1_5 n1_5 c1_5 _ _ l1_6 A1_6 n1_6 c1_6 _ _ p1_7 _ hqn1_3 R1_3 hqn1_4 R1_4 hqn1_5 R1_5 hqn1_6 R1_6) ?_; rintro e w7 ⟨T13_3, T13_4, T13_5, T13_6, tc13_3, tlo13_3, thi13_3, tc13_4, tlo13_4, thi13_4, tc13_5, tlo13_5, thi13_5, tc13_6, tlo13_6, thi13_6, rfl, FT13_3, FT13_4, FT13_5, FT13_6, MT13, B13⟩; (replace R1_3 := rd_nw B13 R1_3); (replace R1_4 := rd_nw B13 R1_4); (replace R1_5 := rd_nw B13 R1_5); (replace R1_6 := rd_nw B13 R1_6); (replace KB1 := box_nw B13 KB1); (replace FP3_0_3 := fr_nw B13 FP3_0_3); (replace FP3_0_4 := fr_nw B13 FP3_0_4); (replace FP3_0_5 := fr_nw B13 FP3_0_5); (replace FP3_0_6 := fr_nw B13 FP3_0_6); (replace KX4 := box_nw B13 KX4); (replace FT6_3 := fr_nw B13 FT6_3); (replace FT6_4 := fr_nw B13 FT6_4); (replace FT6_5 := fr_nw B13 FT6_5); (replace FT6_6 := fr_nw B13 FT6_6); (replace KX7 := box_nw B13 KX7); (replace FP9_0_3 := fr_nw B13 FP9_0_3); (replace FP9_0_4 := fr_nw B13 FP9_0_4); (replace FP9_0_5 := fr_nw B13 FP9_0_5); (replace FP9_0_6 := fr_nw B13 FP9_0_6); (replace KX10 := box_nw B13 KX10); (replace G := (by first | exact below_trans G B13 (Nat.le_refl _) | exact below_trans G.drew B13 (Nat.le_refl _) | exact below_trans (below_dN G _) B13 (Nat.le_refl _))); (have S7 := Lib.hid (show w6.heap.size ≤ w7.heap.size from B13.size)))
        | (go_at_call 13; (fail_if_success (have hx := B14)); refine Calls.mono (eq_package_same p1_0 p1_1 p1_2 l1_3 n1_3 T6_3 T13_3 tc6_3 tc13_3 _ _ _ _ l1_4 n1_4 T6_4 T13_4 tc6_4 tc13_4 _ _ _ _ l1_5 n1_5 T6_5 T13_5 tc6_5 tc13_5 _ _ _ _ l1_6 n1_6 T6_6 T13_6 tc6_6 tc13_6 _ _ _ _ p1_7 _ (by omega) (by omega) (by omega) (by omega) FT6_3.rd FT6_4.rd FT6_5.rd FT6_6.rd FT13_3.rd FT13_4.rd FT13_5.rd FT13_6.rd) ?_; rintro e w8 ⟨rfl, B14⟩; (replace R1_3 := rd_nw B14 R1_3); (replace R1_4 := rd_nw B14 R1_4); (replace R1_5 := rd_nw B14 R1_5); (replace R1_6 := rd_nw B14 R1_6); (replace KB1 := box_nw B14 KB1); (replace FP3_0_3 := fr_nw B14 FP3_0_3); (replace FP3_0_4 := fr_nw B14 FP3_0_4); (replace FP3_0_5 := fr_nw B14 FP3_0_5); (replace FP3_0_6 := fr_nw B14 FP3_0_6); (replace KX4 := box_nw B14 KX4); (replace FT6_3 := fr_nw B14 FT6_3); (replace FT6_4 := fr_nw B14 FT6_4); (replace FT6_5 := fr_nw B14 FT6_5); (replace FT6_6 := fr_nw B14 FT6_6); (replace KX7 := box_nw B14 KX7); (replace FP9_0_3 := fr_nw B14 FP9_0_3); (replace FP9_0_4 := fr_nw B14 FP9_0_4); (replace FP9_0_5 := fr_nw B14 FP9_0_5); (replace FP9_0_6 := fr_nw B14 FP9_0_6); (replace KX10 := box_nw B14 KX10); (replace FT13_3 := fr_nw B14 FT13_3); (replace FT13_4 := fr_nw B14 FT13_4); (replace FT13_5 := fr_nw B14 FT13_5); (replace FT13_6 := fr_nw B14 FT13_6); (replace G := (by first | exact below_trans G B14 (Nat.le_refl _) | exact below_trans G.drew B14 (Nat.le_refl _) | exact below_trans (below_dN G _) B14 (Nat.le_refl _))); (have S8 := Lib.hid (show w7.heap.size ≤ w8.heap.size from B14.size))))
    clear B13
    clear B14
    clear FT13_3
    clear FT13_4
    clear FT13_5
    clear FT13_6
    have xKX7_0 : w8.cell? ⟨w4.heap.size, 0, none⟩ = some (.int .i64 p1_0) := KX7.at_ rfl
    have xKX7_1 : w8.cell? ⟨w4.heap.size, 1, none⟩ = some (.int .i64 p1_1) := KX7.at_ rfl
    have xKX7_2 : w8.cell? ⟨w4.heap.size, 2, none⟩ = some (.int .i64 p1_2) := KX7.at_ rfl
    have xKX7_3 : w8.cell? ⟨w4.heap.size, 3, none⟩ = some (.slice T6_3 n1_3 tc6_3) := KX7.at_ rfl
    have xKX7_4 : w8.cell? ⟨w4.heap.size, 4, none⟩ = some (.slice T6_4 n1_4 tc6_4) := KX7.at_ rfl
    have xKX7_5 : w8.cell? ⟨w4.heap.size, 5, none⟩ = some (.slice T6_5 n1_5 tc6_5) := KX7.at_ rfl
    have xKX7_6 : w8.cell? ⟨w4.heap.size, 6, none⟩ = some (.slice T6_6 n1_6 tc6_6) := KX7.at_ rfl
    have xKX7_7 : w8.cell? ⟨w4.heap.size, 7, none⟩ = some (.int .i64 p1_7) := KX7.at_ rfl
    go_wp2_with fail
    refine Calls.mono (mark_package p1_0 p1_1 p1_2 _ T6_3 n1_3 tc6_3 _ _ _ T6_4 n1_4 tc6_4 _ _ _ T6_5 n1_5 tc6_5 _ _ _ T6_6 n1_6 tc6_6 _ _ p1_7 (1) ((w3.alloc (.cells #[.int .i64 p1_0, .int .i64 p1_1, .int .i64 p1_2, .slice P3_0_3 ((l1_3).length) pc3_0_3, .slice P3_0_4 ((l1_4).length) pc3_0_4, .slice P3_0_5 ((l1_5).length) pc3_0_5, .slice P3_0_6 ((l1_6).length) pc3_0_6, .int .i64 (mSealPk a0 p1_0 p1_1 p1_2 l1_3 l1_4 l1_5 l1_6)] 39)).heap.size) w4.heap.size _ (by omega) (by omega) (by omega) (by omega) (by omega) (by have := S0.out; have := S1.out; have := S2.out; have := S3.out; have := SA5.out; have := S4.out; have := SA8.out; have := S5.out; have := SA11.out; have := S6.out; have := S7.out; have := S8.out; have := SepPackage_bd MT2.out; have := SepPackage_bd MP3_0.out; have := SepPackage_bd MT6.out; have := SepPackage_bd MP9_0.out; have := SepPackage_bd MT13.out; omega) MT6 FT6_3 FT6_4 FT6_5 FT6_6) ?_
    rintro e w9 ⟨rfl, FM15_3, FM15_4, FM15_5, FM15_6, B15⟩
    replace R1_3 := (R1_3).chg B15 (by have := S0.out; have := S1.out; have := S2.out; have := S3.out; have := SA5.out; have := S4.out; have := SA8.out; have := S5.out; have := SA11.out; have := S6.out; have := S7.out; have := S8.out; have := SepPackage_bd MT2.out; have := SepPackage_bd MP3_0.out; have := SepPackage_bd MT6.out; have := SepPackage_bd MP9_0.out; have := SepPackage_bd MT13.out; omega)
    replace R1_4 := (R1_4).chg B15 (by have := S0.out; have := S1.out; have := S2.out; have := S3.out; have := SA5.out; have := S4.out; have := SA8.out; have := S5.out; have := SA11.out; have := S6.out; have := S7.out; have := S8.out; have := SepPackage_bd MT2.out; have := SepPackage_bd MP3_0.out; have := SepPackage_bd MT6.out; have := SepPackage_bd MP9_0.out; have := SepPackage_bd MT13.out; omega)
    replace R1_5 := (R1_5).chg B15 (by have := S0.out; have := S1.out; have := S2.out; have := S3.out; have := SA5.out; have := S4.out; have := SA8.out; have := S5.out; have := SA11.out; have := S6.out; have := S7.out; have := S8.out; have := SepPackage_bd MT2.out; have := SepPackage_bd MP3_0.out; have := SepPackage_bd MT6.out; have := SepPackage_bd MP9_0.out; have := SepPackage_bd MT13.out; omega)
    replace R1_6 := (R1_6).chg B15 (by have := S0.out; have := S1.out; have := S2.out; have := S3.out; have := SA5.out; have := S4.out; have := SA8.out; have := S5.out; have := SA11.out; have := S6.out; have := S7.out; have := S8.out; have := SepPackage_bd MT2.out; have := SepPackage_bd MP3_0.out; have := SepPackage_bd MT6.out; have := SepPackage_bd MP9_0.out; have := SepPackage_bd MT13.out; omega)
    replace KB1 := (KB1).chg B15 (by have := S0.out; have := S1.out; have := S2.out; have := S3.out; have := SA5.out; have := S4.out; have := SA8.out; have := S5.out; have := SA11.out; have := S6.out; have := S7.out; have := S8.out; have := SepPackage_bd MT2.out; have := SepPackage_bd MP3_0.out; have := SepPackage_bd MT6.out; have := SepPackage_bd MP9_0.out; have := SepPackage_bd MT13.out; omega)
    replace FP3_0_3 := (FP3_0_3).chg B15 (by have := S0.out; have := S1.out; have := S2.out; have := S3.out; have := SA5.out; have := S4.out; have := SA8.out; have := S5.out; have := SA11.out; have := S6.out; have := S7.out; have := S8.out; have := SepPackage_bd MT2.out; have := SepPackage_bd MP3_0.out; have := SepPackage_bd MT6.out; have := SepPackage_bd MP9_0.out; have := SepPackage_bd MT13.out; omega)
    replace FP3_0_4 := (FP3_0_4).chg B15 (by have := S0.out; have := S1.out; have := S2.out; have := S3.out; have := SA5.out; have := S4.out; have := SA8.out; have := S5.out; have := SA11.out; have := S6.out; have := S7.out; have := S8.out; have := SepPackage_bd MT2.out; have := SepPackage_bd MP3_0.out; have := SepPackage_bd MT6.out; have := SepPackage_bd MP9_0.out; have := SepPackage_bd MT13.out; omega)
    replace FP3_0_5 := (FP3_0_5).chg B15 (by have := S0.out; have := S1.out; have := S2.out; have := S3.out; have := SA5.out; have := S4.out; have := SA8.out; have := S5.out; have := SA11.out; have := S6.out; have := S7.out; have := S8.out; have := SepPackage_bd MT2.out; have := SepPackage_bd MP3_0.out; have := SepPackage_bd MT6.out; have := SepPackage_bd MP9_0.out; have := SepPackage_bd MT13.out; omega)
    replace FP3_0_6 := (FP3_0_6).chg B15 (by have := S0.out; have := S1.out; have := S2.out; have := S3.out; have := SA5.out; have := S4.out; have := SA8.out; have := S5.out; have := SA11.out; have := S6.out; have := S7.out; have := S8.out; have := SepPackage_bd MT2.out; have := SepPackage_bd MP3_0.out; have := SepPackage_bd MT6.out; have := SepPackage_bd MP9_0.out; have := SepPackage_bd MT13.out; omega)
    replace KX4 := (KX4).chg B15 (by have := S0.out; have := S1.out; have := S2.out; have := S3.out; have := SA5.out; have := S4.out; have := SA8.out; have := S5.out; have := SA11.out; have := S6.out; have := S7.out; have := S8.out; have := SepPackage_bd MT2.out; have := SepPackage_bd MP3_0.out; have := SepPackage_bd MT6.out; have := SepPackage_bd MP9_0.out; have := SepPackage_bd MT13.out; omega)
    replace KX7 := (KX7).chg B15 (by have := S0.out; have := S1.out; have := S2.out; have := S3.out; have := SA5.out; have := S4.out; have := SA8.out; have := S5.out; have := SA11.out; have := S6.out; have := S7.out; have := S8.out; have := SepPackage_bd MT2.out; have := SepPackage_bd MP3_0.out; have := SepPackage_bd MT6.out; have := SepPackage_bd MP9_0.out; have := SepPackage_bd MT13.out; omega)
    replace FP9_0_3 := (FP9_0_3).chg B15 (by have := S0.out; have := S1.out; have := S2.out; have := S3.out; have := SA5.out; have := S4.out; have := SA8.out; have := S5.out; have := SA11.out; have := S6.out; have := S7.out; have := S8.out; have := SepPackage_bd MT2.out; have := SepPackage_bd MP3_0.out; have := SepPackage_bd MT6.out; have := SepPackage_bd MP9_0.out; have := SepPackage_bd MT13.out; omega)
    replace FP9_0_4 := (FP9_0_4).chg B15 (by have := S0.out; have := S1.out; have := S2.out; have := S3.out; have := SA5.out; have := S4.out; have := SA8.out; have := S5.out; have := SA11.out; have := S6.out; have := S7.out; have := S8.out; have := SepPackage_bd MT2.out; have := SepPackage_bd MP3_0.out; have := SepPackage_bd MT6.out; have := SepPackage_bd MP9_0.out; have := SepPackage_bd MT13.out; omega)
    replace FP9_0_5 := (FP9_0_5).chg B15 (by have := S0.out; have := S1.out; have := S2.out; have := S3.out; have := SA5.out; have := S4.out; have := SA8.out; have := S5.out; have := SA11.out; have := S6.out; have := S7.out; have := S8.out; have := SepPackage_bd MT2.out; have := SepPackage_bd MP3_0.out; have := SepPackage_bd MT6.out; have := SepPackage_bd MP9_0.out; have := SepPackage_bd MT13.out; omega)
    replace FP9_0_6 := (FP9_0_6).chg B15 (by have := S0.out; have := S1.out; have := S2.out; have := S3.out; have := SA5.out; have := S4.out; have := SA8.out; have := S5.out; have := SA11.out; have := S6.out; have := S7.out; have := S8.out; have := SepPackage_bd MT2.out; have := SepPackage_bd MP3_0.out; have := SepPackage_bd MT6.out; have := SepPackage_bd MP9_0.out; have := SepPackage_bd MT13.out; omega)
    replace KX10 := (KX10).chg B15 (by have := S0.out; have := S1.out; have := S2.out; have := S3.out; have := SA5.out; have := S4.out; have := SA8.out; have := S5.out; have := SA11.out; have := S6.out; have := S7.out; have := S8.out; have := SepPackage_bd MT2.out; have := SepPackage_bd MP3_0.out; have := SepPackage_bd MT6.out; have := SepPackage_bd MP9_0.out; have := SepPackage_bd MT13.out; omega)
    replace G := G.trans (B15.below (.inl (by have := S0.out; have := S1.out; have := S2.out; have := S3.out; have := SA5.out; have := S4.out; have := SA8.out; have := S5.out; have := SA11.out; have := S6.out; have := S7.out; have := S8.out; have := SepPackage_bd MT2.out; have := SepPackage_bd MP3_0.out; have := SepPackage_bd MT6.out; have := SepPackage_bd MP9_0.out; have := SepPackage_bd MT13.out; omega)) (by have := S0.out; have := S1.out; have := S2.out; have := S3.out; have := SA5.out; have := S4.out; have := SA8.out; have := S5.out; have := SA11.out; have := S6.out; have := S7.out; have := S8.out; have := SepPackage_bd MT2.out; have := SepPackage_bd MP3_0.out; have := SepPackage_bd MT6.out; have := SepPackage_bd MP9_0.out; have := SepPackage_bd MT13.out; first | omega | (simp; omega)))
    have S9 := Lib.hid (show w8.heap.size + 0 ≤ w9.heap.size by have := B15.size; first | (simpa using this) | ((try simp at this); omega))
    clear FT6_3
    clear FT6_4
    clear FT6_5
    clear FT6_6
    clear B15
    clear xKX7_0 xKX7_1 xKX7_2 xKX7_3 xKX7_4 xKX7_5 xKX7_6 xKX7_7
    have xKX10_0 : w9.cell? ⟨w5.heap.size, 0, none⟩ = some (.int .i64 p1_0) := KX10.at_ rfl
    have xKX10_1 : w9.cell? ⟨w5.heap.size, 1, none⟩ = some (.int .i64 p1_1) := KX10.at_ rfl
    have xKX10_2 : w9.cell? ⟨w5.heap.size, 2, none⟩ = some (.int .i64 p1_2) := KX10.at_ rfl
    have xKX10_3 : w9.cell? ⟨w5.heap.size, 3, none⟩ = some (.slice P9_0_3 ((l1_3).length) pc9_0_3) := KX10.at_ rfl
    have xKX10_4 : w9.cell? ⟨w5.heap.size, 4, none⟩ = some (.slice P9_0_4 ((l1_4).length) pc9_0_4) := KX10.at_ rfl
    have xKX10_5 : w9.cell? ⟨w5.heap.size, 5, none⟩ = some (.slice P9_0_5 ((l1_5).length) pc9_0_5) := KX10.at_ rfl
    have xKX10_6 : w9.cell? ⟨w5.heap.size, 6, none⟩ = some (.slice P9_0_6 ((l1_6).length) pc9_0_6) := KX10.at_ rfl
    have xKX10_7 : w9.cell? ⟨w5.heap.size, 7, none⟩ = some (.int .i64 (mSealPk a0 p1_0 p1_1 p1_2 l1_3 l1_4 l1_5 l1_6)) := KX10.at_ rfl
    have xKX4_0 : w9.cell? ⟨w3.heap.size, 0, none⟩ = some (.int .i64 p1_0) := KX4.at_ rfl
    have xKX4_1 : w9.cell? ⟨w3.heap.size, 1, none⟩ = some (.int .i64 p1_1) := KX4.at_ rfl
    have xKX4_2 : w9.cell? ⟨w3.heap.size, 2, none⟩ = some (.int .i64 p1_2) := KX4.at_ rfl
    have xKX4_3 : w9.cell? ⟨w3.heap.size, 3, none⟩ = some (.slice P3_0_3 ((l1_3).length) pc3_0_3) := KX4.at_ rfl
    have xKX4_4 : w9.cell? ⟨w3.heap.size, 4, none⟩ = some (.slice P3_0_4 ((l1_4).length) pc3_0_4) := KX4.at_ rfl
    have xKX4_5 : w9.cell? ⟨w3.heap.size, 5, none⟩ = some (.slice P3_0_5 ((l1_5).length) pc3_0_5) := KX4.at_ rfl
    have xKX4_6 : w9.cell? ⟨w3.heap.size, 6, none⟩ = some (.slice P3_0_6 ((l1_6).length) pc3_0_6) := KX4.at_ rfl
    have xKX4_7 : w9.cell? ⟨w3.heap.size, 7, none⟩ = some (.int .i64 (mSealPk a0 p1_0 p1_1 p1_2 l1_3 l1_4 l1_5 l1_6)) := KX4.at_ rfl
    go_wp2_with fail
    refine Calls.mono (eq_package_same p1_0 p1_1 p1_2 l1_3 ((l1_3).length) P9_0_3 P3_0_3 pc9_0_3 pc3_0_3 _ _ _ _ l1_4 ((l1_4).length) P9_0_4 P3_0_4 pc9_0_4 pc3_0_4 _ _ _ _ l1_5 ((l1_5).length) P9_0_5 P3_0_5 pc9_0_5 pc3_0_5 _ _ _ _ l1_6 ((l1_6).length) P9_0_6 P3_0_6 pc9_0_6 pc3_0_6 _ _ _ _ (mSealPk a0 p1_0 p1_1 p1_2 l1_3 l1_4 l1_5 l1_6) _ (by omega) (by omega) (by omega) (by omega) FP9_0_3.rd FP9_0_4.rd FP9_0_5.rd FP9_0_6.rd FP3_0_3.rd FP3_0_4.rd FP3_0_5.rd FP3_0_6.rd) ?_
    rintro e w10 ⟨rfl, B16⟩
    replace R1_3 := (R1_3).new B16
    replace R1_4 := (R1_4).new B16
    replace R1_5 := (R1_5).new B16
    replace R1_6 := (R1_6).new B16
    replace KB1 := (KB1).new B16
    replace FP3_0_3 := (FP3_0_3).new B16
    replace FP3_0_4 := (FP3_0_4).new B16
    replace FP3_0_5 := (FP3_0_5).new B16
    replace FP3_0_6 := (FP3_0_6).new B16
    replace KX4 := (KX4).new B16
    replace KX7 := (KX7).new B16
    replace FP9_0_3 := (FP9_0_3).new B16
    replace FP9_0_4 := (FP9_0_4).new B16
    replace FP9_0_5 := (FP9_0_5).new B16
    replace FP9_0_6 := (FP9_0_6).new B16
    replace KX10 := (KX10).new B16
    replace FM15_3 := (FM15_3).new B16
    replace FM15_4 := (FM15_4).new B16
    replace FM15_5 := (FM15_5).new B16
    replace FM15_6 := (FM15_6).new B16
    replace G := below_trans G B16 (Nat.le_refl _)
    have S10 := Lib.hid (show w9.heap.size + 0 ≤ w10.heap.size by have := B16.size; first | (simpa using this) | ((try simp at this); omega))
    clear B16
    clear xKX10_0 xKX10_1 xKX10_2 xKX10_3 xKX10_4 xKX10_5 xKX10_6 xKX10_7 xKX4_0 xKX4_1 xKX4_2 xKX4_3 xKX4_4 xKX4_5 xKX4_6 xKX4_7
    have xKX10_0 : w10.cell? ⟨w5.heap.size, 0, none⟩ = some (.int .i64 p1_0) := KX10.at_ rfl
    have xKX10_1 : w10.cell? ⟨w5.heap.size, 1, none⟩ = some (.int .i64 p1_1) := KX10.at_ rfl
    have xKX10_2 : w10.cell? ⟨w5.heap.size, 2, none⟩ = some (.int .i64 p1_2) := KX10.at_ rfl
    have xKX10_3 : w10.cell? ⟨w5.heap.size, 3, none⟩ = some (.slice P9_0_3 ((l1_3).length) pc9_0_3) := KX10.at_ rfl
    have xKX10_4 : w10.cell? ⟨w5.heap.size, 4, none⟩ = some (.slice P9_0_4 ((l1_4).length) pc9_0_4) := KX10.at_ rfl
    have xKX10_5 : w10.cell? ⟨w5.heap.size, 5, none⟩ = some (.slice P9_0_5 ((l1_5).length) pc9_0_5) := KX10.at_ rfl
    have xKX10_6 : w10.cell? ⟨w5.heap.size, 6, none⟩ = some (.slice P9_0_6 ((l1_6).length) pc9_0_6) := KX10.at_ rfl
    have xKX10_7 : w10.cell? ⟨w5.heap.size, 7, none⟩ = some (.int .i64 (mSealPk a0 p1_0 p1_1 p1_2 l1_3 l1_4 l1_5 l1_6)) := KX10.at_ rfl
    go_wp2_with fail
    refine Calls.mono (mark_package p1_0 p1_1 p1_2 _ P9_0_3 ((l1_3).length) pc9_0_3 _ _ _ P9_0_4 ((l1_4).length) pc9_0_4 _ _ _ P9_0_5 ((l1_5).length) pc9_0_5 _ _ _ P9_0_6 ((l1_6).length) pc9_0_6 _ _ (mSealPk a0 p1_0 p1_1 p1_2 l1_3 l1_4 l1_5 l1_6) (1) ((w4.alloc (.cells #[.int .i64 p1_0, .int .i64 p1_1, .int .i64 p1_2, .slice T6_3 n1_3 tc6_3, .slice T6_4 n1_4 tc6_4, .slice T6_5 n1_5 tc6_5, .slice T6_6 n1_6 tc6_6, .int .i64 p1_7] 39)).heap.size) w5.heap.size _ (by omega) (by omega) (by omega) (by omega) (by omega) (by have := S0.out; have := S1.out; have := S2.out; have := S3.out; have := SA5.out; have := S4.out; have := SA8.out; have := S5.out; have := SA11.out; have := S6.out; have := S7.out; have := S8.out; have := S9.out; have := S10.out; have := SepPackage_bd MT2.out; have := SepPackage_bd MP3_0.out; have := SepPackage_bd MT6.out; have := SepPackage_bd MP9_0.out; have := SepPackage_bd MT13.out; omega) MP9_0 FP9_0_3 FP9_0_4 FP9_0_5 FP9_0_6) ?_
    rintro e w11 ⟨rfl, FM17_3, FM17_4, FM17_5, FM17_6, B17⟩
    replace R1_3 := (R1_3).chg B17 (by have := S0.out; have := S1.out; have := S2.out; have := S3.out; have := SA5.out; have := S4.out; have := SA8.out; have := S5.out; have := SA11.out; have := S6.out; have := S7.out; have := S8.out; have := S9.out; have := S10.out; have := SepPackage_bd MT2.out; have := SepPackage_bd MP3_0.out; have := SepPackage_bd MT6.out; have := SepPackage_bd MP9_0.out; have := SepPackage_bd MT13.out; omega)
    replace R1_4 := (R1_4).chg B17 (by have := S0.out; have := S1.out; have := S2.out; have := S3.out; have := SA5.out; have := S4.out; have := SA8.out; have := S5.out; have := SA11.out; have := S6.out; have := S7.out; have := S8.out; have := S9.out; have := S10.out; have := SepPackage_bd MT2.out; have := SepPackage_bd MP3_0.out; have := SepPackage_bd MT6.out; have := SepPackage_bd MP9_0.out; have := SepPackage_bd MT13.out; omega)
    replace R1_5 := (R1_5).chg B17 (by have := S0.out; have := S1.out; have := S2.out; have := S3.out; have := SA5.out; have := S4.out; have := SA8.out; have := S5.out; have := SA11.out; have := S6.out; have := S7.out; have := S8.out; have := S9.out; have := S10.out; have := SepPackage_bd MT2.out; have := SepPackage_bd MP3_0.out; have := SepPackage_bd MT6.out; have := SepPackage_bd MP9_0.out; have := SepPackage_bd MT13.out; omega)
    replace R1_6 := (R1_6).chg B17 (by have := S0.out; have := S1.out; have := S2.out; have := S3.out; have := SA5.out; have := S4.out; have := SA8.out; have := S5.out; have := SA11.out; have := S6.out; have := S7.out; have := S8.out; have := S9.out; have := S10.out; have := SepPackage_bd MT2.out; have := SepPackage_bd MP3_0.out; have := SepPackage_bd MT6.out; have := SepPackage_bd MP9_0.out; have := SepPackage_bd MT13.out; omega)
    replace KB1 := (KB1).chg B17 (by have := S0.out; have := S1.out; have := S2.out; have := S3.out; have := SA5.out; have := S4.out; have := SA8.out; have := S5.out; have := SA11.out; have := S6.out; have := S7.out; have := S8.out; have := S9.out; have := S10.out; have := SepPackage_bd MT2.out; have := SepPackage_bd MP3_0.out; have := SepPackage_bd MT6.out; have := SepPackage_bd MP9_0.out; have := SepPackage_bd MT13.out; omega)
    replace FP3_0_3 := (FP3_0_3).chg B17 (by have := S0.out; have := S1.out; have := S2.out; have := S3.out; have := SA5.out; have := S4.out; have := SA8.out; have := S5.out; have := SA11.out; have := S6.out; have := S7.out; have := S8.out; have := S9.out; have := S10.out; have := SepPackage_bd MT2.out; have := SepPackage_bd MP3_0.out; have := SepPackage_bd MT6.out; have := SepPackage_bd MP9_0.out; have := SepPackage_bd MT13.out; omega)
    replace FP3_0_4 := (FP3_0_4).chg B17 (by have := S0.out; have := S1.out; have := S2.out; have := S3.out; have := SA5.out; have := S4.out; have := SA8.out; have := S5.out; have := SA11.out; have := S6.out; have := S7.out; have := S8.out; have := S9.out; have := S10.out; have := SepPackage_bd MT2.out; have := SepPackage_bd MP3_0.out; have := SepPackage_bd MT6.out; have := SepPackage_bd MP9_0.out; have := SepPackage_bd MT13.out; omega)
    replace FP3_0_5 := (FP3_0_5).chg B17 (by have := S0.out; have := S1.out; have := S2.out; have := S3.out; have := SA5.out; have := S4.out; have := SA8.out; have := S5.out; have := SA11.out; have := S6.out; have := S7.out; have := S8.out; have := S9.out; have := S10.out; have := SepPackage_bd MT2.out; have := SepPackage_bd MP3_0.out; have := SepPackage_bd MT6.out; have := SepPackage_bd MP9_0.out; have := SepPackage_bd MT13.out; omega)
    replace FP3_0_6 := (FP3_0_6).chg B17 (by have := S0.out; have := S1.out; have := S2.out; have := S3.out; have := SA5.out; have := S4.out; have := SA8.out; have := S5.out; have := SA11.out; have := S6.out; have := S7.out; have := S8.out; have := S9.out; have := S10.out; have := SepPackage_bd MT2.out; have := SepPackage_bd MP3_0.out; have := SepPackage_bd MT6.out; have := SepPackage_bd MP9_0.out; have := SepPackage_bd MT13.out; omega)
    replace KX4 := (KX4).chg B17 (by have := S0.out; have := S1.out; have := S2.out; have := S3.out; have := SA5.out; have := S4.out; have := SA8.out; have := S5.out; have := SA11.out; have := S6.out; have := S7.out; have := S8.out; have := S9.out; have := S10.out; have := SepPackage_bd MT2.out; have := SepPackage_bd MP3_0.out; have := SepPackage_bd MT6.out; have := SepPackage_bd MP9_0.out; have := SepPackage_bd MT13.out; omega)
    replace KX7 := (KX7).chg B17 (by have := S0.out; have := S1.out; have := S2.out; have := S3.out; have := SA5.out; have := S4.out; have := SA8.out; have := S5.out; have := SA11.out; have := S6.out; have := S7.out; have := S8.out; have := S9.out; have := S10.out; have := SepPackage_bd MT2.out; have := SepPackage_bd MP3_0.out; have := SepPackage_bd MT6.out; have := SepPackage_bd MP9_0.out; have := SepPackage_bd MT13.out; omega)
    replace KX10 := (KX10).chg B17 (by have := S0.out; have := S1.out; have := S2.out; have := S3.out; have := SA5.out; have := S4.out; have := SA8.out; have := S5.out; have := SA11.out; have := S6.out; have := S7.out; have := S8.out; have := S9.out; have := S10.out; have := SepPackage_bd MT2.out; have := SepPackage_bd MP3_0.out; have := SepPackage_bd MT6.out; have := SepPackage_bd MP9_0.out; have := SepPackage_bd MT13.out; omega)
    replace FM15_3 := (FM15_3).chg B17 (by have := S0.out; have := S1.out; have := S2.out; have := S3.out; have := SA5.out; have := S4.out; have := SA8.out; have := S5.out; have := SA11.out; have := S6.out; have := S7.out; have := S8.out; have := S9.out; have := S10.out; have := SepPackage_bd MT2.out; have := SepPackage_bd MP3_0.out; have := SepPackage_bd MT6.out; have := SepPackage_bd MP9_0.out; have := SepPackage_bd MT13.out; omega)
    replace FM15_4 := (FM15_4).chg B17 (by have := S0.out; have := S1.out; have := S2.out; have := S3.out; have := SA5.out; have := S4.out; have := SA8.out; have := S5.out; have := SA11.out; have := S6.out; have := S7.out; have := S8.out; have := S9.out; have := S10.out; have := SepPackage_bd MT2.out; have := SepPackage_bd MP3_0.out; have := SepPackage_bd MT6.out; have := SepPackage_bd MP9_0.out; have := SepPackage_bd MT13.out; omega)
    replace FM15_5 := (FM15_5).chg B17 (by have := S0.out; have := S1.out; have := S2.out; have := S3.out; have := SA5.out; have := S4.out; have := SA8.out; have := S5.out; have := SA11.out; have := S6.out; have := S7.out; have := S8.out; have := S9.out; have := S10.out; have := SepPackage_bd MT2.out; have := SepPackage_bd MP3_0.out; have := SepPackage_bd MT6.out; have := SepPackage_bd MP9_0.out; have := SepPackage_bd MT13.out; omega)
    replace FM15_6 := (FM15_6).chg B17 (by have := S0.out; have := S1.out; have := S2.out; have := S3.out; have := SA5.out; have := S4.out; have := SA8.out; have := S5.out; have := SA11.out; have := S6.out; have := S7.out; have := S8.out; have := S9.out; have := S10.out; have := SepPackage_bd MT2.out; have := SepPackage_bd MP3_0.out; have := SepPackage_bd MT6.out; have := SepPackage_bd MP9_0.out; have := SepPackage_bd MT13.out; omega)
    replace G := G.trans (B17.below (.inl (by have := S0.out; have := S1.out; have := S2.out; have := S3.out; have := SA5.out; have := S4.out; have := SA8.out; have := S5.out; have := SA11.out; have := S6.out; have := S7.out; have := S8.out; have := S9.out; have := S10.out; have := SepPackage_bd MT2.out; have := SepPackage_bd MP3_0.out; have := SepPackage_bd MT6.out; have := SepPackage_bd MP9_0.out; have := SepPackage_bd MT13.out; omega)) (by have := S0.out; have := S1.out; have := S2.out; have := S3.out; have := SA5.out; have := S4.out; have := SA8.out; have := S5.out; have := SA11.out; have := S6.out; have := S7.out; have := S8.out; have := S9.out; have := S10.out; have := SepPackage_bd MT2.out; have := SepPackage_bd MP3_0.out; have := SepPackage_bd MT6.out; have := SepPackage_bd MP9_0.out; have := SepPackage_bd MT13.out; first | omega | (simp; omega)))
    have S11 := Lib.hid (show w10.heap.size + 0 ≤ w11.heap.size by have := B17.size; first | (simpa using this) | ((try simp at this); omega))
    clear FP9_0_3
    clear FP9_0_4
    clear FP9_0_5
    clear FP9_0_6
    clear B17
    clear xKX10_0 xKX10_1 xKX10_2 xKX10_3 xKX10_4 xKX10_5 xKX10_6 xKX10_7
    have xKX10_0 : w11.cell? ⟨w5.heap.size, 0, none⟩ = some (.int .i64 p1_0) := KX10.at_ rfl
    have xKX10_1 : w11.cell? ⟨w5.heap.size, 1, none⟩ = some (.int .i64 p1_1) := KX10.at_ rfl
    have xKX10_2 : w11.cell? ⟨w5.heap.size, 2, none⟩ = some (.int .i64 p1_2) := KX10.at_ rfl
    have xKX10_3 : w11.cell? ⟨w5.heap.size, 3, none⟩ = some (.slice P9_0_3 ((l1_3).length) pc9_0_3) := KX10.at_ rfl
    have xKX10_4 : w11.cell? ⟨w5.heap.size, 4, none⟩ = some (.slice P9_0_4 ((l1_4).length) pc9_0_4) := KX10.at_ rfl
    have xKX10_5 : w11.cell? ⟨w5.heap.size, 5, none⟩ = some (.slice P9_0_5 ((l1_5).length) pc9_0_5) := KX10.at_ rfl
    have xKX10_6 : w11.cell? ⟨w5.heap.size, 6, none⟩ = some (.slice P9_0_6 ((l1_6).length) pc9_0_6) := KX10.at_ rfl
    have xKX10_7 : w11.cell? ⟨w5.heap.size, 7, none⟩ = some (.int .i64 (mSealPk a0 p1_0 p1_1 p1_2 l1_3 l1_4 l1_5 l1_6)) := KX10.at_ rfl
    go_wp2_with fail
    refine Calls.mono (held_package p1_0 p1_1 p1_2 P9_0_3 ((l1_3).length) pc9_0_3 _ _ P9_0_4 ((l1_4).length) pc9_0_4 _ _ P9_0_5 ((l1_5).length) pc9_0_5 _ _ P9_0_6 ((l1_6).length) pc9_0_6 _ _ (mSealPk a0 p1_0 p1_1 p1_2 l1_3 l1_4 l1_5 l1_6) (1) _ (by omega) (by omega) (by omega) (by omega) (by omega) FM17_3.rd FM17_4.rd FM17_5.rd FM17_6.rd) ?_
    rintro e w12 ⟨rfl, B18⟩
    replace R1_3 := (R1_3).new B18
    replace R1_4 := (R1_4).new B18
    replace R1_5 := (R1_5).new B18
    replace R1_6 := (R1_6).new B18
    replace KB1 := (KB1).new B18
    replace FP3_0_3 := (FP3_0_3).new B18
    replace FP3_0_4 := (FP3_0_4).new B18
    replace FP3_0_5 := (FP3_0_5).new B18
    replace FP3_0_6 := (FP3_0_6).new B18
    replace KX4 := (KX4).new B18
    replace KX7 := (KX7).new B18
    replace KX10 := (KX10).new B18
    replace FM15_3 := (FM15_3).new B18
    replace FM15_4 := (FM15_4).new B18
    replace FM15_5 := (FM15_5).new B18
    replace FM15_6 := (FM15_6).new B18
    replace FM17_3 := (FM17_3).new B18
    replace FM17_4 := (FM17_4).new B18
    replace FM17_5 := (FM17_5).new B18
    replace FM17_6 := (FM17_6).new B18
    replace G := below_trans G B18 (Nat.le_refl _)
    have S12 := Lib.hid (show w11.heap.size + 0 ≤ w12.heap.size by have := B18.size; first | (simpa using this) | ((try simp at this); omega))
    clear B18
    clear xKX10_0 xKX10_1 xKX10_2 xKX10_3 xKX10_4 xKX10_5 xKX10_6 xKX10_7
    have xKB1_0 : w12.cell? ⟨w.heap.size, 0, none⟩ = some (.int .i64 p1_0) := KB1.at_ rfl
    have xKB1_1 : w12.cell? ⟨w.heap.size, 1, none⟩ = some (.int .i64 p1_1) := KB1.at_ rfl
    have xKB1_2 : w12.cell? ⟨w.heap.size, 2, none⟩ = some (.int .i64 p1_2) := KB1.at_ rfl
    have xKB1_3 : w12.cell? ⟨w.heap.size, 3, none⟩ = some (.slice A1_3 n1_3 c1_3) := KB1.at_ rfl
    have xKB1_4 : w12.cell? ⟨w.heap.size, 4, none⟩ = some (.slice A1_4 n1_4 c1_4) := KB1.at_ rfl
    have xKB1_5 : w12.cell? ⟨w.heap.size, 5, none⟩ = some (.slice A1_5 n1_5 c1_5) := KB1.at_ rfl
    have xKB1_6 : w12.cell? ⟨w.heap.size, 6, none⟩ = some (.slice A1_6 n1_6 c1_6) := KB1.at_ rfl
    have xKB1_7 : w12.cell? ⟨w.heap.size, 7, none⟩ = some (.int .i64 p1_7) := KB1.at_ rfl
    go_wp2_with fail
    refine Calls.mono (to_package p1_0 p1_1 p1_2 l1_3 A1_3 n1_3 c1_3 _ _ l1_4 A1_4 n1_4 c1_4 _ _ l1_5 A1_5 n1_5 c1_5 _ _ l1_6 A1_6 n1_6 c1_6 _ _ p1_7 _ hqn1_3 R1_3 hqn1_4 R1_4 hqn1_5 R1_5 hqn1_6 R1_6) ?_
    rintro e w13 ⟨T19_3, T19_4, T19_5, T19_6, tc19_3, tlo19_3, thi19_3, tc19_4, tlo19_4, thi19_4, tc19_5, tlo19_5, thi19_5, tc19_6, tlo19_6, thi19_6, rfl, FT19_3, FT19_4, FT19_5, FT19_6, MT19, B19⟩
    replace R1_3 := (R1_3).new B19
    replace R1_4 := (R1_4).new B19
    replace R1_5 := (R1_5).new B19
    replace R1_6 := (R1_6).new B19
    replace KB1 := (KB1).new B19
    replace FP3_0_3 := (FP3_0_3).new B19
    replace FP3_0_4 := (FP3_0_4).new B19
    replace FP3_0_5 := (FP3_0_5).new B19
    replace FP3_0_6 := (FP3_0_6).new B19
    replace KX4 := (KX4).new B19
    replace KX7 := (KX7).new B19
    replace KX10 := (KX10).new B19
    replace FM15_3 := (FM15_3).new B19
    replace FM15_4 := (FM15_4).new B19
    replace FM15_5 := (FM15_5).new B19
    replace FM15_6 := (FM15_6).new B19
    replace FM17_3 := (FM17_3).new B19
    replace FM17_4 := (FM17_4).new B19
    replace FM17_5 := (FM17_5).new B19
    replace FM17_6 := (FM17_6).new B19
    replace G := below_trans G B19 (Nat.le_refl _)
    have S13 := Lib.hid (show w12.heap.size + 0 ≤ w13.heap.size by have := B19.size; first | (simpa using this) | ((try simp at this); omega))
    clear B19
    clear xKB1_0 xKB1_1 xKB1_2 xKB1_3 xKB1_4 xKB1_5 xKB1_6 xKB1_7
    go_wp2_with fail
    refine Calls.mono (impl_SealPackageC a0 p1_0 p1_1 p1_2 l1_3 T19_3 n1_3 tc19_3 _ _ l1_4 T19_4 n1_4 tc19_4 _ _ l1_5 T19_5 n1_5 tc19_5 _ _ l1_6 T19_6 n1_6 tc19_6 _ _ p1_7 _ (pow10_below hT G) Wf0.out (by omega) FT19_3.rd FT19_3.cap H1_3 (by omega) FT19_4.rd FT19_4.cap H1_4 (by omega) FT19_5.rd FT19_5.cap H1_5 (by omega) FT19_6.rd FT19_6.cap H1_6) ?_
    rintro e w14 ⟨P20_0_3, P20_0_4, P20_0_5, P20_0_6, pc20_0_3, plo20_0_3, phi20_0_3, pc20_0_4, plo20_0_4, phi20_0_4, pc20_0_5, plo20_0_5, phi20_0_5, pc20_0_6, plo20_0_6, phi20_0_6, rfl, FP20_0_3, FP20_0_4, FP20_0_5, FP20_0_6, MP20_0, B20⟩
    replace R1_3 := (R1_3).new B20
    replace R1_4 := (R1_4).new B20
    replace R1_5 := (R1_5).new B20
    replace R1_6 := (R1_6).new B20
    replace KB1 := (KB1).new B20
    replace FP3_0_3 := (FP3_0_3).new B20
    replace FP3_0_4 := (FP3_0_4).new B20
    replace FP3_0_5 := (FP3_0_5).new B20
    replace FP3_0_6 := (FP3_0_6).new B20
    replace KX4 := (KX4).new B20
    replace KX7 := (KX7).new B20
    replace KX10 := (KX10).new B20
    replace FM15_3 := (FM15_3).new B20
    replace FM15_4 := (FM15_4).new B20
    replace FM15_5 := (FM15_5).new B20
    replace FM15_6 := (FM15_6).new B20
    replace FM17_3 := (FM17_3).new B20
    replace FM17_4 := (FM17_4).new B20
    replace FM17_5 := (FM17_5).new B20
    replace FM17_6 := (FM17_6).new B20
    replace FT19_3 := (FT19_3).new B20
    replace FT19_4 := (FT19_4).new B20
    replace FT19_5 := (FT19_5).new B20
    replace FT19_6 := (FT19_6).new B20
    replace G := below_trans G B20 (Nat.le_refl _)
    have S14 := Lib.hid (show w13.heap.size + 0 ≤ w14.heap.size by have := B20.size; first | (simpa using this) | ((try simp at this); omega))
    clear B20
    have SA22 := Lib.hid (show (w14.alloc (.cells #[.int .i64 p1_0, .int .i64 p1_1, .int .i64 p1_2, .slice P20_0_3 ((l1_3).length) pc20_0_3, .slice P20_0_4 ((l1_4).length) pc20_0_4, .slice P20_0_5 ((l1_5).length) pc20_0_5, .slice P20_0_6 ((l1_6).length) pc20_0_6, .int .i64 (mSealPk a0 p1_0 p1_1 p1_2 l1_3 l1_4 l1_5 l1_6)] 39)).heap.size = w14.heap.size + 1 by simp)
    replace R1_3 := R1_3.alloc (.cells #[.int .i64 p1_0, .int .i64 p1_1, .int .i64 p1_2, .slice P20_0_3 ((l1_3).length) pc20_0_3, .slice P20_0_4 ((l1_4).length) pc20_0_4, .slice P20_0_5 ((l1_5).length) pc20_0_5, .slice P20_0_6 ((l1_6).length) pc20_0_6, .int .i64 (mSealPk a0 p1_0 p1_1 p1_2 l1_3 l1_4 l1_5 l1_6)] 39)
    replace R1_4 := R1_4.alloc (.cells #[.int .i64 p1_0, .int .i64 p1_1, .int .i64 p1_2, .slice P20_0_3 ((l1_3).length) pc20_0_3, .slice P20_0_4 ((l1_4).length) pc20_0_4, .slice P20_0_5 ((l1_5).length) pc20_0_5, .slice P20_0_6 ((l1_6).length) pc20_0_6, .int .i64 (mSealPk a0 p1_0 p1_1 p1_2 l1_3 l1_4 l1_5 l1_6)] 39)
    replace R1_5 := R1_5.alloc (.cells #[.int .i64 p1_0, .int .i64 p1_1, .int .i64 p1_2, .slice P20_0_3 ((l1_3).length) pc20_0_3, .slice P20_0_4 ((l1_4).length) pc20_0_4, .slice P20_0_5 ((l1_5).length) pc20_0_5, .slice P20_0_6 ((l1_6).length) pc20_0_6, .int .i64 (mSealPk a0 p1_0 p1_1 p1_2 l1_3 l1_4 l1_5 l1_6)] 39)
    replace R1_6 := R1_6.alloc (.cells #[.int .i64 p1_0, .int .i64 p1_1, .int .i64 p1_2, .slice P20_0_3 ((l1_3).length) pc20_0_3, .slice P20_0_4 ((l1_4).length) pc20_0_4, .slice P20_0_5 ((l1_5).length) pc20_0_5, .slice P20_0_6 ((l1_6).length) pc20_0_6, .int .i64 (mSealPk a0 p1_0 p1_1 p1_2 l1_3 l1_4 l1_5 l1_6)] 39)
    replace KB1 := KB1.alloc_ (.cells #[.int .i64 p1_0, .int .i64 p1_1, .int .i64 p1_2, .slice P20_0_3 ((l1_3).length) pc20_0_3, .slice P20_0_4 ((l1_4).length) pc20_0_4, .slice P20_0_5 ((l1_5).length) pc20_0_5, .slice P20_0_6 ((l1_6).length) pc20_0_6, .int .i64 (mSealPk a0 p1_0 p1_1 p1_2 l1_3 l1_4 l1_5 l1_6)] 39)
    replace FP3_0_3 := FP3_0_3.alloc (.cells #[.int .i64 p1_0, .int .i64 p1_1, .int .i64 p1_2, .slice P20_0_3 ((l1_3).length) pc20_0_3, .slice P20_0_4 ((l1_4).length) pc20_0_4, .slice P20_0_5 ((l1_5).length) pc20_0_5, .slice P20_0_6 ((l1_6).length) pc20_0_6, .int .i64 (mSealPk a0 p1_0 p1_1 p1_2 l1_3 l1_4 l1_5 l1_6)] 39)
    replace FP3_0_4 := FP3_0_4.alloc (.cells #[.int .i64 p1_0, .int .i64 p1_1, .int .i64 p1_2, .slice P20_0_3 ((l1_3).length) pc20_0_3, .slice P20_0_4 ((l1_4).length) pc20_0_4, .slice P20_0_5 ((l1_5).length) pc20_0_5, .slice P20_0_6 ((l1_6).length) pc20_0_6, .int .i64 (mSealPk a0 p1_0 p1_1 p1_2 l1_3 l1_4 l1_5 l1_6)] 39)
    replace FP3_0_5 := FP3_0_5.alloc (.cells #[.int .i64 p1_0, .int .i64 p1_1, .int .i64 p1_2, .slice P20_0_3 ((l1_3).length) pc20_0_3, .slice P20_0_4 ((l1_4).length) pc20_0_4, .slice P20_0_5 ((l1_5).length) pc20_0_5, .slice P20_0_6 ((l1_6).length) pc20_0_6, .int .i64 (mSealPk a0 p1_0 p1_1 p1_2 l1_3 l1_4 l1_5 l1_6)] 39)
    replace FP3_0_6 := FP3_0_6.alloc (.cells #[.int .i64 p1_0, .int .i64 p1_1, .int .i64 p1_2, .slice P20_0_3 ((l1_3).length) pc20_0_3, .slice P20_0_4 ((l1_4).length) pc20_0_4, .slice P20_0_5 ((l1_5).length) pc20_0_5, .slice P20_0_6 ((l1_6).length) pc20_0_6, .int .i64 (mSealPk a0 p1_0 p1_1 p1_2 l1_3 l1_4 l1_5 l1_6)] 39)
    replace KX4 := KX4.alloc_ (.cells #[.int .i64 p1_0, .int .i64 p1_1, .int .i64 p1_2, .slice P20_0_3 ((l1_3).length) pc20_0_3, .slice P20_0_4 ((l1_4).length) pc20_0_4, .slice P20_0_5 ((l1_5).length) pc20_0_5, .slice P20_0_6 ((l1_6).length) pc20_0_6, .int .i64 (mSealPk a0 p1_0 p1_1 p1_2 l1_3 l1_4 l1_5 l1_6)] 39)
    replace KX7 := KX7.alloc_ (.cells #[.int .i64 p1_0, .int .i64 p1_1, .int .i64 p1_2, .slice P20_0_3 ((l1_3).length) pc20_0_3, .slice P20_0_4 ((l1_4).length) pc20_0_4, .slice P20_0_5 ((l1_5).length) pc20_0_5, .slice P20_0_6 ((l1_6).length) pc20_0_6, .int .i64 (mSealPk a0 p1_0 p1_1 p1_2 l1_3 l1_4 l1_5 l1_6)] 39)
    replace KX10 := KX10.alloc_ (.cells #[.int .i64 p1_0, .int .i64 p1_1, .int .i64 p1_2, .slice P20_0_3 ((l1_3).length) pc20_0_3, .slice P20_0_4 ((l1_4).length) pc20_0_4, .slice P20_0_5 ((l1_5).length) pc20_0_5, .slice P20_0_6 ((l1_6).length) pc20_0_6, .int .i64 (mSealPk a0 p1_0 p1_1 p1_2 l1_3 l1_4 l1_5 l1_6)] 39)
    replace FM15_3 := FM15_3.alloc (.cells #[.int .i64 p1_0, .int .i64 p1_1, .int .i64 p1_2, .slice P20_0_3 ((l1_3).length) pc20_0_3, .slice P20_0_4 ((l1_4).length) pc20_0_4, .slice P20_0_5 ((l1_5).length) pc20_0_5, .slice P20_0_6 ((l1_6).length) pc20_0_6, .int .i64 (mSealPk a0 p1_0 p1_1 p1_2 l1_3 l1_4 l1_5 l1_6)] 39)
    replace FM15_4 := FM15_4.alloc (.cells #[.int .i64 p1_0, .int .i64 p1_1, .int .i64 p1_2, .slice P20_0_3 ((l1_3).length) pc20_0_3, .slice P20_0_4 ((l1_4).length) pc20_0_4, .slice P20_0_5 ((l1_5).length) pc20_0_5, .slice P20_0_6 ((l1_6).length) pc20_0_6, .int .i64 (mSealPk a0 p1_0 p1_1 p1_2 l1_3 l1_4 l1_5 l1_6)] 39)
    replace FM15_5 := FM15_5.alloc (.cells #[.int .i64 p1_0, .int .i64 p1_1, .int .i64 p1_2, .slice P20_0_3 ((l1_3).length) pc20_0_3, .slice P20_0_4 ((l1_4).length) pc20_0_4, .slice P20_0_5 ((l1_5).length) pc20_0_5, .slice P20_0_6 ((l1_6).length) pc20_0_6, .int .i64 (mSealPk a0 p1_0 p1_1 p1_2 l1_3 l1_4 l1_5 l1_6)] 39)
    replace FM15_6 := FM15_6.alloc (.cells #[.int .i64 p1_0, .int .i64 p1_1, .int .i64 p1_2, .slice P20_0_3 ((l1_3).length) pc20_0_3, .slice P20_0_4 ((l1_4).length) pc20_0_4, .slice P20_0_5 ((l1_5).length) pc20_0_5, .slice P20_0_6 ((l1_6).length) pc20_0_6, .int .i64 (mSealPk a0 p1_0 p1_1 p1_2 l1_3 l1_4 l1_5 l1_6)] 39)
    replace FM17_3 := FM17_3.alloc (.cells #[.int .i64 p1_0, .int .i64 p1_1, .int .i64 p1_2, .slice P20_0_3 ((l1_3).length) pc20_0_3, .slice P20_0_4 ((l1_4).length) pc20_0_4, .slice P20_0_5 ((l1_5).length) pc20_0_5, .slice P20_0_6 ((l1_6).length) pc20_0_6, .int .i64 (mSealPk a0 p1_0 p1_1 p1_2 l1_3 l1_4 l1_5 l1_6)] 39)
    replace FM17_4 := FM17_4.alloc (.cells #[.int .i64 p1_0, .int .i64 p1_1, .int .i64 p1_2, .slice P20_0_3 ((l1_3).length) pc20_0_3, .slice P20_0_4 ((l1_4).length) pc20_0_4, .slice P20_0_5 ((l1_5).length) pc20_0_5, .slice P20_0_6 ((l1_6).length) pc20_0_6, .int .i64 (mSealPk a0 p1_0 p1_1 p1_2 l1_3 l1_4 l1_5 l1_6)] 39)
    replace FM17_5 := FM17_5.alloc (.cells #[.int .i64 p1_0, .int .i64 p1_1, .int .i64 p1_2, .slice P20_0_3 ((l1_3).length) pc20_0_3, .slice P20_0_4 ((l1_4).length) pc20_0_4, .slice P20_0_5 ((l1_5).length) pc20_0_5, .slice P20_0_6 ((l1_6).length) pc20_0_6, .int .i64 (mSealPk a0 p1_0 p1_1 p1_2 l1_3 l1_4 l1_5 l1_6)] 39)
    replace FM17_6 := FM17_6.alloc (.cells #[.int .i64 p1_0, .int .i64 p1_1, .int .i64 p1_2, .slice P20_0_3 ((l1_3).length) pc20_0_3, .slice P20_0_4 ((l1_4).length) pc20_0_4, .slice P20_0_5 ((l1_5).length) pc20_0_5, .slice P20_0_6 ((l1_6).length) pc20_0_6, .int .i64 (mSealPk a0 p1_0 p1_1 p1_2 l1_3 l1_4 l1_5 l1_6)] 39)
    replace FT19_3 := FT19_3.alloc (.cells #[.int .i64 p1_0, .int .i64 p1_1, .int .i64 p1_2, .slice P20_0_3 ((l1_3).length) pc20_0_3, .slice P20_0_4 ((l1_4).length) pc20_0_4, .slice P20_0_5 ((l1_5).length) pc20_0_5, .slice P20_0_6 ((l1_6).length) pc20_0_6, .int .i64 (mSealPk a0 p1_0 p1_1 p1_2 l1_3 l1_4 l1_5 l1_6)] 39)
    replace FT19_4 := FT19_4.alloc (.cells #[.int .i64 p1_0, .int .i64 p1_1, .int .i64 p1_2, .slice P20_0_3 ((l1_3).length) pc20_0_3, .slice P20_0_4 ((l1_4).length) pc20_0_4, .slice P20_0_5 ((l1_5).length) pc20_0_5, .slice P20_0_6 ((l1_6).length) pc20_0_6, .int .i64 (mSealPk a0 p1_0 p1_1 p1_2 l1_3 l1_4 l1_5 l1_6)] 39)
    replace FT19_5 := FT19_5.alloc (.cells #[.int .i64 p1_0, .int .i64 p1_1, .int .i64 p1_2, .slice P20_0_3 ((l1_3).length) pc20_0_3, .slice P20_0_4 ((l1_4).length) pc20_0_4, .slice P20_0_5 ((l1_5).length) pc20_0_5, .slice P20_0_6 ((l1_6).length) pc20_0_6, .int .i64 (mSealPk a0 p1_0 p1_1 p1_2 l1_3 l1_4 l1_5 l1_6)] 39)
    replace FT19_6 := FT19_6.alloc (.cells #[.int .i64 p1_0, .int .i64 p1_1, .int .i64 p1_2, .slice P20_0_3 ((l1_3).length) pc20_0_3, .slice P20_0_4 ((l1_4).length) pc20_0_4, .slice P20_0_5 ((l1_5).length) pc20_0_5, .slice P20_0_6 ((l1_6).length) pc20_0_6, .int .i64 (mSealPk a0 p1_0 p1_1 p1_2 l1_3 l1_4 l1_5 l1_6)] 39)
    replace FP20_0_3 := FP20_0_3.alloc (.cells #[.int .i64 p1_0, .int .i64 p1_1, .int .i64 p1_2, .slice P20_0_3 ((l1_3).length) pc20_0_3, .slice P20_0_4 ((l1_4).length) pc20_0_4, .slice P20_0_5 ((l1_5).length) pc20_0_5, .slice P20_0_6 ((l1_6).length) pc20_0_6, .int .i64 (mSealPk a0 p1_0 p1_1 p1_2 l1_3 l1_4 l1_5 l1_6)] 39)
    replace FP20_0_4 := FP20_0_4.alloc (.cells #[.int .i64 p1_0, .int .i64 p1_1, .int .i64 p1_2, .slice P20_0_3 ((l1_3).length) pc20_0_3, .slice P20_0_4 ((l1_4).length) pc20_0_4, .slice P20_0_5 ((l1_5).length) pc20_0_5, .slice P20_0_6 ((l1_6).length) pc20_0_6, .int .i64 (mSealPk a0 p1_0 p1_1 p1_2 l1_3 l1_4 l1_5 l1_6)] 39)
    replace FP20_0_5 := FP20_0_5.alloc (.cells #[.int .i64 p1_0, .int .i64 p1_1, .int .i64 p1_2, .slice P20_0_3 ((l1_3).length) pc20_0_3, .slice P20_0_4 ((l1_4).length) pc20_0_4, .slice P20_0_5 ((l1_5).length) pc20_0_5, .slice P20_0_6 ((l1_6).length) pc20_0_6, .int .i64 (mSealPk a0 p1_0 p1_1 p1_2 l1_3 l1_4 l1_5 l1_6)] 39)
    replace FP20_0_6 := FP20_0_6.alloc (.cells #[.int .i64 p1_0, .int .i64 p1_1, .int .i64 p1_2, .slice P20_0_3 ((l1_3).length) pc20_0_3, .slice P20_0_4 ((l1_4).length) pc20_0_4, .slice P20_0_5 ((l1_5).length) pc20_0_5, .slice P20_0_6 ((l1_6).length) pc20_0_6, .int .i64 (mSealPk a0 p1_0 p1_1 p1_2 l1_3 l1_4 l1_5 l1_6)] 39)
    have KX21 : BoxAt (w14.alloc (.cells #[.int .i64 p1_0, .int .i64 p1_1, .int .i64 p1_2, .slice P20_0_3 ((l1_3).length) pc20_0_3, .slice P20_0_4 ((l1_4).length) pc20_0_4, .slice P20_0_5 ((l1_5).length) pc20_0_5, .slice P20_0_6 ((l1_6).length) pc20_0_6, .int .i64 (mSealPk a0 p1_0 p1_1 p1_2 l1_3 l1_4 l1_5 l1_6)] 39)) (w14.heap.size) 39 #[.int .i64 p1_0, .int .i64 p1_1, .int .i64 p1_2, .slice P20_0_3 ((l1_3).length) pc20_0_3, .slice P20_0_4 ((l1_4).length) pc20_0_4, .slice P20_0_5 ((l1_5).length) pc20_0_5, .slice P20_0_6 ((l1_6).length) pc20_0_6, .int .i64 (mSealPk a0 p1_0 p1_1 p1_2 l1_3 l1_4 l1_5 l1_6)] := box_new _ _ _
    replace G := G.alloc (by have := S0.out; have := S1.out; have := S2.out; have := S3.out; have := SA5.out; have := S4.out; have := SA8.out; have := S5.out; have := SA11.out; have := S6.out; have := S7.out; have := S8.out; have := S9.out; have := S10.out; have := S11.out; have := S12.out; have := S13.out; have := S14.out; have := SA22.out; have := SepPackage_bd MT2.out; have := SepPackage_bd MP3_0.out; have := SepPackage_bd MT6.out; have := SepPackage_bd MP9_0.out; have := SepPackage_bd MT13.out; have := SepPackage_bd MT19.out; have := SepPackage_bd MP20_0.out; first | omega | (simp; omega)) (.cells #[.int .i64 p1_0, .int .i64 p1_1, .int .i64 p1_2, .slice P20_0_3 ((l1_3).length) pc20_0_3, .slice P20_0_4 ((l1_4).length) pc20_0_4, .slice P20_0_5 ((l1_5).length) pc20_0_5, .slice P20_0_6 ((l1_6).length) pc20_0_6, .int .i64 (mSealPk a0 p1_0 p1_1 p1_2 l1_3 l1_4 l1_5 l1_6)] 39)
    have xKX21_0 : (w14.alloc (.cells #[.int .i64 p1_0, .int .i64 p1_1, .int .i64 p1_2, .slice P20_0_3 ((l1_3).length) pc20_0_3, .slice P20_0_4 ((l1_4).length) pc20_0_4, .slice P20_0_5 ((l1_5).length) pc20_0_5, .slice P20_0_6 ((l1_6).length) pc20_0_6, .int .i64 (mSealPk a0 p1_0 p1_1 p1_2 l1_3 l1_4 l1_5 l1_6)] 39)).cell? ⟨w14.heap.size, 0, none⟩ = some (.int .i64 p1_0) := KX21.at_ rfl
    have xKX21_1 : (w14.alloc (.cells #[.int .i64 p1_0, .int .i64 p1_1, .int .i64 p1_2, .slice P20_0_3 ((l1_3).length) pc20_0_3, .slice P20_0_4 ((l1_4).length) pc20_0_4, .slice P20_0_5 ((l1_5).length) pc20_0_5, .slice P20_0_6 ((l1_6).length) pc20_0_6, .int .i64 (mSealPk a0 p1_0 p1_1 p1_2 l1_3 l1_4 l1_5 l1_6)] 39)).cell? ⟨w14.heap.size, 1, none⟩ = some (.int .i64 p1_1) := KX21.at_ rfl
    have xKX21_2 : (w14.alloc (.cells #[.int .i64 p1_0, .int .i64 p1_1, .int .i64 p1_2, .slice P20_0_3 ((l1_3).length) pc20_0_3, .slice P20_0_4 ((l1_4).length) pc20_0_4, .slice P20_0_5 ((l1_5).length) pc20_0_5, .slice P20_0_6 ((l1_6).length) pc20_0_6, .int .i64 (mSealPk a0 p1_0 p1_1 p1_2 l1_3 l1_4 l1_5 l1_6)] 39)).cell? ⟨w14.heap.size, 2, none⟩ = some (.int .i64 p1_2) := KX21.at_ rfl
    have xKX21_3 : (w14.alloc (.cells #[.int .i64 p1_0, .int .i64 p1_1, .int .i64 p1_2, .slice P20_0_3 ((l1_3).length) pc20_0_3, .slice P20_0_4 ((l1_4).length) pc20_0_4, .slice P20_0_5 ((l1_5).length) pc20_0_5, .slice P20_0_6 ((l1_6).length) pc20_0_6, .int .i64 (mSealPk a0 p1_0 p1_1 p1_2 l1_3 l1_4 l1_5 l1_6)] 39)).cell? ⟨w14.heap.size, 3, none⟩ = some (.slice P20_0_3 ((l1_3).length) pc20_0_3) := KX21.at_ rfl
    have xKX21_4 : (w14.alloc (.cells #[.int .i64 p1_0, .int .i64 p1_1, .int .i64 p1_2, .slice P20_0_3 ((l1_3).length) pc20_0_3, .slice P20_0_4 ((l1_4).length) pc20_0_4, .slice P20_0_5 ((l1_5).length) pc20_0_5, .slice P20_0_6 ((l1_6).length) pc20_0_6, .int .i64 (mSealPk a0 p1_0 p1_1 p1_2 l1_3 l1_4 l1_5 l1_6)] 39)).cell? ⟨w14.heap.size, 4, none⟩ = some (.slice P20_0_4 ((l1_4).length) pc20_0_4) := KX21.at_ rfl
    have xKX21_5 : (w14.alloc (.cells #[.int .i64 p1_0, .int .i64 p1_1, .int .i64 p1_2, .slice P20_0_3 ((l1_3).length) pc20_0_3, .slice P20_0_4 ((l1_4).length) pc20_0_4, .slice P20_0_5 ((l1_5).length) pc20_0_5, .slice P20_0_6 ((l1_6).length) pc20_0_6, .int .i64 (mSealPk a0 p1_0 p1_1 p1_2 l1_3 l1_4 l1_5 l1_6)] 39)).cell? ⟨w14.heap.size, 5, none⟩ = some (.slice P20_0_5 ((l1_5).length) pc20_0_5) := KX21.at_ rfl
    have xKX21_6 : (w14.alloc (.cells #[.int .i64 p1_0, .int .i64 p1_1, .int .i64 p1_2, .slice P20_0_3 ((l1_3).length) pc20_0_3, .slice P20_0_4 ((l1_4).length) pc20_0_4, .slice P20_0_5 ((l1_5).length) pc20_0_5, .slice P20_0_6 ((l1_6).length) pc20_0_6, .int .i64 (mSealPk a0 p1_0 p1_1 p1_2 l1_3 l1_4 l1_5 l1_6)] 39)).cell? ⟨w14.heap.size, 6, none⟩ = some (.slice P20_0_6 ((l1_6).length) pc20_0_6) := KX21.at_ rfl
    have xKX21_7 : (w14.alloc (.cells #[.int .i64 p1_0, .int .i64 p1_1, .int .i64 p1_2, .slice P20_0_3 ((l1_3).length) pc20_0_3, .slice P20_0_4 ((l1_4).length) pc20_0_4, .slice P20_0_5 ((l1_5).length) pc20_0_5, .slice P20_0_6 ((l1_6).length) pc20_0_6, .int .i64 (mSealPk a0 p1_0 p1_1 p1_2 l1_3 l1_4 l1_5 l1_6)] 39)).cell? ⟨w14.heap.size, 7, none⟩ = some (.int .i64 (mSealPk a0 p1_0 p1_1 p1_2 l1_3 l1_4 l1_5 l1_6)) := KX21.at_ rfl
    have xKX4_0 : (w14.alloc (.cells #[.int .i64 p1_0, .int .i64 p1_1, .int .i64 p1_2, .slice P20_0_3 ((l1_3).length) pc20_0_3, .slice P20_0_4 ((l1_4).length) pc20_0_4, .slice P20_0_5 ((l1_5).length) pc20_0_5, .slice P20_0_6 ((l1_6).length) pc20_0_6, .int .i64 (mSealPk a0 p1_0 p1_1 p1_2 l1_3 l1_4 l1_5 l1_6)] 39)).cell? ⟨w3.heap.size, 0, none⟩ = some (.int .i64 p1_0) := KX4.at_ rfl
    have xKX4_1 : (w14.alloc (.cells #[.int .i64 p1_0, .int .i64 p1_1, .int .i64 p1_2, .slice P20_0_3 ((l1_3).length) pc20_0_3, .slice P20_0_4 ((l1_4).length) pc20_0_4, .slice P20_0_5 ((l1_5).length) pc20_0_5, .slice P20_0_6 ((l1_6).length) pc20_0_6, .int .i64 (mSealPk a0 p1_0 p1_1 p1_2 l1_3 l1_4 l1_5 l1_6)] 39)).cell? ⟨w3.heap.size, 1, none⟩ = some (.int .i64 p1_1) := KX4.at_ rfl
    have xKX4_2 : (w14.alloc (.cells #[.int .i64 p1_0, .int .i64 p1_1, .int .i64 p1_2, .slice P20_0_3 ((l1_3).length) pc20_0_3, .slice P20_0_4 ((l1_4).length) pc20_0_4, .slice P20_0_5 ((l1_5).length) pc20_0_5, .slice P20_0_6 ((l1_6).length) pc20_0_6, .int .i64 (mSealPk a0 p1_0 p1_1 p1_2 l1_3 l1_4 l1_5 l1_6)] 39)).cell? ⟨w3.heap.size, 2, none⟩ = some (.int .i64 p1_2) := KX4.at_ rfl
    have xKX4_3 : (w14.alloc (.cells #[.int .i64 p1_0, .int .i64 p1_1, .int .i64 p1_2, .slice P20_0_3 ((l1_3).length) pc20_0_3, .slice P20_0_4 ((l1_4).length) pc20_0_4, .slice P20_0_5 ((l1_5).length) pc20_0_5, .slice P20_0_6 ((l1_6).length) pc20_0_6, .int .i64 (mSealPk a0 p1_0 p1_1 p1_2 l1_3 l1_4 l1_5 l1_6)] 39)).cell? ⟨w3.heap.size, 3, none⟩ = some (.slice P3_0_3 ((l1_3).length) pc3_0_3) := KX4.at_ rfl
    have xKX4_4 : (w14.alloc (.cells #[.int .i64 p1_0, .int .i64 p1_1, .int .i64 p1_2, .slice P20_0_3 ((l1_3).length) pc20_0_3, .slice P20_0_4 ((l1_4).length) pc20_0_4, .slice P20_0_5 ((l1_5).length) pc20_0_5, .slice P20_0_6 ((l1_6).length) pc20_0_6, .int .i64 (mSealPk a0 p1_0 p1_1 p1_2 l1_3 l1_4 l1_5 l1_6)] 39)).cell? ⟨w3.heap.size, 4, none⟩ = some (.slice P3_0_4 ((l1_4).length) pc3_0_4) := KX4.at_ rfl
    have xKX4_5 : (w14.alloc (.cells #[.int .i64 p1_0, .int .i64 p1_1, .int .i64 p1_2, .slice P20_0_3 ((l1_3).length) pc20_0_3, .slice P20_0_4 ((l1_4).length) pc20_0_4, .slice P20_0_5 ((l1_5).length) pc20_0_5, .slice P20_0_6 ((l1_6).length) pc20_0_6, .int .i64 (mSealPk a0 p1_0 p1_1 p1_2 l1_3 l1_4 l1_5 l1_6)] 39)).cell? ⟨w3.heap.size, 5, none⟩ = some (.slice P3_0_5 ((l1_5).length) pc3_0_5) := KX4.at_ rfl
    have xKX4_6 : (w14.alloc (.cells #[.int .i64 p1_0, .int .i64 p1_1, .int .i64 p1_2, .slice P20_0_3 ((l1_3).length) pc20_0_3, .slice P20_0_4 ((l1_4).length) pc20_0_4, .slice P20_0_5 ((l1_5).length) pc20_0_5, .slice P20_0_6 ((l1_6).length) pc20_0_6, .int .i64 (mSealPk a0 p1_0 p1_1 p1_2 l1_3 l1_4 l1_5 l1_6)] 39)).cell? ⟨w3.heap.size, 6, none⟩ = some (.slice P3_0_6 ((l1_6).length) pc3_0_6) := KX4.at_ rfl
    have xKX4_7 : (w14.alloc (.cells #[.int .i64 p1_0, .int .i64 p1_1, .int .i64 p1_2, .slice P20_0_3 ((l1_3).length) pc20_0_3, .slice P20_0_4 ((l1_4).length) pc20_0_4, .slice P20_0_5 ((l1_5).length) pc20_0_5, .slice P20_0_6 ((l1_6).length) pc20_0_6, .int .i64 (mSealPk a0 p1_0 p1_1 p1_2 l1_3 l1_4 l1_5 l1_6)] 39)).cell? ⟨w3.heap.size, 7, none⟩ = some (.int .i64 (mSealPk a0 p1_0 p1_1 p1_2 l1_3 l1_4 l1_5 l1_6)) := KX4.at_ rfl
    go_wp2_with fail
    refine Calls.mono (eq_package_same p1_0 p1_1 p1_2 l1_3 ((l1_3).length) P20_0_3 P3_0_3 pc20_0_3 pc3_0_3 _ _ _ _ l1_4 ((l1_4).length) P20_0_4 P3_0_4 pc20_0_4 pc3_0_4 _ _ _ _ l1_5 ((l1_5).length) P20_0_5 P3_0_5 pc20_0_5 pc3_0_5 _ _ _ _ l1_6 ((l1_6).length) P20_0_6 P3_0_6 pc20_0_6 pc3_0_6 _ _ _ _ (mSealPk a0 p1_0 p1_1 p1_2 l1_3 l1_4 l1_5 l1_6) _ (by omega) (by omega) (by omega) (by omega) FP20_0_3.rd FP20_0_4.rd FP20_0_5.rd FP20_0_6.rd FP3_0_3.rd FP3_0_4.rd FP3_0_5.rd FP3_0_6.rd) ?_
    rintro e w15 ⟨rfl, B23⟩
    replace R1_3 := (R1_3).new B23
    replace R1_4 := (R1_4).new B23
    replace R1_5 := (R1_5).new B23
    replace R1_6 := (R1_6).new B23
    replace KB1 := (KB1).new B23
    replace FP3_0_3 := (FP3_0_3).new B23
    replace FP3_0_4 := (FP3_0_4).new B23
    replace FP3_0_5 := (FP3_0_5).new B23
    replace FP3_0_6 := (FP3_0_6).new B23
    replace KX4 := (KX4).new B23
    replace KX7 := (KX7).new B23
    replace KX10 := (KX10).new B23
    replace FM15_3 := (FM15_3).new B23
    replace FM15_4 := (FM15_4).new B23
    replace FM15_5 := (FM15_5).new B23
    replace FM15_6 := (FM15_6).new B23
    replace FM17_3 := (FM17_3).new B23
    replace FM17_4 := (FM17_4).new B23
    replace FM17_5 := (FM17_5).new B23
    replace FM17_6 := (FM17_6).new B23
    replace FT19_3 := (FT19_3).new B23
    replace FT19_4 := (FT19_4).new B23
    replace FT19_5 := (FT19_5).new B23
    replace FT19_6 := (FT19_6).new B23
    replace FP20_0_3 := (FP20_0_3).new B23
    replace FP20_0_4 := (FP20_0_4).new B23
    replace FP20_0_5 := (FP20_0_5).new B23
    replace FP20_0_6 := (FP20_0_6).new B23
    replace KX21 := (KX21).new B23
    replace G := below_trans G B23 (Nat.le_refl _)
    have S15 := Lib.hid (show (w14.alloc (.cells #[.int .i64 p1_0, .int .i64 p1_1, .int .i64 p1_2, .slice P20_0_3 ((l1_3).length) pc20_0_3, .slice P20_0_4 ((l1_4).length) pc20_0_4, .slice P20_0_5 ((l1_5).length) pc20_0_5, .slice P20_0_6 ((l1_6).length) pc20_0_6, .int .i64 (mSealPk a0 p1_0 p1_1 p1_2 l1_3 l1_4 l1_5 l1_6)] 39)).heap.size + 0 ≤ w15.heap.size by have := B23.size; first | (simpa using this) | ((try simp at this); omega))
    clear B23
    clear xKX21_0 xKX21_1 xKX21_2 xKX21_3 xKX21_4 xKX21_5 xKX21_6 xKX21_7 xKX4_0 xKX4_1 xKX4_2 xKX4_3 xKX4_4 xKX4_5 xKX4_6 xKX4_7
    have xKX10_0 : w15.cell? ⟨w5.heap.size, 0, none⟩ = some (.int .i64 p1_0) := KX10.at_ rfl
    have xKX10_1 : w15.cell? ⟨w5.heap.size, 1, none⟩ = some (.int .i64 p1_1) := KX10.at_ rfl
    have xKX10_2 : w15.cell? ⟨w5.heap.size, 2, none⟩ = some (.int .i64 p1_2) := KX10.at_ rfl
    have xKX10_3 : w15.cell? ⟨w5.heap.size, 3, none⟩ = some (.slice P9_0_3 ((l1_3).length) pc9_0_3) := KX10.at_ rfl
    have xKX10_4 : w15.cell? ⟨w5.heap.size, 4, none⟩ = some (.slice P9_0_4 ((l1_4).length) pc9_0_4) := KX10.at_ rfl
    have xKX10_5 : w15.cell? ⟨w5.heap.size, 5, none⟩ = some (.slice P9_0_5 ((l1_5).length) pc9_0_5) := KX10.at_ rfl
    have xKX10_6 : w15.cell? ⟨w5.heap.size, 6, none⟩ = some (.slice P9_0_6 ((l1_6).length) pc9_0_6) := KX10.at_ rfl
    have xKX10_7 : w15.cell? ⟨w5.heap.size, 7, none⟩ = some (.int .i64 (mSealPk a0 p1_0 p1_1 p1_2 l1_3 l1_4 l1_5 l1_6)) := KX10.at_ rfl
    go_wp2_with fail
    refine Calls.mono (held_package p1_0 p1_1 p1_2 P9_0_3 ((l1_3).length) pc9_0_3 _ _ P9_0_4 ((l1_4).length) pc9_0_4 _ _ P9_0_5 ((l1_5).length) pc9_0_5 _ _ P9_0_6 ((l1_6).length) pc9_0_6 _ _ (mSealPk a0 p1_0 p1_1 p1_2 l1_3 l1_4 l1_5 l1_6) (1) _ (by omega) (by omega) (by omega) (by omega) (by omega) FM17_3.rd FM17_4.rd FM17_5.rd FM17_6.rd) ?_
    rintro e w16 ⟨rfl, B24⟩
    replace R1_3 := (R1_3).new B24
    replace R1_4 := (R1_4).new B24
    replace R1_5 := (R1_5).new B24
    replace R1_6 := (R1_6).new B24
    replace KB1 := (KB1).new B24
    replace FP3_0_3 := (FP3_0_3).new B24
    replace FP3_0_4 := (FP3_0_4).new B24
    replace FP3_0_5 := (FP3_0_5).new B24
    replace FP3_0_6 := (FP3_0_6).new B24
    replace KX4 := (KX4).new B24
    replace KX7 := (KX7).new B24
    replace KX10 := (KX10).new B24
    replace FM15_3 := (FM15_3).new B24
    replace FM15_4 := (FM15_4).new B24
    replace FM15_5 := (FM15_5).new B24
    replace FM15_6 := (FM15_6).new B24
    replace FM17_3 := (FM17_3).new B24
    replace FM17_4 := (FM17_4).new B24
    replace FM17_5 := (FM17_5).new B24
    replace FM17_6 := (FM17_6).new B24
    replace FT19_3 := (FT19_3).new B24
    replace FT19_4 := (FT19_4).new B24
    replace FT19_5 := (FT19_5).new B24
    replace FT19_6 := (FT19_6).new B24
    replace FP20_0_3 := (FP20_0_3).new B24
    replace FP20_0_4 := (FP20_0_4).new B24
    replace FP20_0_5 := (FP20_0_5).new B24
    replace FP20_0_6 := (FP20_0_6).new B24
    replace KX21 := (KX21).new B24
    replace G := below_trans G B24 (Nat.le_refl _)
    have S16 := Lib.hid (show w15.heap.size + 0 ≤ w16.heap.size by have := B24.size; first | (simpa using this) | ((try simp at this); omega))
    clear B24
    clear xKX10_0 xKX10_1 xKX10_2 xKX10_3 xKX10_4 xKX10_5 xKX10_6 xKX10_7
    go_wp2_with fail
    go_ret
    exact ⟨rfl, G⟩
  · skip
    have G : Below w.heap.size w (w.alloc (.cells #[.int .i64 p1_0, .int .i64 p1_1, .int .i64 p1_2, .slice A1_3 n1_3 c1_3, .slice A1_4 n1_4 c1_4, .slice A1_5 n1_5 c1_5, .slice A1_6 n1_6 c1_6, .int .i64 p1_7] 27)) := (Below.refl _ _).alloc (by simp) _
    have S0 := Lib.hid (show (w.alloc (.cells #[.int .i64 p1_0, .int .i64 p1_1, .int .i64 p1_2, .slice A1_3 n1_3 c1_3, .slice A1_4 n1_4 c1_4, .slice A1_5 n1_5 c1_5, .slice A1_6 n1_6 c1_6, .int .i64 p1_7] 27)).heap.size = w.heap.size + 1 by simp)
    replace R1_3 := R1_3.alloc (.cells #[.int .i64 p1_0, .int .i64 p1_1, .int .i64 p1_2, .slice A1_3 n1_3 c1_3, .slice A1_4 n1_4 c1_4, .slice A1_5 n1_5 c1_5, .slice A1_6 n1_6 c1_6, .int .i64 p1_7] 27)
    replace R1_4 := R1_4.alloc (.cells #[.int .i64 p1_0, .int .i64 p1_1, .int .i64 p1_2, .slice A1_3 n1_3 c1_3, .slice A1_4 n1_4 c1_4, .slice A1_5 n1_5 c1_5, .slice A1_6 n1_6 c1_6, .int .i64 p1_7] 27)
    replace R1_5 := R1_5.alloc (.cells #[.int .i64 p1_0, .int .i64 p1_1, .int .i64 p1_2, .slice A1_3 n1_3 c1_3, .slice A1_4 n1_4 c1_4, .slice A1_5 n1_5 c1_5, .slice A1_6 n1_6 c1_6, .int .i64 p1_7] 27)
    replace R1_6 := R1_6.alloc (.cells #[.int .i64 p1_0, .int .i64 p1_1, .int .i64 p1_2, .slice A1_3 n1_3 c1_3, .slice A1_4 n1_4 c1_4, .slice A1_5 n1_5 c1_5, .slice A1_6 n1_6 c1_6, .int .i64 p1_7] 27)
    have KB1 : BoxAt (w.alloc (.cells #[.int .i64 p1_0, .int .i64 p1_1, .int .i64 p1_2, .slice A1_3 n1_3 c1_3, .slice A1_4 n1_4 c1_4, .slice A1_5 n1_5 c1_5, .slice A1_6 n1_6 c1_6, .int .i64 p1_7] 27)) (w.heap.size) 27 #[.int .i64 p1_0, .int .i64 p1_1, .int .i64 p1_2, .slice A1_3 n1_3 c1_3, .slice A1_4 n1_4 c1_4, .slice A1_5 n1_5 c1_5, .slice A1_6 n1_6 c1_6, .int .i64 p1_7] := box_new _ _ _
    go_enter Tryz.func4, Tryz.ntmps4
    have xKB1_0 : (w.alloc (.cells #[.int .i64 p1_0, .int .i64 p1_1, .int .i64 p1_2, .slice A1_3 n1_3 c1_3, .slice A1_4 n1_4 c1_4, .slice A1_5 n1_5 c1_5, .slice A1_6 n1_6 c1_6, .int .i64 p1_7] 27)).cell? ⟨w.heap.size, 0, none⟩ = some (.int .i64 p1_0) := KB1.at_ rfl
    have xKB1_1 : (w.alloc (.cells #[.int .i64 p1_0, .int .i64 p1_1, .int .i64 p1_2, .slice A1_3 n1_3 c1_3, .slice A1_4 n1_4 c1_4, .slice A1_5 n1_5 c1_5, .slice A1_6 n1_6 c1_6, .int .i64 p1_7] 27)).cell? ⟨w.heap.size, 1, none⟩ = some (.int .i64 p1_1) := KB1.at_ rfl
    have xKB1_2 : (w.alloc (.cells #[.int .i64 p1_0, .int .i64 p1_1, .int .i64 p1_2, .slice A1_3 n1_3 c1_3, .slice A1_4 n1_4 c1_4, .slice A1_5 n1_5 c1_5, .slice A1_6 n1_6 c1_6, .int .i64 p1_7] 27)).cell? ⟨w.heap.size, 2, none⟩ = some (.int .i64 p1_2) := KB1.at_ rfl
    have xKB1_3 : (w.alloc (.cells #[.int .i64 p1_0, .int .i64 p1_1, .int .i64 p1_2, .slice A1_3 n1_3 c1_3, .slice A1_4 n1_4 c1_4, .slice A1_5 n1_5 c1_5, .slice A1_6 n1_6 c1_6, .int .i64 p1_7] 27)).cell? ⟨w.heap.size, 3, none⟩ = some (.slice A1_3 n1_3 c1_3) := KB1.at_ rfl
    have xKB1_4 : (w.alloc (.cells #[.int .i64 p1_0, .int .i64 p1_1, .int .i64 p1_2, .slice A1_3 n1_3 c1_3, .slice A1_4 n1_4 c1_4, .slice A1_5 n1_5 c1_5, .slice A1_6 n1_6 c1_6, .int .i64 p1_7] 27)).cell? ⟨w.heap.size, 4, none⟩ = some (.slice A1_4 n1_4 c1_4) := KB1.at_ rfl
    have xKB1_5 : (w.alloc (.cells #[.int .i64 p1_0, .int .i64 p1_1, .int .i64 p1_2, .slice A1_3 n1_3 c1_3, .slice A1_4 n1_4 c1_4, .slice A1_5 n1_5 c1_5, .slice A1_6 n1_6 c1_6, .int .i64 p1_7] 27)).cell? ⟨w.heap.size, 5, none⟩ = some (.slice A1_5 n1_5 c1_5) := KB1.at_ rfl
    have xKB1_6 : (w.alloc (.cells #[.int .i64 p1_0, .int .i64 p1_1, .int .i64 p1_2, .slice A1_3 n1_3 c1_3, .slice A1_4 n1_4 c1_4, .slice A1_5 n1_5 c1_5, .slice A1_6 n1_6 c1_6, .int .i64 p1_7] 27)).cell? ⟨w.heap.size, 6, none⟩ = some (.slice A1_6 n1_6 c1_6) := KB1.at_ rfl
    have xKB1_7 : (w.alloc (.cells #[.int .i64 p1_0, .int .i64 p1_1, .int .i64 p1_2, .slice A1_3 n1_3 c1_3, .slice A1_4 n1_4 c1_4, .slice A1_5 n1_5 c1_5, .slice A1_6 n1_6 c1_6, .int .i64 p1_7] 27)).cell? ⟨w.heap.size, 7, none⟩ = some (.int .i64 p1_7) := KB1.at_ rfl
    go_wp2_with fail
    refine Calls.mono (szno_package p1_0 p1_1 p1_2 A1_3 n1_3 c1_3 A1_4 n1_4 c1_4 A1_5 n1_5 c1_5 A1_6 n1_6 c1_6 p1_7 (1048576) _ hm1_3 hm1_4 hm1_5 hm1_6 (by omega) (by omega) (by omega)) ?_
    rintro e w1 ⟨rfl, B25⟩
    clear xKB1_0 xKB1_1 xKB1_2 xKB1_3 xKB1_4 xKB1_5 xKB1_6 xKB1_7
    go_wp2_with fail
    go_ret
    exact ⟨rfl, below_trans G B25 (Nat.le_refl _)⟩

set_option maxRecDepth 100000 in
theorem lifted (os : Os) (started : os.Started) (H : Type) (enc : TypeId × Value → H) :
    ReturnsInHanded {} Tryz.checked os 4 .any (fun w args => (Rows.fnExactSealPackageSpec.pre enc Tryz.prog Tryz.f4 [] false w args ∧ laidMetH Tryz.prog laidVars w) ∧ sizedMet enc Tryz.prog Tryz.f4 (OpenSpec.ofChange Rows.fnExactSealPackageSpec) false w args) (Rows.fnExactSealPackageSpec.post enc Tryz.prog Tryz.f4 false true false false) := by
  refine law_lifted_laid Tryz.func4 (by kernel_rfl) rfl rfl (by kernel_rfl) os started
    (ChangeSpec.witness_shaped (enc := enc) (C := Tryz.checked) (os := os) (X := fun w _ => laidMetH Tryz.prog laidVars w) false (World.laidAll Tryz.prog os laidVars) #[.int .i64 0, .agg #[.int .i64 0, .int .i64 0, .int .i64 0, .slice none 0 0, .slice none 0 0, .slice none 0 0, .slice none 0 0, .int .i64 0]] 8 (World.laidAll_os _ _ _)
      (World.shaped_of_ZipB (by kernel_rfl) (by kernel_rfl)) (by kernel_rfl) (by kernel_rfl) (by kernel_rfl)
      (by rw [MakeChecks.laidMetH_plain _ _ _ (by kernel_rfl)]; exact laidMet_laidAll _ (by kernel_rfl) (by kernel_rfl))) ?_
  intro W base args ds p hT hval hA hlt
  rw [Tryz.params4] at hA hval
  obtain ⟨v0, vs0, d0, ds0, p0, q0, hargs, rfl, rfl, h0, r0⟩ := trodAll_cons hA
  obtain ⟨v1, vs1, d1, ds1, p1, q1, rfl, rfl, rfl, h1, r1⟩ := trodAll_cons r0
  obtain ⟨rfl, rfl, rfl⟩ := trodAll_nil r1
  obtain rfl : args = #[v0, v1] := by cases args; simp_all
  obtain ⟨a0, rfl, rfl, rfl, wf0⟩ := open_int Tryz.underlying3 (hval 0 3 v0 rfl rfl) h0
  obtain ⟨p1_0, p1_1, p1_2, A1_3, n1_3, c1_3, l1_3, A1_4, n1_4, c1_4, l1_4, A1_5, n1_5, c1_5, l1_5, A1_6, n1_6, c1_6, l1_6, p1_7, rfl, wf1_0, wf1_1, wf1_2, m1_3, R1_3, H1_3, m1_4, R1_4, H1_4, m1_5, R1_5, H1_5, m1_6, R1_6, H1_6, wf1_7⟩ := open_package (hval 1 27 v1 rfl rfl) h1 (fun x hx => hlt x (by simp [hx]))
  exact ⟨fun _ => ⟨rfl, rfl, rfl⟩, walk a0 p1_0 p1_1 p1_2 l1_3 A1_3 n1_3 c1_3 l1_4 A1_4 n1_4 c1_4 l1_5 A1_5 n1_5 c1_5 l1_6 A1_6 n1_6 c1_6 p1_7 W hT wf0 wf1_0 wf1_1 wf1_2 m1_3 R1_3 H1_3 m1_4 R1_4 H1_4 m1_5 R1_5 H1_5 m1_6 R1_6 H1_6 wf1_7⟩

set_option maxRecDepth 100000 in
set_option maxHeartbeats 8000000 in
theorem closed : joinedFacts Tryz.pinned.checked.prog 4 Tryz.f4 Rows.fnExactSealPackageSpec Rows.fnExactSealPackageRow = true :=
  (and_i (and_i (and_i (and_i (and_i (and_i (and_i (and_i (and_i (and_i (and_i (and_i (and_i (and_i (and_i (and_i (and_i (and_i (and_i (and_i (and_i (and_i (and_i (and_i (and_i (and_i (and_i (and_i (and_i (and_i (and_i (by as_aux_lemma => kernel_rfl) seatLaid) sf_maps) (by as_aux_lemma => kernel_rfl)) (by as_aux_lemma => kernel_rfl)) (by as_aux_lemma => kernel_rfl)) (by as_aux_lemma => kernel_rfl)) (by as_aux_lemma => kernel_rfl)) (by as_aux_lemma => kernel_rfl)) (by as_aux_lemma => kernel_rfl)) (by as_aux_lemma => kernel_rfl)) (by as_aux_lemma => kernel_rfl)) (by as_aux_lemma => kernel_rfl)) (by as_aux_lemma => kernel_rfl)) (by as_aux_lemma => kernel_rfl)) (by as_aux_lemma => kernel_rfl)) (by as_aux_lemma => kernel_rfl)) (by as_aux_lemma => kernel_rfl)) (by as_aux_lemma => kernel_rfl)) (by as_aux_lemma => kernel_rfl)) (by as_aux_lemma => kernel_rfl)) (by as_aux_lemma => kernel_rfl)) sf_plain) (by as_aux_lemma => kernel_rfl)) sf_heard) sf_enter) sf_lifts) sf_make) (by as_aux_lemma => kernel_rfl)) (by as_aux_lemma => kernel_rfl)) (by as_aux_lemma => kernel_rfl)) (by as_aux_lemma => kernel_rfl))

theorem over : Rows.fnExactSealPackageRow.holds Tryz.pinned (OpenSpec.ofChange Rows.fnExactSealPackageSpec) :=
  OpenClaim.holds_of_wide 4 Tryz.f4 rfl rfl rfl rfl rfl rfl rfl ⟨rfl, rfl, rfl, rfl, rfl⟩ rfl rfl rfl rfl rfl (by kernel_rfl) Tryz.func4 closed
    (of_decide_eq_true (by kernel_rfl)) (by unfold Func.isWrapper; first | (rw [if_pos (by decide +kernel)]; kernel_rfl) | (rw [if_neg (by decide +kernel)]; exact ⟨rfl, rfl⟩))
    (fun os started H enc _ => lifted os started H enc)

theorem proved : Rows.FnExactSealPackageCardSaid :=
  Claim7.holds_tied_plain_at .later [] [.sentinel] true Rows.fnExactSealPackageCard.stood.harness true over (fun _ h => by cases h) (by kernel_rfl) (fun _ h => by cases h) fnExactSealPackage_row_tie rfl ⟨rfl, rfl⟩ (by kernel_rfl) rfl
    (fun f fn hf hfn => by
      obtain rfl : f = 4 := Option.some.inj ((show Tryz.prog.funcNamed "loop.example/g03001/laws.FnExactSealPackage" = some 4 by kernel_rfl).symm.trans hf) |>.symm
      obtain rfl : fn = Tryz.f4 := (Option.some.inj (Tryz.func4.symm.trans hfn)).symm
      exact ⟨by kernel_rfl, fun j t ht => by
        rw [Tryz.params4] at ht
        have hm : t ∈ [3, 27] := by simpa using Array.mem_of_getElem? ht
        have hall : ([3, 27].all fun u => !Tryz.prog.wantsStandIn u) = true := by kernel_rfl
        exact (show Tryz.prog.wantsStandIn t = false by simpa using List.all_eq_true.1 hall t hm)⟩)
    (by kernel_rfl)
#print axioms proved
end Go.Proofs.YtmelfgimhilhbaaGreatDoor.fnExactSealPackage
