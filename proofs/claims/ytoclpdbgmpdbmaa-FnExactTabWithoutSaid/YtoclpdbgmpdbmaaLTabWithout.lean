/- The law FnExactTabWithout answers true for every argument, and leaves each argument as it was. No condition. -/
import Derived.Deep.RegionHeld3
import Derived.Deep.DeepCutAuto
import Derived.Test.YtoclpdbgmpdbmaaFacts
import Derived.Test.YtoclpdbgmpdbmaaRTab
import Derived.Test.YtoclpdbgmpdbmaaTabWo
namespace Go.Proofs.Ytoclpdbgmpdbmaa.fnExactTabWithout
open Go Go.ChangeShapes Go.WideShapes Go.ChangeAt Go.RowKit Go.Lib
open Go.ChangeMaps (open_string)
set_option linter.unusedVariables false
set_option linter.unusedSimpArgs false
set_option maxRecDepth 100000

set_option maxRecDepth 100000 in
set_option maxHeartbeats 20000000 in
theorem walk (s0_0 : TSite) (l0_1 : List TNode) (A0_1 : Option Addr) (n0_1 c0_1 : Nat) (l0_2 : List TEdit) (A0_2 : Option Addr) (n0_2 c0_2 : Nat) (l0_3 : List Int) (A0_3 : Option Addr) (n0_3 c0_3 : Nat) (p0_4 : Int) (a1 : Int) (w : World) (H0_0 : Hid (TSite.fit s0_0)) (hm0_1 : n0_1 ≤ maxLen) (R0_1 : Rd w 0 w.heap.size 5 A0_1 n0_1 (cNode l0_1)) (H0_1 : Hid (cNodeOk l0_1)) (hm0_2 : n0_2 ≤ maxLen) (R0_2 : Rd w 0 w.heap.size 6 A0_2 n0_2 (cEdit l0_2)) (H0_2 : Hid (cEditOk l0_2)) (hm0_3 : n0_3 ≤ maxLen) (R0_3 : Rd w 0 w.heap.size 1 A0_3 n0_3 (i64s l0_3)) (H0_3 : Hid (I64s l0_3)) (wf0_4 : (Lit.int .i64 p0_4).wf = true) (wf1 : (Lit.int .i64 a1).wf = true) :
    Calls Try.prog 11 #[.agg #[.int .i64 s0_0.f0, .int .i64 s0_0.f1, .slice A0_1 n0_1 c0_1, .slice A0_2 n0_2 c0_2, .slice A0_3 n0_3 c0_3, .int .i64 p0_4], .int .i64 a1] w fun e w' => e = .returned (.bool true) ∧ Below w.heap.size w w' := by
  have hm0_1 : n0_1 ≤ 9223372036854775807 := hm0_1
  have hm0_2 : n0_2 ≤ 9223372036854775807 := hm0_2
  have hm0_3 : n0_3 ≤ 9223372036854775807 := hm0_3
  have Wf0_4 := Lib.hid wf0_4
  clear wf0_4
  have Wf1 := Lib.hid wf1
  clear wf1
  by_cases hz0 : n0_1 + n0_2 + n0_3 ≤ 1048576
  · skip
    have hl0 : (l0_1).length ≤ 1073741823 := by (have := rd_len TNode.len R0_1 (by decide); omega)
    have hl1 : (mWo l0_2 a1).length ≤ 1073741823 := by (have := rd_len TEdit.len R0_2 (by decide); have := mWo_len l0_2 a1; omega)
    have hl2 : (l0_3).length ≤ 1073741823 := by (have h2 : l0_3.length = n0_3 := (by simpa [i64s] using R0_3.1); omega)
    have hqn0_1 : n0_1 ≤ 17179869184 := by omega
    have hqn0_2 : n0_2 ≤ 17179869184 := by omega
    have hqn0_3 : n0_3 ≤ 17179869184 := by omega
    have G : Below w.heap.size w (w.alloc (.cells #[.int .i64 s0_0.f0, .int .i64 s0_0.f1, .slice A0_1 n0_1 c0_1, .slice A0_2 n0_2 c0_2, .slice A0_3 n0_3 c0_3, .int .i64 p0_4] 95)) := (Below.refl _ _).alloc (by simp) _
    have S0 := Lib.hid (show (w.alloc (.cells #[.int .i64 s0_0.f0, .int .i64 s0_0.f1, .slice A0_1 n0_1 c0_1, .slice A0_2 n0_2 c0_2, .slice A0_3 n0_3 c0_3, .int .i64 p0_4] 95)).heap.size = w.heap.size + 1 by simp)
    replace R0_1 := R0_1.alloc (.cells #[.int .i64 s0_0.f0, .int .i64 s0_0.f1, .slice A0_1 n0_1 c0_1, .slice A0_2 n0_2 c0_2, .slice A0_3 n0_3 c0_3, .int .i64 p0_4] 95)
    replace R0_2 := R0_2.alloc (.cells #[.int .i64 s0_0.f0, .int .i64 s0_0.f1, .slice A0_1 n0_1 c0_1, .slice A0_2 n0_2 c0_2, .slice A0_3 n0_3 c0_3, .int .i64 p0_4] 95)
    replace R0_3 := R0_3.alloc (.cells #[.int .i64 s0_0.f0, .int .i64 s0_0.f1, .slice A0_1 n0_1 c0_1, .slice A0_2 n0_2 c0_2, .slice A0_3 n0_3 c0_3, .int .i64 p0_4] 95)
    have KB0 : BoxAt (w.alloc (.cells #[.int .i64 s0_0.f0, .int .i64 s0_0.f1, .slice A0_1 n0_1 c0_1, .slice A0_2 n0_2 c0_2, .slice A0_3 n0_3 c0_3, .int .i64 p0_4] 95)) (w.heap.size) 95 #[.int .i64 s0_0.f0, .int .i64 s0_0.f1, .slice A0_1 n0_1 c0_1, .slice A0_2 n0_2 c0_2, .slice A0_3 n0_3 c0_3, .int .i64 p0_4] := box_new _ _ _
    go_enter Try.func11, Try.ntmps11
    have xKB0_0 : (w.alloc (.cells #[.int .i64 s0_0.f0, .int .i64 s0_0.f1, .slice A0_1 n0_1 c0_1, .slice A0_2 n0_2 c0_2, .slice A0_3 n0_3 c0_3, .int .i64 p0_4] 95)).cell? ⟨w.heap.size, 0, none⟩ = some (.int .i64 s0_0.f0) := KB0.at_ rfl
    have xKB0_1 : (w.alloc (.cells #[.int .i64 s0_0.f0, .int .i64 s0_0.f1, .slice A0_1 n0_1 c0_1, .slice A0_2 n0_2 c0_2, .slice A0_3 n0_3 c0_3, .int .i64 p0_4] 95)).cell? ⟨w.heap.size, 1, none⟩ = some (.int .i64 s0_0.f1) := KB0.at_ rfl
    have xKB0_2 : (w.alloc (.cells #[.int .i64 s0_0.f0, .int .i64 s0_0.f1, .slice A0_1 n0_1 c0_1, .slice A0_2 n0_2 c0_2, .slice A0_3 n0_3 c0_3, .int .i64 p0_4] 95)).cell? ⟨w.heap.size, 2, none⟩ = some (.slice A0_1 n0_1 c0_1) := KB0.at_ rfl
    have xKB0_3 : (w.alloc (.cells #[.int .i64 s0_0.f0, .int .i64 s0_0.f1, .slice A0_1 n0_1 c0_1, .slice A0_2 n0_2 c0_2, .slice A0_3 n0_3 c0_3, .int .i64 p0_4] 95)).cell? ⟨w.heap.size, 3, none⟩ = some (.slice A0_2 n0_2 c0_2) := KB0.at_ rfl
    have xKB0_4 : (w.alloc (.cells #[.int .i64 s0_0.f0, .int .i64 s0_0.f1, .slice A0_1 n0_1 c0_1, .slice A0_2 n0_2 c0_2, .slice A0_3 n0_3 c0_3, .int .i64 p0_4] 95)).cell? ⟨w.heap.size, 4, none⟩ = some (.slice A0_3 n0_3 c0_3) := KB0.at_ rfl
    have xKB0_5 : (w.alloc (.cells #[.int .i64 s0_0.f0, .int .i64 s0_0.f1, .slice A0_1 n0_1 c0_1, .slice A0_2 n0_2 c0_2, .slice A0_3 n0_3 c0_3, .int .i64 p0_4] 95)).cell? ⟨w.heap.size, 5, none⟩ = some (.int .i64 p0_4) := KB0.at_ rfl
    go_wp2_with fail
    refine Calls.mono (sz_tab s0_0 A0_1 n0_1 c0_1 A0_2 n0_2 c0_2 A0_3 n0_3 c0_3 p0_4 (1048576) _ hm0_1 hm0_2 hm0_3 (by omega) (by omega)) ?_
    rintro e w1 ⟨rfl, B1⟩
    replace R0_1 := (R0_1).new B1
    replace R0_2 := (R0_2).new B1
    replace R0_3 := (R0_3).new B1
    replace KB0 := (KB0).new B1
    replace G := below_trans G B1 (Nat.le_refl _)
    have S1 := Lib.hid (show (w.alloc (.cells #[.int .i64 s0_0.f0, .int .i64 s0_0.f1, .slice A0_1 n0_1 c0_1, .slice A0_2 n0_2 c0_2, .slice A0_3 n0_3 c0_3, .int .i64 p0_4] 95)).heap.size + 0 ≤ w1.heap.size by have := B1.size; first | (simpa using this) | ((try simp at this); omega))
    clear B1
    clear xKB0_0 xKB0_1 xKB0_2 xKB0_3 xKB0_4 xKB0_5
    have xKB0_0 : w1.cell? ⟨w.heap.size, 0, none⟩ = some (.int .i64 s0_0.f0) := KB0.at_ rfl
    have xKB0_1 : w1.cell? ⟨w.heap.size, 1, none⟩ = some (.int .i64 s0_0.f1) := KB0.at_ rfl
    have xKB0_2 : w1.cell? ⟨w.heap.size, 2, none⟩ = some (.slice A0_1 n0_1 c0_1) := KB0.at_ rfl
    have xKB0_3 : w1.cell? ⟨w.heap.size, 3, none⟩ = some (.slice A0_2 n0_2 c0_2) := KB0.at_ rfl
    have xKB0_4 : w1.cell? ⟨w.heap.size, 4, none⟩ = some (.slice A0_3 n0_3 c0_3) := KB0.at_ rfl
    have xKB0_5 : w1.cell? ⟨w.heap.size, 5, none⟩ = some (.int .i64 p0_4) := KB0.at_ rfl
    go_wp2_with fail
    refine Calls.mono (to_tab s0_0 l0_1 A0_1 n0_1 c0_1 _ _ l0_2 A0_2 n0_2 c0_2 _ _ l0_3 A0_3 n0_3 c0_3 _ _ p0_4 _ hqn0_1 R0_1 hqn0_2 R0_2 hqn0_3 R0_3) ?_
    rintro e w2 ⟨T2_1, T2_2, T2_3, tc2_1, tlo2_1, thi2_1, tc2_2, tlo2_2, thi2_2, tc2_3, tlo2_3, thi2_3, rfl, FT2_1, FT2_2, FT2_3, MT2, B2⟩
    replace R0_1 := (R0_1).new B2
    replace R0_2 := (R0_2).new B2
    replace R0_3 := (R0_3).new B2
    replace KB0 := (KB0).new B2
    replace G := below_trans G B2 (Nat.le_refl _)
    have S2 := Lib.hid (show w1.heap.size + 0 ≤ w2.heap.size by have := B2.size; first | (simpa using this) | ((try simp at this); omega))
    clear B2
    clear xKB0_0 xKB0_1 xKB0_2 xKB0_3 xKB0_4 xKB0_5
    go_wp2_with fail
    refine Calls.mono (spec_TabWithout s0_0 l0_1 T2_1 n0_1 tc2_1 _ _ l0_2 T2_2 n0_2 tc2_2 _ _ l0_3 T2_3 n0_3 tc2_3 _ _ p0_4 a1 _ H0_0 (by omega) FT2_1.rd H0_1 (by omega) FT2_2.rd H0_2 (by omega) FT2_3.rd H0_3 Wf1.out) ?_
    rintro e w3 ⟨P3_0_1, P3_0_2, P3_0_3, pc3_0_1, plo3_0_1, phi3_0_1, pc3_0_2, plo3_0_2, phi3_0_2, pc3_0_3, plo3_0_3, phi3_0_3, rfl, FP3_0_1, FP3_0_2, FP3_0_3, MP3_0, B3⟩
    replace R0_1 := (R0_1).new B3
    replace R0_2 := (R0_2).new B3
    replace R0_3 := (R0_3).new B3
    replace KB0 := (KB0).new B3
    replace FT2_1 := (FT2_1).new B3
    replace FT2_2 := (FT2_2).new B3
    replace FT2_3 := (FT2_3).new B3
    replace G := below_trans G B3 (Nat.le_refl _)
    have S3 := Lib.hid (show w2.heap.size + 0 ≤ w3.heap.size by have := B3.size; first | (simpa using this) | ((try simp at this); omega))
    clear B3
    clear FT2_1
    clear FT2_2
    clear FT2_3
    have SA5 := Lib.hid (show (w3.alloc (.cells #[.int .i64 s0_0.f0, .int .i64 s0_0.f1, .slice P3_0_1 ((l0_1).length) pc3_0_1, .slice P3_0_2 ((mWo l0_2 a1).length) pc3_0_2, .slice P3_0_3 ((l0_3).length) pc3_0_3, .int .i64 p0_4] 86)).heap.size = w3.heap.size + 1 by simp)
    replace R0_1 := R0_1.alloc (.cells #[.int .i64 s0_0.f0, .int .i64 s0_0.f1, .slice P3_0_1 ((l0_1).length) pc3_0_1, .slice P3_0_2 ((mWo l0_2 a1).length) pc3_0_2, .slice P3_0_3 ((l0_3).length) pc3_0_3, .int .i64 p0_4] 86)
    replace R0_2 := R0_2.alloc (.cells #[.int .i64 s0_0.f0, .int .i64 s0_0.f1, .slice P3_0_1 ((l0_1).length) pc3_0_1, .slice P3_0_2 ((mWo l0_2 a1).length) pc3_0_2, .slice P3_0_3 ((l0_3).length) pc3_0_3, .int .i64 p0_4] 86)
    replace R0_3 := R0_3.alloc (.cells #[.int .i64 s0_0.f0, .int .i64 s0_0.f1, .slice P3_0_1 ((l0_1).length) pc3_0_1, .slice P3_0_2 ((mWo l0_2 a1).length) pc3_0_2, .slice P3_0_3 ((l0_3).length) pc3_0_3, .int .i64 p0_4] 86)
    replace KB0 := KB0.alloc_ (.cells #[.int .i64 s0_0.f0, .int .i64 s0_0.f1, .slice P3_0_1 ((l0_1).length) pc3_0_1, .slice P3_0_2 ((mWo l0_2 a1).length) pc3_0_2, .slice P3_0_3 ((l0_3).length) pc3_0_3, .int .i64 p0_4] 86)
    replace FP3_0_1 := FP3_0_1.alloc (.cells #[.int .i64 s0_0.f0, .int .i64 s0_0.f1, .slice P3_0_1 ((l0_1).length) pc3_0_1, .slice P3_0_2 ((mWo l0_2 a1).length) pc3_0_2, .slice P3_0_3 ((l0_3).length) pc3_0_3, .int .i64 p0_4] 86)
    replace FP3_0_2 := FP3_0_2.alloc (.cells #[.int .i64 s0_0.f0, .int .i64 s0_0.f1, .slice P3_0_1 ((l0_1).length) pc3_0_1, .slice P3_0_2 ((mWo l0_2 a1).length) pc3_0_2, .slice P3_0_3 ((l0_3).length) pc3_0_3, .int .i64 p0_4] 86)
    replace FP3_0_3 := FP3_0_3.alloc (.cells #[.int .i64 s0_0.f0, .int .i64 s0_0.f1, .slice P3_0_1 ((l0_1).length) pc3_0_1, .slice P3_0_2 ((mWo l0_2 a1).length) pc3_0_2, .slice P3_0_3 ((l0_3).length) pc3_0_3, .int .i64 p0_4] 86)
    have KX4 : BoxAt (w3.alloc (.cells #[.int .i64 s0_0.f0, .int .i64 s0_0.f1, .slice P3_0_1 ((l0_1).length) pc3_0_1, .slice P3_0_2 ((mWo l0_2 a1).length) pc3_0_2, .slice P3_0_3 ((l0_3).length) pc3_0_3, .int .i64 p0_4] 86)) (w3.heap.size) 86 #[.int .i64 s0_0.f0, .int .i64 s0_0.f1, .slice P3_0_1 ((l0_1).length) pc3_0_1, .slice P3_0_2 ((mWo l0_2 a1).length) pc3_0_2, .slice P3_0_3 ((l0_3).length) pc3_0_3, .int .i64 p0_4] := box_new _ _ _
    replace G := G.alloc (by have := S0.out; have := S1.out; have := S2.out; have := S3.out; have := SA5.out; have := SepTab_bd MT2.out; have := SepTab_bd MP3_0.out; first | omega | (simp; omega)) (.cells #[.int .i64 s0_0.f0, .int .i64 s0_0.f1, .slice P3_0_1 ((l0_1).length) pc3_0_1, .slice P3_0_2 ((mWo l0_2 a1).length) pc3_0_2, .slice P3_0_3 ((l0_3).length) pc3_0_3, .int .i64 p0_4] 86)
    have xKB0_0 : (w3.alloc (.cells #[.int .i64 s0_0.f0, .int .i64 s0_0.f1, .slice P3_0_1 ((l0_1).length) pc3_0_1, .slice P3_0_2 ((mWo l0_2 a1).length) pc3_0_2, .slice P3_0_3 ((l0_3).length) pc3_0_3, .int .i64 p0_4] 86)).cell? ⟨w.heap.size, 0, none⟩ = some (.int .i64 s0_0.f0) := KB0.at_ rfl
    have xKB0_1 : (w3.alloc (.cells #[.int .i64 s0_0.f0, .int .i64 s0_0.f1, .slice P3_0_1 ((l0_1).length) pc3_0_1, .slice P3_0_2 ((mWo l0_2 a1).length) pc3_0_2, .slice P3_0_3 ((l0_3).length) pc3_0_3, .int .i64 p0_4] 86)).cell? ⟨w.heap.size, 1, none⟩ = some (.int .i64 s0_0.f1) := KB0.at_ rfl
    have xKB0_2 : (w3.alloc (.cells #[.int .i64 s0_0.f0, .int .i64 s0_0.f1, .slice P3_0_1 ((l0_1).length) pc3_0_1, .slice P3_0_2 ((mWo l0_2 a1).length) pc3_0_2, .slice P3_0_3 ((l0_3).length) pc3_0_3, .int .i64 p0_4] 86)).cell? ⟨w.heap.size, 2, none⟩ = some (.slice A0_1 n0_1 c0_1) := KB0.at_ rfl
    have xKB0_3 : (w3.alloc (.cells #[.int .i64 s0_0.f0, .int .i64 s0_0.f1, .slice P3_0_1 ((l0_1).length) pc3_0_1, .slice P3_0_2 ((mWo l0_2 a1).length) pc3_0_2, .slice P3_0_3 ((l0_3).length) pc3_0_3, .int .i64 p0_4] 86)).cell? ⟨w.heap.size, 3, none⟩ = some (.slice A0_2 n0_2 c0_2) := KB0.at_ rfl
    have xKB0_4 : (w3.alloc (.cells #[.int .i64 s0_0.f0, .int .i64 s0_0.f1, .slice P3_0_1 ((l0_1).length) pc3_0_1, .slice P3_0_2 ((mWo l0_2 a1).length) pc3_0_2, .slice P3_0_3 ((l0_3).length) pc3_0_3, .int .i64 p0_4] 86)).cell? ⟨w.heap.size, 4, none⟩ = some (.slice A0_3 n0_3 c0_3) := KB0.at_ rfl
    have xKB0_5 : (w3.alloc (.cells #[.int .i64 s0_0.f0, .int .i64 s0_0.f1, .slice P3_0_1 ((l0_1).length) pc3_0_1, .slice P3_0_2 ((mWo l0_2 a1).length) pc3_0_2, .slice P3_0_3 ((l0_3).length) pc3_0_3, .int .i64 p0_4] 86)).cell? ⟨w.heap.size, 5, none⟩ = some (.int .i64 p0_4) := KB0.at_ rfl
    go_wp2_with fail
    refine Calls.mono (to_tab s0_0 l0_1 A0_1 n0_1 c0_1 _ _ l0_2 A0_2 n0_2 c0_2 _ _ l0_3 A0_3 n0_3 c0_3 _ _ p0_4 _ hqn0_1 R0_1 hqn0_2 R0_2 hqn0_3 R0_3) ?_
    rintro e w4 ⟨T6_1, T6_2, T6_3, tc6_1, tlo6_1, thi6_1, tc6_2, tlo6_2, thi6_2, tc6_3, tlo6_3, thi6_3, rfl, FT6_1, FT6_2, FT6_3, MT6, B6⟩
    replace R0_1 := (R0_1).new B6
    replace R0_2 := (R0_2).new B6
    replace R0_3 := (R0_3).new B6
    replace KB0 := (KB0).new B6
    replace FP3_0_1 := (FP3_0_1).new B6
    replace FP3_0_2 := (FP3_0_2).new B6
    replace FP3_0_3 := (FP3_0_3).new B6
    replace KX4 := (KX4).new B6
    replace G := below_trans G B6 (Nat.le_refl _)
    have S4 := Lib.hid (show (w3.alloc (.cells #[.int .i64 s0_0.f0, .int .i64 s0_0.f1, .slice P3_0_1 ((l0_1).length) pc3_0_1, .slice P3_0_2 ((mWo l0_2 a1).length) pc3_0_2, .slice P3_0_3 ((l0_3).length) pc3_0_3, .int .i64 p0_4] 86)).heap.size + 0 ≤ w4.heap.size by have := B6.size; first | (simpa using this) | ((try simp at this); omega))
    clear B6
    clear xKB0_0 xKB0_1 xKB0_2 xKB0_3 xKB0_4 xKB0_5
    have SA8 := Lib.hid (show (w4.alloc (.cells #[.int .i64 s0_0.f0, .int .i64 s0_0.f1, .slice T6_1 n0_1 tc6_1, .slice T6_2 n0_2 tc6_2, .slice T6_3 n0_3 tc6_3, .int .i64 p0_4] 86)).heap.size = w4.heap.size + 1 by simp)
    replace R0_1 := R0_1.alloc (.cells #[.int .i64 s0_0.f0, .int .i64 s0_0.f1, .slice T6_1 n0_1 tc6_1, .slice T6_2 n0_2 tc6_2, .slice T6_3 n0_3 tc6_3, .int .i64 p0_4] 86)
    replace R0_2 := R0_2.alloc (.cells #[.int .i64 s0_0.f0, .int .i64 s0_0.f1, .slice T6_1 n0_1 tc6_1, .slice T6_2 n0_2 tc6_2, .slice T6_3 n0_3 tc6_3, .int .i64 p0_4] 86)
    replace R0_3 := R0_3.alloc (.cells #[.int .i64 s0_0.f0, .int .i64 s0_0.f1, .slice T6_1 n0_1 tc6_1, .slice T6_2 n0_2 tc6_2, .slice T6_3 n0_3 tc6_3, .int .i64 p0_4] 86)
    replace KB0 := KB0.alloc_ (.cells #[.int .i64 s0_0.f0, .int .i64 s0_0.f1, .slice T6_1 n0_1 tc6_1, .slice T6_2 n0_2 tc6_2, .slice T6_3 n0_3 tc6_3, .int .i64 p0_4] 86)
    replace FP3_0_1 := FP3_0_1.alloc (.cells #[.int .i64 s0_0.f0, .int .i64 s0_0.f1, .slice T6_1 n0_1 tc6_1, .slice T6_2 n0_2 tc6_2, .slice T6_3 n0_3 tc6_3, .int .i64 p0_4] 86)
    replace FP3_0_2 := FP3_0_2.alloc (.cells #[.int .i64 s0_0.f0, .int .i64 s0_0.f1, .slice T6_1 n0_1 tc6_1, .slice T6_2 n0_2 tc6_2, .slice T6_3 n0_3 tc6_3, .int .i64 p0_4] 86)
    replace FP3_0_3 := FP3_0_3.alloc (.cells #[.int .i64 s0_0.f0, .int .i64 s0_0.f1, .slice T6_1 n0_1 tc6_1, .slice T6_2 n0_2 tc6_2, .slice T6_3 n0_3 tc6_3, .int .i64 p0_4] 86)
    replace KX4 := KX4.alloc_ (.cells #[.int .i64 s0_0.f0, .int .i64 s0_0.f1, .slice T6_1 n0_1 tc6_1, .slice T6_2 n0_2 tc6_2, .slice T6_3 n0_3 tc6_3, .int .i64 p0_4] 86)
    replace FT6_1 := FT6_1.alloc (.cells #[.int .i64 s0_0.f0, .int .i64 s0_0.f1, .slice T6_1 n0_1 tc6_1, .slice T6_2 n0_2 tc6_2, .slice T6_3 n0_3 tc6_3, .int .i64 p0_4] 86)
    replace FT6_2 := FT6_2.alloc (.cells #[.int .i64 s0_0.f0, .int .i64 s0_0.f1, .slice T6_1 n0_1 tc6_1, .slice T6_2 n0_2 tc6_2, .slice T6_3 n0_3 tc6_3, .int .i64 p0_4] 86)
    replace FT6_3 := FT6_3.alloc (.cells #[.int .i64 s0_0.f0, .int .i64 s0_0.f1, .slice T6_1 n0_1 tc6_1, .slice T6_2 n0_2 tc6_2, .slice T6_3 n0_3 tc6_3, .int .i64 p0_4] 86)
    have KX7 : BoxAt (w4.alloc (.cells #[.int .i64 s0_0.f0, .int .i64 s0_0.f1, .slice T6_1 n0_1 tc6_1, .slice T6_2 n0_2 tc6_2, .slice T6_3 n0_3 tc6_3, .int .i64 p0_4] 86)) (w4.heap.size) 86 #[.int .i64 s0_0.f0, .int .i64 s0_0.f1, .slice T6_1 n0_1 tc6_1, .slice T6_2 n0_2 tc6_2, .slice T6_3 n0_3 tc6_3, .int .i64 p0_4] := box_new _ _ _
    replace G := G.alloc (by have := S0.out; have := S1.out; have := S2.out; have := S3.out; have := SA5.out; have := S4.out; have := SA8.out; have := SepTab_bd MT2.out; have := SepTab_bd MP3_0.out; have := SepTab_bd MT6.out; first | omega | (simp; omega)) (.cells #[.int .i64 s0_0.f0, .int .i64 s0_0.f1, .slice T6_1 n0_1 tc6_1, .slice T6_2 n0_2 tc6_2, .slice T6_3 n0_3 tc6_3, .int .i64 p0_4] 86)
    have xKX7_0 : (w4.alloc (.cells #[.int .i64 s0_0.f0, .int .i64 s0_0.f1, .slice T6_1 n0_1 tc6_1, .slice T6_2 n0_2 tc6_2, .slice T6_3 n0_3 tc6_3, .int .i64 p0_4] 86)).cell? ⟨w4.heap.size, 0, none⟩ = some (.int .i64 s0_0.f0) := KX7.at_ rfl
    have xKX7_1 : (w4.alloc (.cells #[.int .i64 s0_0.f0, .int .i64 s0_0.f1, .slice T6_1 n0_1 tc6_1, .slice T6_2 n0_2 tc6_2, .slice T6_3 n0_3 tc6_3, .int .i64 p0_4] 86)).cell? ⟨w4.heap.size, 1, none⟩ = some (.int .i64 s0_0.f1) := KX7.at_ rfl
    have xKX7_2 : (w4.alloc (.cells #[.int .i64 s0_0.f0, .int .i64 s0_0.f1, .slice T6_1 n0_1 tc6_1, .slice T6_2 n0_2 tc6_2, .slice T6_3 n0_3 tc6_3, .int .i64 p0_4] 86)).cell? ⟨w4.heap.size, 2, none⟩ = some (.slice T6_1 n0_1 tc6_1) := KX7.at_ rfl
    have xKX7_3 : (w4.alloc (.cells #[.int .i64 s0_0.f0, .int .i64 s0_0.f1, .slice T6_1 n0_1 tc6_1, .slice T6_2 n0_2 tc6_2, .slice T6_3 n0_3 tc6_3, .int .i64 p0_4] 86)).cell? ⟨w4.heap.size, 3, none⟩ = some (.slice T6_2 n0_2 tc6_2) := KX7.at_ rfl
    have xKX7_4 : (w4.alloc (.cells #[.int .i64 s0_0.f0, .int .i64 s0_0.f1, .slice T6_1 n0_1 tc6_1, .slice T6_2 n0_2 tc6_2, .slice T6_3 n0_3 tc6_3, .int .i64 p0_4] 86)).cell? ⟨w4.heap.size, 4, none⟩ = some (.slice T6_3 n0_3 tc6_3) := KX7.at_ rfl
    have xKX7_5 : (w4.alloc (.cells #[.int .i64 s0_0.f0, .int .i64 s0_0.f1, .slice T6_1 n0_1 tc6_1, .slice T6_2 n0_2 tc6_2, .slice T6_3 n0_3 tc6_3, .int .i64 p0_4] 86)).cell? ⟨w4.heap.size, 5, none⟩ = some (.int .i64 p0_4) := KX7.at_ rfl
    go_wp2_with fail
    refine Calls.mono (impl_TabWithout s0_0 l0_1 T6_1 n0_1 tc6_1 _ _ l0_2 T6_2 n0_2 tc6_2 _ _ l0_3 T6_3 n0_3 tc6_3 _ _ p0_4 a1 _ H0_0 (by omega) FT6_1.rd H0_1 (by omega) FT6_2.rd H0_2 (by omega) FT6_3.rd H0_3 Wf1.out) ?_
    rintro e w5 ⟨P9_0_1, P9_0_2, P9_0_3, pc9_0_1, plo9_0_1, phi9_0_1, pc9_0_2, plo9_0_2, phi9_0_2, pc9_0_3, plo9_0_3, phi9_0_3, rfl, FP9_0_1, FP9_0_2, FP9_0_3, MP9_0, B9⟩
    replace R0_1 := (R0_1).new B9
    replace R0_2 := (R0_2).new B9
    replace R0_3 := (R0_3).new B9
    replace KB0 := (KB0).new B9
    replace FP3_0_1 := (FP3_0_1).new B9
    replace FP3_0_2 := (FP3_0_2).new B9
    replace FP3_0_3 := (FP3_0_3).new B9
    replace KX4 := (KX4).new B9
    replace FT6_1 := (FT6_1).new B9
    replace FT6_2 := (FT6_2).new B9
    replace FT6_3 := (FT6_3).new B9
    replace KX7 := (KX7).new B9
    replace G := below_trans G B9 (Nat.le_refl _)
    have S5 := Lib.hid (show (w4.alloc (.cells #[.int .i64 s0_0.f0, .int .i64 s0_0.f1, .slice T6_1 n0_1 tc6_1, .slice T6_2 n0_2 tc6_2, .slice T6_3 n0_3 tc6_3, .int .i64 p0_4] 86)).heap.size + 0 ≤ w5.heap.size by have := B9.size; first | (simpa using this) | ((try simp at this); omega))
    clear B9
    clear xKX7_0 xKX7_1 xKX7_2 xKX7_3 xKX7_4 xKX7_5
    have SA11 := Lib.hid (show (w5.alloc (.cells #[.int .i64 s0_0.f0, .int .i64 s0_0.f1, .slice P9_0_1 ((l0_1).length) pc9_0_1, .slice P9_0_2 ((mWo l0_2 a1).length) pc9_0_2, .slice P9_0_3 ((l0_3).length) pc9_0_3, .int .i64 p0_4] 86)).heap.size = w5.heap.size + 1 by simp)
    replace R0_1 := R0_1.alloc (.cells #[.int .i64 s0_0.f0, .int .i64 s0_0.f1, .slice P9_0_1 ((l0_1).length) pc9_0_1, .slice P9_0_2 ((mWo l0_2 a1).length) pc9_0_2, .slice P9_0_3 ((l0_3).length) pc9_0_3, .int .i64 p0_4] 86)
    replace R0_2 := R0_2.alloc (.cells #[.int .i64 s0_0.f0, .int .i64 s0_0.f1, .slice P9_0_1 ((l0_1).length) pc9_0_1, .slice P9_0_2 ((mWo l0_2 a1).length) pc9_0_2, .slice P9_0_3 ((l0_3).length) pc9_0_3, .int .i64 p0_4] 86)
    replace R0_3 := R0_3.alloc (.cells #[.int .i64 s0_0.f0, .int .i64 s0_0.f1, .slice P9_0_1 ((l0_1).length) pc9_0_1, .slice P9_0_2 ((mWo l0_2 a1).length) pc9_0_2, .slice P9_0_3 ((l0_3).length) pc9_0_3, .int .i64 p0_4] 86)
    replace KB0 := KB0.alloc_ (.cells #[.int .i64 s0_0.f0, .int .i64 s0_0.f1, .slice P9_0_1 ((l0_1).length) pc9_0_1, .slice P9_0_2 ((mWo l0_2 a1).length) pc9_0_2, .slice P9_0_3 ((l0_3).length) pc9_0_3, .int .i64 p0_4] 86)
    replace FP3_0_1 := FP3_0_1.alloc (.cells #[.int .i64 s0_0.f0, .int .i64 s0_0.f1, .slice P9_0_1 ((l0_1).length) pc9_0_1, .slice P9_0_2 ((mWo l0_2 a1).length) pc9_0_2, .slice P9_0_3 ((l0_3).length) pc9_0_3, .int .i64 p0_4] 86)
    replace FP3_0_2 := FP3_0_2.alloc (.cells #[.int .i64 s0_0.f0, .int .i64 s0_0.f1, .slice P9_0_1 ((l0_1).length) pc9_0_1, .slice P9_0_2 ((mWo l0_2 a1).length) pc9_0_2, .slice P9_0_3 ((l0_3).length) pc9_0_3, .int .i64 p0_4] 86)
    replace FP3_0_3 := FP3_0_3.alloc (.cells #[.int .i64 s0_0.f0, .int .i64 s0_0.f1, .slice P9_0_1 ((l0_1).length) pc9_0_1, .slice P9_0_2 ((mWo l0_2 a1).length) pc9_0_2, .slice P9_0_3 ((l0_3).length) pc9_0_3, .int .i64 p0_4] 86)
    replace KX4 := KX4.alloc_ (.cells #[.int .i64 s0_0.f0, .int .i64 s0_0.f1, .slice P9_0_1 ((l0_1).length) pc9_0_1, .slice P9_0_2 ((mWo l0_2 a1).length) pc9_0_2, .slice P9_0_3 ((l0_3).length) pc9_0_3, .int .i64 p0_4] 86)
    replace FT6_1 := FT6_1.alloc (.cells #[.int .i64 s0_0.f0, .int .i64 s0_0.f1, .slice P9_0_1 ((l0_1).length) pc9_0_1, .slice P9_0_2 ((mWo l0_2 a1).length) pc9_0_2, .slice P9_0_3 ((l0_3).length) pc9_0_3, .int .i64 p0_4] 86)
    replace FT6_2 := FT6_2.alloc (.cells #[.int .i64 s0_0.f0, .int .i64 s0_0.f1, .slice P9_0_1 ((l0_1).length) pc9_0_1, .slice P9_0_2 ((mWo l0_2 a1).length) pc9_0_2, .slice P9_0_3 ((l0_3).length) pc9_0_3, .int .i64 p0_4] 86)
    replace FT6_3 := FT6_3.alloc (.cells #[.int .i64 s0_0.f0, .int .i64 s0_0.f1, .slice P9_0_1 ((l0_1).length) pc9_0_1, .slice P9_0_2 ((mWo l0_2 a1).length) pc9_0_2, .slice P9_0_3 ((l0_3).length) pc9_0_3, .int .i64 p0_4] 86)
    replace KX7 := KX7.alloc_ (.cells #[.int .i64 s0_0.f0, .int .i64 s0_0.f1, .slice P9_0_1 ((l0_1).length) pc9_0_1, .slice P9_0_2 ((mWo l0_2 a1).length) pc9_0_2, .slice P9_0_3 ((l0_3).length) pc9_0_3, .int .i64 p0_4] 86)
    replace FP9_0_1 := FP9_0_1.alloc (.cells #[.int .i64 s0_0.f0, .int .i64 s0_0.f1, .slice P9_0_1 ((l0_1).length) pc9_0_1, .slice P9_0_2 ((mWo l0_2 a1).length) pc9_0_2, .slice P9_0_3 ((l0_3).length) pc9_0_3, .int .i64 p0_4] 86)
    replace FP9_0_2 := FP9_0_2.alloc (.cells #[.int .i64 s0_0.f0, .int .i64 s0_0.f1, .slice P9_0_1 ((l0_1).length) pc9_0_1, .slice P9_0_2 ((mWo l0_2 a1).length) pc9_0_2, .slice P9_0_3 ((l0_3).length) pc9_0_3, .int .i64 p0_4] 86)
    replace FP9_0_3 := FP9_0_3.alloc (.cells #[.int .i64 s0_0.f0, .int .i64 s0_0.f1, .slice P9_0_1 ((l0_1).length) pc9_0_1, .slice P9_0_2 ((mWo l0_2 a1).length) pc9_0_2, .slice P9_0_3 ((l0_3).length) pc9_0_3, .int .i64 p0_4] 86)
    have KX10 : BoxAt (w5.alloc (.cells #[.int .i64 s0_0.f0, .int .i64 s0_0.f1, .slice P9_0_1 ((l0_1).length) pc9_0_1, .slice P9_0_2 ((mWo l0_2 a1).length) pc9_0_2, .slice P9_0_3 ((l0_3).length) pc9_0_3, .int .i64 p0_4] 86)) (w5.heap.size) 86 #[.int .i64 s0_0.f0, .int .i64 s0_0.f1, .slice P9_0_1 ((l0_1).length) pc9_0_1, .slice P9_0_2 ((mWo l0_2 a1).length) pc9_0_2, .slice P9_0_3 ((l0_3).length) pc9_0_3, .int .i64 p0_4] := box_new _ _ _
    replace G := G.alloc (by have := S0.out; have := S1.out; have := S2.out; have := S3.out; have := SA5.out; have := S4.out; have := SA8.out; have := S5.out; have := SA11.out; have := SepTab_bd MT2.out; have := SepTab_bd MP3_0.out; have := SepTab_bd MT6.out; have := SepTab_bd MP9_0.out; first | omega | (simp; omega)) (.cells #[.int .i64 s0_0.f0, .int .i64 s0_0.f1, .slice P9_0_1 ((l0_1).length) pc9_0_1, .slice P9_0_2 ((mWo l0_2 a1).length) pc9_0_2, .slice P9_0_3 ((l0_3).length) pc9_0_3, .int .i64 p0_4] 86)
    have xKX10_0 : (w5.alloc (.cells #[.int .i64 s0_0.f0, .int .i64 s0_0.f1, .slice P9_0_1 ((l0_1).length) pc9_0_1, .slice P9_0_2 ((mWo l0_2 a1).length) pc9_0_2, .slice P9_0_3 ((l0_3).length) pc9_0_3, .int .i64 p0_4] 86)).cell? ⟨w5.heap.size, 0, none⟩ = some (.int .i64 s0_0.f0) := KX10.at_ rfl
    have xKX10_1 : (w5.alloc (.cells #[.int .i64 s0_0.f0, .int .i64 s0_0.f1, .slice P9_0_1 ((l0_1).length) pc9_0_1, .slice P9_0_2 ((mWo l0_2 a1).length) pc9_0_2, .slice P9_0_3 ((l0_3).length) pc9_0_3, .int .i64 p0_4] 86)).cell? ⟨w5.heap.size, 1, none⟩ = some (.int .i64 s0_0.f1) := KX10.at_ rfl
    have xKX10_2 : (w5.alloc (.cells #[.int .i64 s0_0.f0, .int .i64 s0_0.f1, .slice P9_0_1 ((l0_1).length) pc9_0_1, .slice P9_0_2 ((mWo l0_2 a1).length) pc9_0_2, .slice P9_0_3 ((l0_3).length) pc9_0_3, .int .i64 p0_4] 86)).cell? ⟨w5.heap.size, 2, none⟩ = some (.slice P9_0_1 ((l0_1).length) pc9_0_1) := KX10.at_ rfl
    have xKX10_3 : (w5.alloc (.cells #[.int .i64 s0_0.f0, .int .i64 s0_0.f1, .slice P9_0_1 ((l0_1).length) pc9_0_1, .slice P9_0_2 ((mWo l0_2 a1).length) pc9_0_2, .slice P9_0_3 ((l0_3).length) pc9_0_3, .int .i64 p0_4] 86)).cell? ⟨w5.heap.size, 3, none⟩ = some (.slice P9_0_2 ((mWo l0_2 a1).length) pc9_0_2) := KX10.at_ rfl
    have xKX10_4 : (w5.alloc (.cells #[.int .i64 s0_0.f0, .int .i64 s0_0.f1, .slice P9_0_1 ((l0_1).length) pc9_0_1, .slice P9_0_2 ((mWo l0_2 a1).length) pc9_0_2, .slice P9_0_3 ((l0_3).length) pc9_0_3, .int .i64 p0_4] 86)).cell? ⟨w5.heap.size, 4, none⟩ = some (.slice P9_0_3 ((l0_3).length) pc9_0_3) := KX10.at_ rfl
    have xKX10_5 : (w5.alloc (.cells #[.int .i64 s0_0.f0, .int .i64 s0_0.f1, .slice P9_0_1 ((l0_1).length) pc9_0_1, .slice P9_0_2 ((mWo l0_2 a1).length) pc9_0_2, .slice P9_0_3 ((l0_3).length) pc9_0_3, .int .i64 p0_4] 86)).cell? ⟨w5.heap.size, 5, none⟩ = some (.int .i64 p0_4) := KX10.at_ rfl
    have xKX4_0 : (w5.alloc (.cells #[.int .i64 s0_0.f0, .int .i64 s0_0.f1, .slice P9_0_1 ((l0_1).length) pc9_0_1, .slice P9_0_2 ((mWo l0_2 a1).length) pc9_0_2, .slice P9_0_3 ((l0_3).length) pc9_0_3, .int .i64 p0_4] 86)).cell? ⟨w3.heap.size, 0, none⟩ = some (.int .i64 s0_0.f0) := KX4.at_ rfl
    have xKX4_1 : (w5.alloc (.cells #[.int .i64 s0_0.f0, .int .i64 s0_0.f1, .slice P9_0_1 ((l0_1).length) pc9_0_1, .slice P9_0_2 ((mWo l0_2 a1).length) pc9_0_2, .slice P9_0_3 ((l0_3).length) pc9_0_3, .int .i64 p0_4] 86)).cell? ⟨w3.heap.size, 1, none⟩ = some (.int .i64 s0_0.f1) := KX4.at_ rfl
    have xKX4_2 : (w5.alloc (.cells #[.int .i64 s0_0.f0, .int .i64 s0_0.f1, .slice P9_0_1 ((l0_1).length) pc9_0_1, .slice P9_0_2 ((mWo l0_2 a1).length) pc9_0_2, .slice P9_0_3 ((l0_3).length) pc9_0_3, .int .i64 p0_4] 86)).cell? ⟨w3.heap.size, 2, none⟩ = some (.slice P3_0_1 ((l0_1).length) pc3_0_1) := KX4.at_ rfl
    have xKX4_3 : (w5.alloc (.cells #[.int .i64 s0_0.f0, .int .i64 s0_0.f1, .slice P9_0_1 ((l0_1).length) pc9_0_1, .slice P9_0_2 ((mWo l0_2 a1).length) pc9_0_2, .slice P9_0_3 ((l0_3).length) pc9_0_3, .int .i64 p0_4] 86)).cell? ⟨w3.heap.size, 3, none⟩ = some (.slice P3_0_2 ((mWo l0_2 a1).length) pc3_0_2) := KX4.at_ rfl
    have xKX4_4 : (w5.alloc (.cells #[.int .i64 s0_0.f0, .int .i64 s0_0.f1, .slice P9_0_1 ((l0_1).length) pc9_0_1, .slice P9_0_2 ((mWo l0_2 a1).length) pc9_0_2, .slice P9_0_3 ((l0_3).length) pc9_0_3, .int .i64 p0_4] 86)).cell? ⟨w3.heap.size, 4, none⟩ = some (.slice P3_0_3 ((l0_3).length) pc3_0_3) := KX4.at_ rfl
    have xKX4_5 : (w5.alloc (.cells #[.int .i64 s0_0.f0, .int .i64 s0_0.f1, .slice P9_0_1 ((l0_1).length) pc9_0_1, .slice P9_0_2 ((mWo l0_2 a1).length) pc9_0_2, .slice P9_0_3 ((l0_3).length) pc9_0_3, .int .i64 p0_4] 86)).cell? ⟨w3.heap.size, 5, none⟩ = some (.int .i64 p0_4) := KX4.at_ rfl
    go_wp2_with fail
    refine Calls.mono (eq_tab_same s0_0 l0_1 ((l0_1).length) P9_0_1 P3_0_1 pc9_0_1 pc3_0_1 _ _ _ _ (mWo l0_2 a1) ((mWo l0_2 a1).length) P9_0_2 P3_0_2 pc9_0_2 pc3_0_2 _ _ _ _ l0_3 ((l0_3).length) P9_0_3 P3_0_3 pc9_0_3 pc3_0_3 _ _ _ _ p0_4 _ (by omega) (by omega) (by omega) FP9_0_1.rd FP9_0_2.rd FP9_0_3.rd FP3_0_1.rd FP3_0_2.rd FP3_0_3.rd) ?_
    rintro e w6 ⟨rfl, B12⟩
    replace R0_1 := (R0_1).new B12
    replace R0_2 := (R0_2).new B12
    replace R0_3 := (R0_3).new B12
    replace KB0 := (KB0).new B12
    replace FP3_0_1 := (FP3_0_1).new B12
    replace FP3_0_2 := (FP3_0_2).new B12
    replace FP3_0_3 := (FP3_0_3).new B12
    replace KX4 := (KX4).new B12
    replace FT6_1 := (FT6_1).new B12
    replace FT6_2 := (FT6_2).new B12
    replace FT6_3 := (FT6_3).new B12
    replace KX7 := (KX7).new B12
    replace FP9_0_1 := (FP9_0_1).new B12
    replace FP9_0_2 := (FP9_0_2).new B12
    replace FP9_0_3 := (FP9_0_3).new B12
    replace KX10 := (KX10).new B12
    replace G := below_trans G B12 (Nat.le_refl _)
    have S6 := Lib.hid (show (w5.alloc (.cells #[.int .i64 s0_0.f0, .int .i64 s0_0.f1, .slice P9_0_1 ((l0_1).length) pc9_0_1, .slice P9_0_2 ((mWo l0_2 a1).length) pc9_0_2, .slice P9_0_3 ((l0_3).length) pc9_0_3, .int .i64 p0_4] 86)).heap.size + 0 ≤ w6.heap.size by have := B12.size; first | (simpa using this) | ((try simp at this); omega))
    clear B12
    clear xKX10_0 xKX10_1 xKX10_2 xKX10_3 xKX10_4 xKX10_5 xKX4_0 xKX4_1 xKX4_2 xKX4_3 xKX4_4 xKX4_5
    go_wp2_with fail
    replace G := G.drew
    replace R0_1 := R0_1.drw
    replace R0_2 := R0_2.drw
    replace R0_3 := R0_3.drw
    replace KB0 := KB0.drw
    replace FP3_0_1 := FP3_0_1.drw
    replace FP3_0_2 := FP3_0_2.drw
    replace FP3_0_3 := FP3_0_3.drw
    replace KX4 := KX4.drw
    replace FT6_1 := FT6_1.drw
    replace FT6_2 := FT6_2.drw
    replace FT6_3 := FT6_3.drw
    replace KX7 := KX7.drw
    replace FP9_0_1 := FP9_0_1.drw
    replace FP9_0_2 := FP9_0_2.drw
    replace FP9_0_3 := FP9_0_3.drw
    replace KX10 := KX10.drw
    go_region_held3 (fun w' => w'.cell? ⟨w4.heap.size, 0, none⟩ = some (.int .i64 s0_0.f0) ∧ w'.cell? ⟨w4.heap.size, 1, none⟩ = some (.int .i64 s0_0.f1) ∧ w'.cell? ⟨w4.heap.size, 2, none⟩ = some (.slice T6_1 n0_1 tc6_1) ∧ w'.cell? ⟨w4.heap.size, 3, none⟩ = some (.slice T6_2 n0_2 tc6_2) ∧ w'.cell? ⟨w4.heap.size, 4, none⟩ = some (.slice T6_3 n0_3 tc6_3) ∧ w'.cell? ⟨w4.heap.size, 5, none⟩ = some (.int .i64 p0_4) ∧ w'.cell? ⟨w.heap.size, 0, none⟩ = some (.int .i64 s0_0.f0) ∧ w'.cell? ⟨w.heap.size, 1, none⟩ = some (.int .i64 s0_0.f1) ∧ w'.cell? ⟨w.heap.size, 2, none⟩ = some (.slice A0_1 n0_1 c0_1) ∧ w'.cell? ⟨w.heap.size, 3, none⟩ = some (.slice A0_2 n0_2 c0_2) ∧ w'.cell? ⟨w.heap.size, 4, none⟩ = some (.slice A0_3 n0_3 c0_3) ∧ w'.cell? ⟨w.heap.size, 5, none⟩ = some (.int .i64 p0_4))
      (exact ⟨KX7.at_ rfl, KX7.at_ rfl, KX7.at_ rfl, KX7.at_ rfl, KX7.at_ rfl, KX7.at_ rfl, KB0.at_ rfl, KB0.at_ rfl, KB0.at_ rfl, KB0.at_ rfl, KB0.at_ rfl, KB0.at_ rfl⟩)
      (first
        | (go_at_call 64; (fail_if_success (have hx := B13)); refine Calls.mono (to_tab s0_0 l0_1 A0_1 n0_1 c0_1 _ _ l0_2 A0_2 n0_2 c0_2 _ _ l0_3 A0_3 n0_3 c0_3 _ _ p0_4 _ hqn0_1 R0_1 hqn0_2 R0_2 hqn0_3 R0_3) ?_; rintro e w7 ⟨T13_1, T13_2, T13_3, tc13_1, tlo13_1, thi13_1, tc13_2, tlo13_2, thi13_2, tc13_3, tlo13_3, thi13_3, rfl, FT13_1, FT13_2, FT13_3, MT13, B13⟩; (replace R0_1 := rd_nw B13 R0_1); (replace R0_2 := rd_nw B13 R0_2); (replace R0_3 := rd_nw B13 R0_3); (replace KB0 := box_nw B13 KB0); (replace FP3_0_1 := fr_nw B13 FP3_0_1); (replace FP3_0_2 := fr_nw B13 FP3_0_2); (replace FP3_0_3 := fr_nw B13 FP3_0_3); (replace KX4 := box_nw B13 KX4); (replace FT6_1 := fr_nw B13 FT6_1); (replace FT6_2 := fr_nw B13 FT6_2); (replace FT6_3 := fr_nw B13 FT6_3); (replace KX7 := box_nw B13 KX7); (replace FP9_0_1 := fr_nw B13 FP9_0_1); (replace FP9_0_2 := fr_nw B13 FP9_0_2); (replace FP9_0_3 := fr_nw B13 FP9_0_3); (replace KX10 := box_nw B13 KX10); (replace G := (by first | exact below_trans G B13 (Nat.le_refl _) | exact below_trans G.drew B13 (Nat.le_refl _) | exact below_trans (below_dN G _) B13 (Nat.le_refl _))); (have S7 := Lib.hid (show w6.heap.size ≤ w7.heap.size from B13.size)))
        | (go_at_call 59; (fail_if_success (have hx := B14)); refine Calls.mono (eq_tab_same s0_0 l0_1 n0_1 T6_1 T13_1 tc6_1 tc13_1 _ _ _ _ l0_2 n0_2 T6_2 T13_2 tc6_2 tc13_2 _ _ _ _ l0_3 n0_3 T6_3 T13_3 tc6_3 tc13_3 _ _ _ _ p0_4 _ (by omega) (by omega) (by omega) FT6_1.rd FT6_2.rd FT6_3.rd FT13_1.rd FT13_2.rd FT13_3.rd) ?_; rintro e w8 ⟨rfl, B14⟩; (replace R0_1 := rd_nw B14 R0_1); (replace R0_2 := rd_nw B14 R0_2); (replace R0_3 := rd_nw B14 R0_3); (replace KB0 := box_nw B14 KB0); (replace FP3_0_1 := fr_nw B14 FP3_0_1); (replace FP3_0_2 := fr_nw B14 FP3_0_2); (replace FP3_0_3 := fr_nw B14 FP3_0_3); (replace KX4 := box_nw B14 KX4); (replace FT6_1 := fr_nw B14 FT6_1); (replace FT6_2 := fr_nw B14 FT6_2); (replace FT6_3 := fr_nw B14 FT6_3); (replace KX7 := box_nw B14 KX7); (replace FP9_0_1 := fr_nw B14 FP9_0_1); (replace FP9_0_2 := fr_nw B14 FP9_0_2); (replace FP9_0_3 := fr_nw B14 FP9_0_3); (replace KX10 := box_nw B14 KX10); (replace FT13_1 := fr_nw B14 FT13_1); (replace FT13_2 := fr_nw B14 FT13_2); (replace FT13_3 := fr_nw B14 FT13_3); (replace G := (by first | exact below_trans G B14 (Nat.le_refl _) | exact below_trans G.drew B14 (Nat.le_refl _) | exact below_trans (below_dN G _) B14 (Nat.le_refl _))); (have S8 := Lib.hid (show w7.heap.size ≤ w8.heap.size from B14.size))))
    clear B13
    clear B14
    clear FT13_1
    clear FT13_2
    clear FT13_3
    have xKX7_0 : w8.cell? ⟨w4.heap.size, 0, none⟩ = some (.int .i64 s0_0.f0) := KX7.at_ rfl
    have xKX7_1 : w8.cell? ⟨w4.heap.size, 1, none⟩ = some (.int .i64 s0_0.f1) := KX7.at_ rfl
    have xKX7_2 : w8.cell? ⟨w4.heap.size, 2, none⟩ = some (.slice T6_1 n0_1 tc6_1) := KX7.at_ rfl
    have xKX7_3 : w8.cell? ⟨w4.heap.size, 3, none⟩ = some (.slice T6_2 n0_2 tc6_2) := KX7.at_ rfl
    have xKX7_4 : w8.cell? ⟨w4.heap.size, 4, none⟩ = some (.slice T6_3 n0_3 tc6_3) := KX7.at_ rfl
    have xKX7_5 : w8.cell? ⟨w4.heap.size, 5, none⟩ = some (.int .i64 p0_4) := KX7.at_ rfl
    go_wp2_with fail
    refine Calls.mono (mark_tab s0_0 _ T6_1 n0_1 tc6_1 _ _ _ T6_2 n0_2 tc6_2 _ _ _ T6_3 n0_3 tc6_3 _ _ p0_4 (1) ((w3.alloc (.cells #[.int .i64 s0_0.f0, .int .i64 s0_0.f1, .slice P3_0_1 ((l0_1).length) pc3_0_1, .slice P3_0_2 ((mWo l0_2 a1).length) pc3_0_2, .slice P3_0_3 ((l0_3).length) pc3_0_3, .int .i64 p0_4] 86)).heap.size) w4.heap.size _ (by omega) (by omega) (by omega) (by omega) (by have := S0.out; have := S1.out; have := S2.out; have := S3.out; have := SA5.out; have := S4.out; have := SA8.out; have := S5.out; have := SA11.out; have := S6.out; have := S7.out; have := S8.out; have := SepTab_bd MT2.out; have := SepTab_bd MP3_0.out; have := SepTab_bd MT6.out; have := SepTab_bd MP9_0.out; have := SepTab_bd MT13.out; omega) MT6 FT6_1 FT6_2 FT6_3) ?_
    rintro e w9 ⟨rfl, FM15_1, FM15_2, FM15_3, B15⟩
    replace R0_1 := (R0_1).chg B15 (by have := S0.out; have := S1.out; have := S2.out; have := S3.out; have := SA5.out; have := S4.out; have := SA8.out; have := S5.out; have := SA11.out; have := S6.out; have := S7.out; have := S8.out; have := SepTab_bd MT2.out; have := SepTab_bd MP3_0.out; have := SepTab_bd MT6.out; have := SepTab_bd MP9_0.out; have := SepTab_bd MT13.out; omega)
    replace R0_2 := (R0_2).chg B15 (by have := S0.out; have := S1.out; have := S2.out; have := S3.out; have := SA5.out; have := S4.out; have := SA8.out; have := S5.out; have := SA11.out; have := S6.out; have := S7.out; have := S8.out; have := SepTab_bd MT2.out; have := SepTab_bd MP3_0.out; have := SepTab_bd MT6.out; have := SepTab_bd MP9_0.out; have := SepTab_bd MT13.out; omega)
    replace R0_3 := (R0_3).chg B15 (by have := S0.out; have := S1.out; have := S2.out; have := S3.out; have := SA5.out; have := S4.out; have := SA8.out; have := S5.out; have := SA11.out; have := S6.out; have := S7.out; have := S8.out; have := SepTab_bd MT2.out; have := SepTab_bd MP3_0.out; have := SepTab_bd MT6.out; have := SepTab_bd MP9_0.out; have := SepTab_bd MT13.out; omega)
    replace KB0 := (KB0).chg B15 (by have := S0.out; have := S1.out; have := S2.out; have := S3.out; have := SA5.out; have := S4.out; have := SA8.out; have := S5.out; have := SA11.out; have := S6.out; have := S7.out; have := S8.out; have := SepTab_bd MT2.out; have := SepTab_bd MP3_0.out; have := SepTab_bd MT6.out; have := SepTab_bd MP9_0.out; have := SepTab_bd MT13.out; omega)
    replace FP3_0_1 := (FP3_0_1).chg B15 (by have := S0.out; have := S1.out; have := S2.out; have := S3.out; have := SA5.out; have := S4.out; have := SA8.out; have := S5.out; have := SA11.out; have := S6.out; have := S7.out; have := S8.out; have := SepTab_bd MT2.out; have := SepTab_bd MP3_0.out; have := SepTab_bd MT6.out; have := SepTab_bd MP9_0.out; have := SepTab_bd MT13.out; omega)
    replace FP3_0_2 := (FP3_0_2).chg B15 (by have := S0.out; have := S1.out; have := S2.out; have := S3.out; have := SA5.out; have := S4.out; have := SA8.out; have := S5.out; have := SA11.out; have := S6.out; have := S7.out; have := S8.out; have := SepTab_bd MT2.out; have := SepTab_bd MP3_0.out; have := SepTab_bd MT6.out; have := SepTab_bd MP9_0.out; have := SepTab_bd MT13.out; omega)
    replace FP3_0_3 := (FP3_0_3).chg B15 (by have := S0.out; have := S1.out; have := S2.out; have := S3.out; have := SA5.out; have := S4.out; have := SA8.out; have := S5.out; have := SA11.out; have := S6.out; have := S7.out; have := S8.out; have := SepTab_bd MT2.out; have := SepTab_bd MP3_0.out; have := SepTab_bd MT6.out; have := SepTab_bd MP9_0.out; have := SepTab_bd MT13.out; omega)
    replace KX4 := (KX4).chg B15 (by have := S0.out; have := S1.out; have := S2.out; have := S3.out; have := SA5.out; have := S4.out; have := SA8.out; have := S5.out; have := SA11.out; have := S6.out; have := S7.out; have := S8.out; have := SepTab_bd MT2.out; have := SepTab_bd MP3_0.out; have := SepTab_bd MT6.out; have := SepTab_bd MP9_0.out; have := SepTab_bd MT13.out; omega)
    replace KX7 := (KX7).chg B15 (by have := S0.out; have := S1.out; have := S2.out; have := S3.out; have := SA5.out; have := S4.out; have := SA8.out; have := S5.out; have := SA11.out; have := S6.out; have := S7.out; have := S8.out; have := SepTab_bd MT2.out; have := SepTab_bd MP3_0.out; have := SepTab_bd MT6.out; have := SepTab_bd MP9_0.out; have := SepTab_bd MT13.out; omega)
    replace FP9_0_1 := (FP9_0_1).chg B15 (by have := S0.out; have := S1.out; have := S2.out; have := S3.out; have := SA5.out; have := S4.out; have := SA8.out; have := S5.out; have := SA11.out; have := S6.out; have := S7.out; have := S8.out; have := SepTab_bd MT2.out; have := SepTab_bd MP3_0.out; have := SepTab_bd MT6.out; have := SepTab_bd MP9_0.out; have := SepTab_bd MT13.out; omega)
    replace FP9_0_2 := (FP9_0_2).chg B15 (by have := S0.out; have := S1.out; have := S2.out; have := S3.out; have := SA5.out; have := S4.out; have := SA8.out; have := S5.out; have := SA11.out; have := S6.out; have := S7.out; have := S8.out; have := SepTab_bd MT2.out; have := SepTab_bd MP3_0.out; have := SepTab_bd MT6.out; have := SepTab_bd MP9_0.out; have := SepTab_bd MT13.out; omega)
    replace FP9_0_3 := (FP9_0_3).chg B15 (by have := S0.out; have := S1.out; have := S2.out; have := S3.out; have := SA5.out; have := S4.out; have := SA8.out; have := S5.out; have := SA11.out; have := S6.out; have := S7.out; have := S8.out; have := SepTab_bd MT2.out; have := SepTab_bd MP3_0.out; have := SepTab_bd MT6.out; have := SepTab_bd MP9_0.out; have := SepTab_bd MT13.out; omega)
    replace KX10 := (KX10).chg B15 (by have := S0.out; have := S1.out; have := S2.out; have := S3.out; have := SA5.out; have := S4.out; have := SA8.out; have := S5.out; have := SA11.out; have := S6.out; have := S7.out; have := S8.out; have := SepTab_bd MT2.out; have := SepTab_bd MP3_0.out; have := SepTab_bd MT6.out; have := SepTab_bd MP9_0.out; have := SepTab_bd MT13.out; omega)
    replace G := G.trans (B15.below (.inl (by have := S0.out; have := S1.out; have := S2.out; have := S3.out; have := SA5.out; have := S4.out; have := SA8.out; have := S5.out; have := SA11.out; have := S6.out; have := S7.out; have := S8.out; have := SepTab_bd MT2.out; have := SepTab_bd MP3_0.out; have := SepTab_bd MT6.out; have := SepTab_bd MP9_0.out; have := SepTab_bd MT13.out; omega)) (by have := S0.out; have := S1.out; have := S2.out; have := S3.out; have := SA5.out; have := S4.out; have := SA8.out; have := S5.out; have := SA11.out; have := S6.out; have := S7.out; have := S8.out; have := SepTab_bd MT2.out; have := SepTab_bd MP3_0.out; have := SepTab_bd MT6.out; have := SepTab_bd MP9_0.out; have := SepTab_bd MT13.out; first | omega | (simp; omega)))
    have S9 := Lib.hid (show w8.heap.size + 0 ≤ w9.heap.size by have := B15.size; first | (simpa using this) | ((try simp at this); omega))
    clear FT6_1
    clear FT6_2
    clear FT6_3
    clear B15
    clear xKX7_0 xKX7_1 xKX7_2 xKX7_3 xKX7_4 xKX7_5
    have xKX10_0 : w9.cell? ⟨w5.heap.size, 0, none⟩ = some (.int .i64 s0_0.f0) := KX10.at_ rfl
    have xKX10_1 : w9.cell? ⟨w5.heap.size, 1, none⟩ = some (.int .i64 s0_0.f1) := KX10.at_ rfl
    have xKX10_2 : w9.cell? ⟨w5.heap.size, 2, none⟩ = some (.slice P9_0_1 ((l0_1).length) pc9_0_1) := KX10.at_ rfl
    have xKX10_3 : w9.cell? ⟨w5.heap.size, 3, none⟩ = some (.slice P9_0_2 ((mWo l0_2 a1).length) pc9_0_2) := KX10.at_ rfl
    have xKX10_4 : w9.cell? ⟨w5.heap.size, 4, none⟩ = some (.slice P9_0_3 ((l0_3).length) pc9_0_3) := KX10.at_ rfl
    have xKX10_5 : w9.cell? ⟨w5.heap.size, 5, none⟩ = some (.int .i64 p0_4) := KX10.at_ rfl
    have xKX4_0 : w9.cell? ⟨w3.heap.size, 0, none⟩ = some (.int .i64 s0_0.f0) := KX4.at_ rfl
    have xKX4_1 : w9.cell? ⟨w3.heap.size, 1, none⟩ = some (.int .i64 s0_0.f1) := KX4.at_ rfl
    have xKX4_2 : w9.cell? ⟨w3.heap.size, 2, none⟩ = some (.slice P3_0_1 ((l0_1).length) pc3_0_1) := KX4.at_ rfl
    have xKX4_3 : w9.cell? ⟨w3.heap.size, 3, none⟩ = some (.slice P3_0_2 ((mWo l0_2 a1).length) pc3_0_2) := KX4.at_ rfl
    have xKX4_4 : w9.cell? ⟨w3.heap.size, 4, none⟩ = some (.slice P3_0_3 ((l0_3).length) pc3_0_3) := KX4.at_ rfl
    have xKX4_5 : w9.cell? ⟨w3.heap.size, 5, none⟩ = some (.int .i64 p0_4) := KX4.at_ rfl
    go_wp2_with fail
    refine Calls.mono (eq_tab_same s0_0 l0_1 ((l0_1).length) P9_0_1 P3_0_1 pc9_0_1 pc3_0_1 _ _ _ _ (mWo l0_2 a1) ((mWo l0_2 a1).length) P9_0_2 P3_0_2 pc9_0_2 pc3_0_2 _ _ _ _ l0_3 ((l0_3).length) P9_0_3 P3_0_3 pc9_0_3 pc3_0_3 _ _ _ _ p0_4 _ (by omega) (by omega) (by omega) FP9_0_1.rd FP9_0_2.rd FP9_0_3.rd FP3_0_1.rd FP3_0_2.rd FP3_0_3.rd) ?_
    rintro e w10 ⟨rfl, B16⟩
    replace R0_1 := (R0_1).new B16
    replace R0_2 := (R0_2).new B16
    replace R0_3 := (R0_3).new B16
    replace KB0 := (KB0).new B16
    replace FP3_0_1 := (FP3_0_1).new B16
    replace FP3_0_2 := (FP3_0_2).new B16
    replace FP3_0_3 := (FP3_0_3).new B16
    replace KX4 := (KX4).new B16
    replace KX7 := (KX7).new B16
    replace FP9_0_1 := (FP9_0_1).new B16
    replace FP9_0_2 := (FP9_0_2).new B16
    replace FP9_0_3 := (FP9_0_3).new B16
    replace KX10 := (KX10).new B16
    replace FM15_1 := (FM15_1).new B16
    replace FM15_2 := (FM15_2).new B16
    replace FM15_3 := (FM15_3).new B16
    replace G := below_trans G B16 (Nat.le_refl _)
    have S10 := Lib.hid (show w9.heap.size + 0 ≤ w10.heap.size by have := B16.size; first | (simpa using this) | ((try simp at this); omega))
    clear B16
    clear xKX10_0 xKX10_1 xKX10_2 xKX10_3 xKX10_4 xKX10_5 xKX4_0 xKX4_1 xKX4_2 xKX4_3 xKX4_4 xKX4_5
    have xKX10_0 : w10.cell? ⟨w5.heap.size, 0, none⟩ = some (.int .i64 s0_0.f0) := KX10.at_ rfl
    have xKX10_1 : w10.cell? ⟨w5.heap.size, 1, none⟩ = some (.int .i64 s0_0.f1) := KX10.at_ rfl
    have xKX10_2 : w10.cell? ⟨w5.heap.size, 2, none⟩ = some (.slice P9_0_1 ((l0_1).length) pc9_0_1) := KX10.at_ rfl
    have xKX10_3 : w10.cell? ⟨w5.heap.size, 3, none⟩ = some (.slice P9_0_2 ((mWo l0_2 a1).length) pc9_0_2) := KX10.at_ rfl
    have xKX10_4 : w10.cell? ⟨w5.heap.size, 4, none⟩ = some (.slice P9_0_3 ((l0_3).length) pc9_0_3) := KX10.at_ rfl
    have xKX10_5 : w10.cell? ⟨w5.heap.size, 5, none⟩ = some (.int .i64 p0_4) := KX10.at_ rfl
    go_wp2_with fail
    refine Calls.mono (mark_tab s0_0 _ P9_0_1 ((l0_1).length) pc9_0_1 _ _ _ P9_0_2 ((mWo l0_2 a1).length) pc9_0_2 _ _ _ P9_0_3 ((l0_3).length) pc9_0_3 _ _ p0_4 (1) ((w4.alloc (.cells #[.int .i64 s0_0.f0, .int .i64 s0_0.f1, .slice T6_1 n0_1 tc6_1, .slice T6_2 n0_2 tc6_2, .slice T6_3 n0_3 tc6_3, .int .i64 p0_4] 86)).heap.size) w5.heap.size _ (by omega) (by omega) (by omega) (by omega) (by have := S0.out; have := S1.out; have := S2.out; have := S3.out; have := SA5.out; have := S4.out; have := SA8.out; have := S5.out; have := SA11.out; have := S6.out; have := S7.out; have := S8.out; have := S9.out; have := S10.out; have := SepTab_bd MT2.out; have := SepTab_bd MP3_0.out; have := SepTab_bd MT6.out; have := SepTab_bd MP9_0.out; have := SepTab_bd MT13.out; omega) MP9_0 FP9_0_1 FP9_0_2 FP9_0_3) ?_
    rintro e w11 ⟨rfl, FM17_1, FM17_2, FM17_3, B17⟩
    replace R0_1 := (R0_1).chg B17 (by have := S0.out; have := S1.out; have := S2.out; have := S3.out; have := SA5.out; have := S4.out; have := SA8.out; have := S5.out; have := SA11.out; have := S6.out; have := S7.out; have := S8.out; have := S9.out; have := S10.out; have := SepTab_bd MT2.out; have := SepTab_bd MP3_0.out; have := SepTab_bd MT6.out; have := SepTab_bd MP9_0.out; have := SepTab_bd MT13.out; omega)
    replace R0_2 := (R0_2).chg B17 (by have := S0.out; have := S1.out; have := S2.out; have := S3.out; have := SA5.out; have := S4.out; have := SA8.out; have := S5.out; have := SA11.out; have := S6.out; have := S7.out; have := S8.out; have := S9.out; have := S10.out; have := SepTab_bd MT2.out; have := SepTab_bd MP3_0.out; have := SepTab_bd MT6.out; have := SepTab_bd MP9_0.out; have := SepTab_bd MT13.out; omega)
    replace R0_3 := (R0_3).chg B17 (by have := S0.out; have := S1.out; have := S2.out; have := S3.out; have := SA5.out; have := S4.out; have := SA8.out; have := S5.out; have := SA11.out; have := S6.out; have := S7.out; have := S8.out; have := S9.out; have := S10.out; have := SepTab_bd MT2.out; have := SepTab_bd MP3_0.out; have := SepTab_bd MT6.out; have := SepTab_bd MP9_0.out; have := SepTab_bd MT13.out; omega)
    replace KB0 := (KB0).chg B17 (by have := S0.out; have := S1.out; have := S2.out; have := S3.out; have := SA5.out; have := S4.out; have := SA8.out; have := S5.out; have := SA11.out; have := S6.out; have := S7.out; have := S8.out; have := S9.out; have := S10.out; have := SepTab_bd MT2.out; have := SepTab_bd MP3_0.out; have := SepTab_bd MT6.out; have := SepTab_bd MP9_0.out; have := SepTab_bd MT13.out; omega)
    replace FP3_0_1 := (FP3_0_1).chg B17 (by have := S0.out; have := S1.out; have := S2.out; have := S3.out; have := SA5.out; have := S4.out; have := SA8.out; have := S5.out; have := SA11.out; have := S6.out; have := S7.out; have := S8.out; have := S9.out; have := S10.out; have := SepTab_bd MT2.out; have := SepTab_bd MP3_0.out; have := SepTab_bd MT6.out; have := SepTab_bd MP9_0.out; have := SepTab_bd MT13.out; omega)
    replace FP3_0_2 := (FP3_0_2).chg B17 (by have := S0.out; have := S1.out; have := S2.out; have := S3.out; have := SA5.out; have := S4.out; have := SA8.out; have := S5.out; have := SA11.out; have := S6.out; have := S7.out; have := S8.out; have := S9.out; have := S10.out; have := SepTab_bd MT2.out; have := SepTab_bd MP3_0.out; have := SepTab_bd MT6.out; have := SepTab_bd MP9_0.out; have := SepTab_bd MT13.out; omega)
    replace FP3_0_3 := (FP3_0_3).chg B17 (by have := S0.out; have := S1.out; have := S2.out; have := S3.out; have := SA5.out; have := S4.out; have := SA8.out; have := S5.out; have := SA11.out; have := S6.out; have := S7.out; have := S8.out; have := S9.out; have := S10.out; have := SepTab_bd MT2.out; have := SepTab_bd MP3_0.out; have := SepTab_bd MT6.out; have := SepTab_bd MP9_0.out; have := SepTab_bd MT13.out; omega)
    replace KX4 := (KX4).chg B17 (by have := S0.out; have := S1.out; have := S2.out; have := S3.out; have := SA5.out; have := S4.out; have := SA8.out; have := S5.out; have := SA11.out; have := S6.out; have := S7.out; have := S8.out; have := S9.out; have := S10.out; have := SepTab_bd MT2.out; have := SepTab_bd MP3_0.out; have := SepTab_bd MT6.out; have := SepTab_bd MP9_0.out; have := SepTab_bd MT13.out; omega)
    replace KX7 := (KX7).chg B17 (by have := S0.out; have := S1.out; have := S2.out; have := S3.out; have := SA5.out; have := S4.out; have := SA8.out; have := S5.out; have := SA11.out; have := S6.out; have := S7.out; have := S8.out; have := S9.out; have := S10.out; have := SepTab_bd MT2.out; have := SepTab_bd MP3_0.out; have := SepTab_bd MT6.out; have := SepTab_bd MP9_0.out; have := SepTab_bd MT13.out; omega)
    replace KX10 := (KX10).chg B17 (by have := S0.out; have := S1.out; have := S2.out; have := S3.out; have := SA5.out; have := S4.out; have := SA8.out; have := S5.out; have := SA11.out; have := S6.out; have := S7.out; have := S8.out; have := S9.out; have := S10.out; have := SepTab_bd MT2.out; have := SepTab_bd MP3_0.out; have := SepTab_bd MT6.out; have := SepTab_bd MP9_0.out; have := SepTab_bd MT13.out; omega)
    replace FM15_1 := (FM15_1).chg B17 (by have := S0.out; have := S1.out; have := S2.out; have := S3.out; have := SA5.out; have := S4.out; have := SA8.out; have := S5.out; have := SA11.out; have := S6.out; have := S7.out; have := S8.out; have := S9.out; have := S10.out; have := SepTab_bd MT2.out; have := SepTab_bd MP3_0.out; have := SepTab_bd MT6.out; have := SepTab_bd MP9_0.out; have := SepTab_bd MT13.out; omega)
    replace FM15_2 := (FM15_2).chg B17 (by have := S0.out; have := S1.out; have := S2.out; have := S3.out; have := SA5.out; have := S4.out; have := SA8.out; have := S5.out; have := SA11.out; have := S6.out; have := S7.out; have := S8.out; have := S9.out; have := S10.out; have := SepTab_bd MT2.out; have := SepTab_bd MP3_0.out; have := SepTab_bd MT6.out; have := SepTab_bd MP9_0.out; have := SepTab_bd MT13.out; omega)
    replace FM15_3 := (FM15_3).chg B17 (by have := S0.out; have := S1.out; have := S2.out; have := S3.out; have := SA5.out; have := S4.out; have := SA8.out; have := S5.out; have := SA11.out; have := S6.out; have := S7.out; have := S8.out; have := S9.out; have := S10.out; have := SepTab_bd MT2.out; have := SepTab_bd MP3_0.out; have := SepTab_bd MT6.out; have := SepTab_bd MP9_0.out; have := SepTab_bd MT13.out; omega)
    replace G := G.trans (B17.below (.inl (by have := S0.out; have := S1.out; have := S2.out; have := S3.out; have := SA5.out; have := S4.out; have := SA8.out; have := S5.out; have := SA11.out; have := S6.out; have := S7.out; have := S8.out; have := S9.out; have := S10.out; have := SepTab_bd MT2.out; have := SepTab_bd MP3_0.out; have := SepTab_bd MT6.out; have := SepTab_bd MP9_0.out; have := SepTab_bd MT13.out; omega)) (by have := S0.out; have := S1.out; have := S2.out; have := S3.out; have := SA5.out; have := S4.out; have := SA8.out; have := S5.out; have := SA11.out; have := S6.out; have := S7.out; have := S8.out; have := S9.out; have := S10.out; have := SepTab_bd MT2.out; have := SepTab_bd MP3_0.out; have := SepTab_bd MT6.out; have := SepTab_bd MP9_0.out; have := SepTab_bd MT13.out; first | omega | (simp; omega)))
    have S11 := Lib.hid (show w10.heap.size + 0 ≤ w11.heap.size by have := B17.size; first | (simpa using this) | ((try simp at this); omega))
    clear FP9_0_1
    clear FP9_0_2
    clear FP9_0_3
    clear B17
    clear xKX10_0 xKX10_1 xKX10_2 xKX10_3 xKX10_4 xKX10_5
    have xKX10_0 : w11.cell? ⟨w5.heap.size, 0, none⟩ = some (.int .i64 s0_0.f0) := KX10.at_ rfl
    have xKX10_1 : w11.cell? ⟨w5.heap.size, 1, none⟩ = some (.int .i64 s0_0.f1) := KX10.at_ rfl
    have xKX10_2 : w11.cell? ⟨w5.heap.size, 2, none⟩ = some (.slice P9_0_1 ((l0_1).length) pc9_0_1) := KX10.at_ rfl
    have xKX10_3 : w11.cell? ⟨w5.heap.size, 3, none⟩ = some (.slice P9_0_2 ((mWo l0_2 a1).length) pc9_0_2) := KX10.at_ rfl
    have xKX10_4 : w11.cell? ⟨w5.heap.size, 4, none⟩ = some (.slice P9_0_3 ((l0_3).length) pc9_0_3) := KX10.at_ rfl
    have xKX10_5 : w11.cell? ⟨w5.heap.size, 5, none⟩ = some (.int .i64 p0_4) := KX10.at_ rfl
    go_wp2_with fail
    refine Calls.mono (held_tab s0_0 P9_0_1 ((l0_1).length) pc9_0_1 _ _ P9_0_2 ((mWo l0_2 a1).length) pc9_0_2 _ _ P9_0_3 ((l0_3).length) pc9_0_3 _ _ p0_4 (1) _ (by omega) (by omega) (by omega) (by omega) FM17_1.rd FM17_2.rd FM17_3.rd) ?_
    rintro e w12 ⟨rfl, B18⟩
    replace R0_1 := (R0_1).new B18
    replace R0_2 := (R0_2).new B18
    replace R0_3 := (R0_3).new B18
    replace KB0 := (KB0).new B18
    replace FP3_0_1 := (FP3_0_1).new B18
    replace FP3_0_2 := (FP3_0_2).new B18
    replace FP3_0_3 := (FP3_0_3).new B18
    replace KX4 := (KX4).new B18
    replace KX7 := (KX7).new B18
    replace KX10 := (KX10).new B18
    replace FM15_1 := (FM15_1).new B18
    replace FM15_2 := (FM15_2).new B18
    replace FM15_3 := (FM15_3).new B18
    replace FM17_1 := (FM17_1).new B18
    replace FM17_2 := (FM17_2).new B18
    replace FM17_3 := (FM17_3).new B18
    replace G := below_trans G B18 (Nat.le_refl _)
    have S12 := Lib.hid (show w11.heap.size + 0 ≤ w12.heap.size by have := B18.size; first | (simpa using this) | ((try simp at this); omega))
    clear B18
    clear xKX10_0 xKX10_1 xKX10_2 xKX10_3 xKX10_4 xKX10_5
    have xKB0_0 : w12.cell? ⟨w.heap.size, 0, none⟩ = some (.int .i64 s0_0.f0) := KB0.at_ rfl
    have xKB0_1 : w12.cell? ⟨w.heap.size, 1, none⟩ = some (.int .i64 s0_0.f1) := KB0.at_ rfl
    have xKB0_2 : w12.cell? ⟨w.heap.size, 2, none⟩ = some (.slice A0_1 n0_1 c0_1) := KB0.at_ rfl
    have xKB0_3 : w12.cell? ⟨w.heap.size, 3, none⟩ = some (.slice A0_2 n0_2 c0_2) := KB0.at_ rfl
    have xKB0_4 : w12.cell? ⟨w.heap.size, 4, none⟩ = some (.slice A0_3 n0_3 c0_3) := KB0.at_ rfl
    have xKB0_5 : w12.cell? ⟨w.heap.size, 5, none⟩ = some (.int .i64 p0_4) := KB0.at_ rfl
    go_wp2_with fail
    refine Calls.mono (to_tab s0_0 l0_1 A0_1 n0_1 c0_1 _ _ l0_2 A0_2 n0_2 c0_2 _ _ l0_3 A0_3 n0_3 c0_3 _ _ p0_4 _ hqn0_1 R0_1 hqn0_2 R0_2 hqn0_3 R0_3) ?_
    rintro e w13 ⟨T19_1, T19_2, T19_3, tc19_1, tlo19_1, thi19_1, tc19_2, tlo19_2, thi19_2, tc19_3, tlo19_3, thi19_3, rfl, FT19_1, FT19_2, FT19_3, MT19, B19⟩
    replace R0_1 := (R0_1).new B19
    replace R0_2 := (R0_2).new B19
    replace R0_3 := (R0_3).new B19
    replace KB0 := (KB0).new B19
    replace FP3_0_1 := (FP3_0_1).new B19
    replace FP3_0_2 := (FP3_0_2).new B19
    replace FP3_0_3 := (FP3_0_3).new B19
    replace KX4 := (KX4).new B19
    replace KX7 := (KX7).new B19
    replace KX10 := (KX10).new B19
    replace FM15_1 := (FM15_1).new B19
    replace FM15_2 := (FM15_2).new B19
    replace FM15_3 := (FM15_3).new B19
    replace FM17_1 := (FM17_1).new B19
    replace FM17_2 := (FM17_2).new B19
    replace FM17_3 := (FM17_3).new B19
    replace G := below_trans G B19 (Nat.le_refl _)
    have S13 := Lib.hid (show w12.heap.size + 0 ≤ w13.heap.size by have := B19.size; first | (simpa using this) | ((try simp at this); omega))
    clear B19
    clear xKB0_0 xKB0_1 xKB0_2 xKB0_3 xKB0_4 xKB0_5
    go_wp2_with fail
    refine Calls.mono (impl_TabWithout s0_0 l0_1 T19_1 n0_1 tc19_1 _ _ l0_2 T19_2 n0_2 tc19_2 _ _ l0_3 T19_3 n0_3 tc19_3 _ _ p0_4 a1 _ H0_0 (by omega) FT19_1.rd H0_1 (by omega) FT19_2.rd H0_2 (by omega) FT19_3.rd H0_3 Wf1.out) ?_
    rintro e w14 ⟨P20_0_1, P20_0_2, P20_0_3, pc20_0_1, plo20_0_1, phi20_0_1, pc20_0_2, plo20_0_2, phi20_0_2, pc20_0_3, plo20_0_3, phi20_0_3, rfl, FP20_0_1, FP20_0_2, FP20_0_3, MP20_0, B20⟩
    replace R0_1 := (R0_1).new B20
    replace R0_2 := (R0_2).new B20
    replace R0_3 := (R0_3).new B20
    replace KB0 := (KB0).new B20
    replace FP3_0_1 := (FP3_0_1).new B20
    replace FP3_0_2 := (FP3_0_2).new B20
    replace FP3_0_3 := (FP3_0_3).new B20
    replace KX4 := (KX4).new B20
    replace KX7 := (KX7).new B20
    replace KX10 := (KX10).new B20
    replace FM15_1 := (FM15_1).new B20
    replace FM15_2 := (FM15_2).new B20
    replace FM15_3 := (FM15_3).new B20
    replace FM17_1 := (FM17_1).new B20
    replace FM17_2 := (FM17_2).new B20
    replace FM17_3 := (FM17_3).new B20
    replace FT19_1 := (FT19_1).new B20
    replace FT19_2 := (FT19_2).new B20
    replace FT19_3 := (FT19_3).new B20
    replace G := below_trans G B20 (Nat.le_refl _)
    have S14 := Lib.hid (show w13.heap.size + 0 ≤ w14.heap.size by have := B20.size; first | (simpa using this) | ((try simp at this); omega))
    clear B20
    have SA22 := Lib.hid (show (w14.alloc (.cells #[.int .i64 s0_0.f0, .int .i64 s0_0.f1, .slice P20_0_1 ((l0_1).length) pc20_0_1, .slice P20_0_2 ((mWo l0_2 a1).length) pc20_0_2, .slice P20_0_3 ((l0_3).length) pc20_0_3, .int .i64 p0_4] 86)).heap.size = w14.heap.size + 1 by simp)
    replace R0_1 := R0_1.alloc (.cells #[.int .i64 s0_0.f0, .int .i64 s0_0.f1, .slice P20_0_1 ((l0_1).length) pc20_0_1, .slice P20_0_2 ((mWo l0_2 a1).length) pc20_0_2, .slice P20_0_3 ((l0_3).length) pc20_0_3, .int .i64 p0_4] 86)
    replace R0_2 := R0_2.alloc (.cells #[.int .i64 s0_0.f0, .int .i64 s0_0.f1, .slice P20_0_1 ((l0_1).length) pc20_0_1, .slice P20_0_2 ((mWo l0_2 a1).length) pc20_0_2, .slice P20_0_3 ((l0_3).length) pc20_0_3, .int .i64 p0_4] 86)
    replace R0_3 := R0_3.alloc (.cells #[.int .i64 s0_0.f0, .int .i64 s0_0.f1, .slice P20_0_1 ((l0_1).length) pc20_0_1, .slice P20_0_2 ((mWo l0_2 a1).length) pc20_0_2, .slice P20_0_3 ((l0_3).length) pc20_0_3, .int .i64 p0_4] 86)
    replace KB0 := KB0.alloc_ (.cells #[.int .i64 s0_0.f0, .int .i64 s0_0.f1, .slice P20_0_1 ((l0_1).length) pc20_0_1, .slice P20_0_2 ((mWo l0_2 a1).length) pc20_0_2, .slice P20_0_3 ((l0_3).length) pc20_0_3, .int .i64 p0_4] 86)
    replace FP3_0_1 := FP3_0_1.alloc (.cells #[.int .i64 s0_0.f0, .int .i64 s0_0.f1, .slice P20_0_1 ((l0_1).length) pc20_0_1, .slice P20_0_2 ((mWo l0_2 a1).length) pc20_0_2, .slice P20_0_3 ((l0_3).length) pc20_0_3, .int .i64 p0_4] 86)
    replace FP3_0_2 := FP3_0_2.alloc (.cells #[.int .i64 s0_0.f0, .int .i64 s0_0.f1, .slice P20_0_1 ((l0_1).length) pc20_0_1, .slice P20_0_2 ((mWo l0_2 a1).length) pc20_0_2, .slice P20_0_3 ((l0_3).length) pc20_0_3, .int .i64 p0_4] 86)
    replace FP3_0_3 := FP3_0_3.alloc (.cells #[.int .i64 s0_0.f0, .int .i64 s0_0.f1, .slice P20_0_1 ((l0_1).length) pc20_0_1, .slice P20_0_2 ((mWo l0_2 a1).length) pc20_0_2, .slice P20_0_3 ((l0_3).length) pc20_0_3, .int .i64 p0_4] 86)
    replace KX4 := KX4.alloc_ (.cells #[.int .i64 s0_0.f0, .int .i64 s0_0.f1, .slice P20_0_1 ((l0_1).length) pc20_0_1, .slice P20_0_2 ((mWo l0_2 a1).length) pc20_0_2, .slice P20_0_3 ((l0_3).length) pc20_0_3, .int .i64 p0_4] 86)
    replace KX7 := KX7.alloc_ (.cells #[.int .i64 s0_0.f0, .int .i64 s0_0.f1, .slice P20_0_1 ((l0_1).length) pc20_0_1, .slice P20_0_2 ((mWo l0_2 a1).length) pc20_0_2, .slice P20_0_3 ((l0_3).length) pc20_0_3, .int .i64 p0_4] 86)
    replace KX10 := KX10.alloc_ (.cells #[.int .i64 s0_0.f0, .int .i64 s0_0.f1, .slice P20_0_1 ((l0_1).length) pc20_0_1, .slice P20_0_2 ((mWo l0_2 a1).length) pc20_0_2, .slice P20_0_3 ((l0_3).length) pc20_0_3, .int .i64 p0_4] 86)
    replace FM15_1 := FM15_1.alloc (.cells #[.int .i64 s0_0.f0, .int .i64 s0_0.f1, .slice P20_0_1 ((l0_1).length) pc20_0_1, .slice P20_0_2 ((mWo l0_2 a1).length) pc20_0_2, .slice P20_0_3 ((l0_3).length) pc20_0_3, .int .i64 p0_4] 86)
    replace FM15_2 := FM15_2.alloc (.cells #[.int .i64 s0_0.f0, .int .i64 s0_0.f1, .slice P20_0_1 ((l0_1).length) pc20_0_1, .slice P20_0_2 ((mWo l0_2 a1).length) pc20_0_2, .slice P20_0_3 ((l0_3).length) pc20_0_3, .int .i64 p0_4] 86)
    replace FM15_3 := FM15_3.alloc (.cells #[.int .i64 s0_0.f0, .int .i64 s0_0.f1, .slice P20_0_1 ((l0_1).length) pc20_0_1, .slice P20_0_2 ((mWo l0_2 a1).length) pc20_0_2, .slice P20_0_3 ((l0_3).length) pc20_0_3, .int .i64 p0_4] 86)
    replace FM17_1 := FM17_1.alloc (.cells #[.int .i64 s0_0.f0, .int .i64 s0_0.f1, .slice P20_0_1 ((l0_1).length) pc20_0_1, .slice P20_0_2 ((mWo l0_2 a1).length) pc20_0_2, .slice P20_0_3 ((l0_3).length) pc20_0_3, .int .i64 p0_4] 86)
    replace FM17_2 := FM17_2.alloc (.cells #[.int .i64 s0_0.f0, .int .i64 s0_0.f1, .slice P20_0_1 ((l0_1).length) pc20_0_1, .slice P20_0_2 ((mWo l0_2 a1).length) pc20_0_2, .slice P20_0_3 ((l0_3).length) pc20_0_3, .int .i64 p0_4] 86)
    replace FM17_3 := FM17_3.alloc (.cells #[.int .i64 s0_0.f0, .int .i64 s0_0.f1, .slice P20_0_1 ((l0_1).length) pc20_0_1, .slice P20_0_2 ((mWo l0_2 a1).length) pc20_0_2, .slice P20_0_3 ((l0_3).length) pc20_0_3, .int .i64 p0_4] 86)
    replace FT19_1 := FT19_1.alloc (.cells #[.int .i64 s0_0.f0, .int .i64 s0_0.f1, .slice P20_0_1 ((l0_1).length) pc20_0_1, .slice P20_0_2 ((mWo l0_2 a1).length) pc20_0_2, .slice P20_0_3 ((l0_3).length) pc20_0_3, .int .i64 p0_4] 86)
    replace FT19_2 := FT19_2.alloc (.cells #[.int .i64 s0_0.f0, .int .i64 s0_0.f1, .slice P20_0_1 ((l0_1).length) pc20_0_1, .slice P20_0_2 ((mWo l0_2 a1).length) pc20_0_2, .slice P20_0_3 ((l0_3).length) pc20_0_3, .int .i64 p0_4] 86)
    replace FT19_3 := FT19_3.alloc (.cells #[.int .i64 s0_0.f0, .int .i64 s0_0.f1, .slice P20_0_1 ((l0_1).length) pc20_0_1, .slice P20_0_2 ((mWo l0_2 a1).length) pc20_0_2, .slice P20_0_3 ((l0_3).length) pc20_0_3, .int .i64 p0_4] 86)
    replace FP20_0_1 := FP20_0_1.alloc (.cells #[.int .i64 s0_0.f0, .int .i64 s0_0.f1, .slice P20_0_1 ((l0_1).length) pc20_0_1, .slice P20_0_2 ((mWo l0_2 a1).length) pc20_0_2, .slice P20_0_3 ((l0_3).length) pc20_0_3, .int .i64 p0_4] 86)
    replace FP20_0_2 := FP20_0_2.alloc (.cells #[.int .i64 s0_0.f0, .int .i64 s0_0.f1, .slice P20_0_1 ((l0_1).length) pc20_0_1, .slice P20_0_2 ((mWo l0_2 a1).length) pc20_0_2, .slice P20_0_3 ((l0_3).length) pc20_0_3, .int .i64 p0_4] 86)
    replace FP20_0_3 := FP20_0_3.alloc (.cells #[.int .i64 s0_0.f0, .int .i64 s0_0.f1, .slice P20_0_1 ((l0_1).length) pc20_0_1, .slice P20_0_2 ((mWo l0_2 a1).length) pc20_0_2, .slice P20_0_3 ((l0_3).length) pc20_0_3, .int .i64 p0_4] 86)
    have KX21 : BoxAt (w14.alloc (.cells #[.int .i64 s0_0.f0, .int .i64 s0_0.f1, .slice P20_0_1 ((l0_1).length) pc20_0_1, .slice P20_0_2 ((mWo l0_2 a1).length) pc20_0_2, .slice P20_0_3 ((l0_3).length) pc20_0_3, .int .i64 p0_4] 86)) (w14.heap.size) 86 #[.int .i64 s0_0.f0, .int .i64 s0_0.f1, .slice P20_0_1 ((l0_1).length) pc20_0_1, .slice P20_0_2 ((mWo l0_2 a1).length) pc20_0_2, .slice P20_0_3 ((l0_3).length) pc20_0_3, .int .i64 p0_4] := box_new _ _ _
    replace G := G.alloc (by have := S0.out; have := S1.out; have := S2.out; have := S3.out; have := SA5.out; have := S4.out; have := SA8.out; have := S5.out; have := SA11.out; have := S6.out; have := S7.out; have := S8.out; have := S9.out; have := S10.out; have := S11.out; have := S12.out; have := S13.out; have := S14.out; have := SA22.out; have := SepTab_bd MT2.out; have := SepTab_bd MP3_0.out; have := SepTab_bd MT6.out; have := SepTab_bd MP9_0.out; have := SepTab_bd MT13.out; have := SepTab_bd MT19.out; have := SepTab_bd MP20_0.out; first | omega | (simp; omega)) (.cells #[.int .i64 s0_0.f0, .int .i64 s0_0.f1, .slice P20_0_1 ((l0_1).length) pc20_0_1, .slice P20_0_2 ((mWo l0_2 a1).length) pc20_0_2, .slice P20_0_3 ((l0_3).length) pc20_0_3, .int .i64 p0_4] 86)
    have xKX21_0 : (w14.alloc (.cells #[.int .i64 s0_0.f0, .int .i64 s0_0.f1, .slice P20_0_1 ((l0_1).length) pc20_0_1, .slice P20_0_2 ((mWo l0_2 a1).length) pc20_0_2, .slice P20_0_3 ((l0_3).length) pc20_0_3, .int .i64 p0_4] 86)).cell? ⟨w14.heap.size, 0, none⟩ = some (.int .i64 s0_0.f0) := KX21.at_ rfl
    have xKX21_1 : (w14.alloc (.cells #[.int .i64 s0_0.f0, .int .i64 s0_0.f1, .slice P20_0_1 ((l0_1).length) pc20_0_1, .slice P20_0_2 ((mWo l0_2 a1).length) pc20_0_2, .slice P20_0_3 ((l0_3).length) pc20_0_3, .int .i64 p0_4] 86)).cell? ⟨w14.heap.size, 1, none⟩ = some (.int .i64 s0_0.f1) := KX21.at_ rfl
    have xKX21_2 : (w14.alloc (.cells #[.int .i64 s0_0.f0, .int .i64 s0_0.f1, .slice P20_0_1 ((l0_1).length) pc20_0_1, .slice P20_0_2 ((mWo l0_2 a1).length) pc20_0_2, .slice P20_0_3 ((l0_3).length) pc20_0_3, .int .i64 p0_4] 86)).cell? ⟨w14.heap.size, 2, none⟩ = some (.slice P20_0_1 ((l0_1).length) pc20_0_1) := KX21.at_ rfl
    have xKX21_3 : (w14.alloc (.cells #[.int .i64 s0_0.f0, .int .i64 s0_0.f1, .slice P20_0_1 ((l0_1).length) pc20_0_1, .slice P20_0_2 ((mWo l0_2 a1).length) pc20_0_2, .slice P20_0_3 ((l0_3).length) pc20_0_3, .int .i64 p0_4] 86)).cell? ⟨w14.heap.size, 3, none⟩ = some (.slice P20_0_2 ((mWo l0_2 a1).length) pc20_0_2) := KX21.at_ rfl
    have xKX21_4 : (w14.alloc (.cells #[.int .i64 s0_0.f0, .int .i64 s0_0.f1, .slice P20_0_1 ((l0_1).length) pc20_0_1, .slice P20_0_2 ((mWo l0_2 a1).length) pc20_0_2, .slice P20_0_3 ((l0_3).length) pc20_0_3, .int .i64 p0_4] 86)).cell? ⟨w14.heap.size, 4, none⟩ = some (.slice P20_0_3 ((l0_3).length) pc20_0_3) := KX21.at_ rfl
    have xKX21_5 : (w14.alloc (.cells #[.int .i64 s0_0.f0, .int .i64 s0_0.f1, .slice P20_0_1 ((l0_1).length) pc20_0_1, .slice P20_0_2 ((mWo l0_2 a1).length) pc20_0_2, .slice P20_0_3 ((l0_3).length) pc20_0_3, .int .i64 p0_4] 86)).cell? ⟨w14.heap.size, 5, none⟩ = some (.int .i64 p0_4) := KX21.at_ rfl
    have xKX4_0 : (w14.alloc (.cells #[.int .i64 s0_0.f0, .int .i64 s0_0.f1, .slice P20_0_1 ((l0_1).length) pc20_0_1, .slice P20_0_2 ((mWo l0_2 a1).length) pc20_0_2, .slice P20_0_3 ((l0_3).length) pc20_0_3, .int .i64 p0_4] 86)).cell? ⟨w3.heap.size, 0, none⟩ = some (.int .i64 s0_0.f0) := KX4.at_ rfl
    have xKX4_1 : (w14.alloc (.cells #[.int .i64 s0_0.f0, .int .i64 s0_0.f1, .slice P20_0_1 ((l0_1).length) pc20_0_1, .slice P20_0_2 ((mWo l0_2 a1).length) pc20_0_2, .slice P20_0_3 ((l0_3).length) pc20_0_3, .int .i64 p0_4] 86)).cell? ⟨w3.heap.size, 1, none⟩ = some (.int .i64 s0_0.f1) := KX4.at_ rfl
    have xKX4_2 : (w14.alloc (.cells #[.int .i64 s0_0.f0, .int .i64 s0_0.f1, .slice P20_0_1 ((l0_1).length) pc20_0_1, .slice P20_0_2 ((mWo l0_2 a1).length) pc20_0_2, .slice P20_0_3 ((l0_3).length) pc20_0_3, .int .i64 p0_4] 86)).cell? ⟨w3.heap.size, 2, none⟩ = some (.slice P3_0_1 ((l0_1).length) pc3_0_1) := KX4.at_ rfl
    have xKX4_3 : (w14.alloc (.cells #[.int .i64 s0_0.f0, .int .i64 s0_0.f1, .slice P20_0_1 ((l0_1).length) pc20_0_1, .slice P20_0_2 ((mWo l0_2 a1).length) pc20_0_2, .slice P20_0_3 ((l0_3).length) pc20_0_3, .int .i64 p0_4] 86)).cell? ⟨w3.heap.size, 3, none⟩ = some (.slice P3_0_2 ((mWo l0_2 a1).length) pc3_0_2) := KX4.at_ rfl
    have xKX4_4 : (w14.alloc (.cells #[.int .i64 s0_0.f0, .int .i64 s0_0.f1, .slice P20_0_1 ((l0_1).length) pc20_0_1, .slice P20_0_2 ((mWo l0_2 a1).length) pc20_0_2, .slice P20_0_3 ((l0_3).length) pc20_0_3, .int .i64 p0_4] 86)).cell? ⟨w3.heap.size, 4, none⟩ = some (.slice P3_0_3 ((l0_3).length) pc3_0_3) := KX4.at_ rfl
    have xKX4_5 : (w14.alloc (.cells #[.int .i64 s0_0.f0, .int .i64 s0_0.f1, .slice P20_0_1 ((l0_1).length) pc20_0_1, .slice P20_0_2 ((mWo l0_2 a1).length) pc20_0_2, .slice P20_0_3 ((l0_3).length) pc20_0_3, .int .i64 p0_4] 86)).cell? ⟨w3.heap.size, 5, none⟩ = some (.int .i64 p0_4) := KX4.at_ rfl
    go_wp2_with fail
    refine Calls.mono (eq_tab_same s0_0 l0_1 ((l0_1).length) P20_0_1 P3_0_1 pc20_0_1 pc3_0_1 _ _ _ _ (mWo l0_2 a1) ((mWo l0_2 a1).length) P20_0_2 P3_0_2 pc20_0_2 pc3_0_2 _ _ _ _ l0_3 ((l0_3).length) P20_0_3 P3_0_3 pc20_0_3 pc3_0_3 _ _ _ _ p0_4 _ (by omega) (by omega) (by omega) FP20_0_1.rd FP20_0_2.rd FP20_0_3.rd FP3_0_1.rd FP3_0_2.rd FP3_0_3.rd) ?_
    rintro e w15 ⟨rfl, B23⟩
    replace R0_1 := (R0_1).new B23
    replace R0_2 := (R0_2).new B23
    replace R0_3 := (R0_3).new B23
    replace KB0 := (KB0).new B23
    replace FP3_0_1 := (FP3_0_1).new B23
    replace FP3_0_2 := (FP3_0_2).new B23
    replace FP3_0_3 := (FP3_0_3).new B23
    replace KX4 := (KX4).new B23
    replace KX7 := (KX7).new B23
    replace KX10 := (KX10).new B23
    replace FM15_1 := (FM15_1).new B23
    replace FM15_2 := (FM15_2).new B23
    replace FM15_3 := (FM15_3).new B23
    replace FM17_1 := (FM17_1).new B23
    replace FM17_2 := (FM17_2).new B23
    replace FM17_3 := (FM17_3).new B23
    replace FT19_1 := (FT19_1).new B23
    replace FT19_2 := (FT19_2).new B23
    replace FT19_3 := (FT19_3).new B23
    replace FP20_0_1 := (FP20_0_1).new B23
    replace FP20_0_2 := (FP20_0_2).new B23
    replace FP20_0_3 := (FP20_0_3).new B23
    replace KX21 := (KX21).new B23
    replace G := below_trans G B23 (Nat.le_refl _)
    have S15 := Lib.hid (show (w14.alloc (.cells #[.int .i64 s0_0.f0, .int .i64 s0_0.f1, .slice P20_0_1 ((l0_1).length) pc20_0_1, .slice P20_0_2 ((mWo l0_2 a1).length) pc20_0_2, .slice P20_0_3 ((l0_3).length) pc20_0_3, .int .i64 p0_4] 86)).heap.size + 0 ≤ w15.heap.size by have := B23.size; first | (simpa using this) | ((try simp at this); omega))
    clear B23
    clear xKX21_0 xKX21_1 xKX21_2 xKX21_3 xKX21_4 xKX21_5 xKX4_0 xKX4_1 xKX4_2 xKX4_3 xKX4_4 xKX4_5
    have xKX10_0 : w15.cell? ⟨w5.heap.size, 0, none⟩ = some (.int .i64 s0_0.f0) := KX10.at_ rfl
    have xKX10_1 : w15.cell? ⟨w5.heap.size, 1, none⟩ = some (.int .i64 s0_0.f1) := KX10.at_ rfl
    have xKX10_2 : w15.cell? ⟨w5.heap.size, 2, none⟩ = some (.slice P9_0_1 ((l0_1).length) pc9_0_1) := KX10.at_ rfl
    have xKX10_3 : w15.cell? ⟨w5.heap.size, 3, none⟩ = some (.slice P9_0_2 ((mWo l0_2 a1).length) pc9_0_2) := KX10.at_ rfl
    have xKX10_4 : w15.cell? ⟨w5.heap.size, 4, none⟩ = some (.slice P9_0_3 ((l0_3).length) pc9_0_3) := KX10.at_ rfl
    have xKX10_5 : w15.cell? ⟨w5.heap.size, 5, none⟩ = some (.int .i64 p0_4) := KX10.at_ rfl
    go_wp2_with fail
    refine Calls.mono (held_tab s0_0 P9_0_1 ((l0_1).length) pc9_0_1 _ _ P9_0_2 ((mWo l0_2 a1).length) pc9_0_2 _ _ P9_0_3 ((l0_3).length) pc9_0_3 _ _ p0_4 (1) _ (by omega) (by omega) (by omega) (by omega) FM17_1.rd FM17_2.rd FM17_3.rd) ?_
    rintro e w16 ⟨rfl, B24⟩
    replace R0_1 := (R0_1).new B24
    replace R0_2 := (R0_2).new B24
    replace R0_3 := (R0_3).new B24
    replace KB0 := (KB0).new B24
    replace FP3_0_1 := (FP3_0_1).new B24
    replace FP3_0_2 := (FP3_0_2).new B24
    replace FP3_0_3 := (FP3_0_3).new B24
    replace KX4 := (KX4).new B24
    replace KX7 := (KX7).new B24
    replace KX10 := (KX10).new B24
    replace FM15_1 := (FM15_1).new B24
    replace FM15_2 := (FM15_2).new B24
    replace FM15_3 := (FM15_3).new B24
    replace FM17_1 := (FM17_1).new B24
    replace FM17_2 := (FM17_2).new B24
    replace FM17_3 := (FM17_3).new B24
    replace FT19_1 := (FT19_1).new B24
    replace FT19_2 := (FT19_2).new B24
    replace FT19_3 := (FT19_3).new B24
    replace FP20_0_1 := (FP20_0_1).new B24
    replace FP20_0_2 := (FP20_0_2).new B24
    replace FP20_0_3 := (FP20_0_3).new B24
    replace KX21 := (KX21).new B24
    replace G := below_trans G B24 (Nat.le_refl _)
    have S16 := Lib.hid (show w15.heap.size + 0 ≤ w16.heap.size by have := B24.size; first | (simpa using this) | ((try simp at this); omega))
    clear B24
    clear xKX10_0 xKX10_1 xKX10_2 xKX10_3 xKX10_4 xKX10_5
    go_wp2_with fail
    go_ret
    exact ⟨rfl, G⟩
  · skip
    have G : Below w.heap.size w (w.alloc (.cells #[.int .i64 s0_0.f0, .int .i64 s0_0.f1, .slice A0_1 n0_1 c0_1, .slice A0_2 n0_2 c0_2, .slice A0_3 n0_3 c0_3, .int .i64 p0_4] 95)) := (Below.refl _ _).alloc (by simp) _
    have S0 := Lib.hid (show (w.alloc (.cells #[.int .i64 s0_0.f0, .int .i64 s0_0.f1, .slice A0_1 n0_1 c0_1, .slice A0_2 n0_2 c0_2, .slice A0_3 n0_3 c0_3, .int .i64 p0_4] 95)).heap.size = w.heap.size + 1 by simp)
    replace R0_1 := R0_1.alloc (.cells #[.int .i64 s0_0.f0, .int .i64 s0_0.f1, .slice A0_1 n0_1 c0_1, .slice A0_2 n0_2 c0_2, .slice A0_3 n0_3 c0_3, .int .i64 p0_4] 95)
    replace R0_2 := R0_2.alloc (.cells #[.int .i64 s0_0.f0, .int .i64 s0_0.f1, .slice A0_1 n0_1 c0_1, .slice A0_2 n0_2 c0_2, .slice A0_3 n0_3 c0_3, .int .i64 p0_4] 95)
    replace R0_3 := R0_3.alloc (.cells #[.int .i64 s0_0.f0, .int .i64 s0_0.f1, .slice A0_1 n0_1 c0_1, .slice A0_2 n0_2 c0_2, .slice A0_3 n0_3 c0_3, .int .i64 p0_4] 95)
    have KB0 : BoxAt (w.alloc (.cells #[.int .i64 s0_0.f0, .int .i64 s0_0.f1, .slice A0_1 n0_1 c0_1, .slice A0_2 n0_2 c0_2, .slice A0_3 n0_3 c0_3, .int .i64 p0_4] 95)) (w.heap.size) 95 #[.int .i64 s0_0.f0, .int .i64 s0_0.f1, .slice A0_1 n0_1 c0_1, .slice A0_2 n0_2 c0_2, .slice A0_3 n0_3 c0_3, .int .i64 p0_4] := box_new _ _ _
    go_enter Try.func11, Try.ntmps11
    have xKB0_0 : (w.alloc (.cells #[.int .i64 s0_0.f0, .int .i64 s0_0.f1, .slice A0_1 n0_1 c0_1, .slice A0_2 n0_2 c0_2, .slice A0_3 n0_3 c0_3, .int .i64 p0_4] 95)).cell? ⟨w.heap.size, 0, none⟩ = some (.int .i64 s0_0.f0) := KB0.at_ rfl
    have xKB0_1 : (w.alloc (.cells #[.int .i64 s0_0.f0, .int .i64 s0_0.f1, .slice A0_1 n0_1 c0_1, .slice A0_2 n0_2 c0_2, .slice A0_3 n0_3 c0_3, .int .i64 p0_4] 95)).cell? ⟨w.heap.size, 1, none⟩ = some (.int .i64 s0_0.f1) := KB0.at_ rfl
    have xKB0_2 : (w.alloc (.cells #[.int .i64 s0_0.f0, .int .i64 s0_0.f1, .slice A0_1 n0_1 c0_1, .slice A0_2 n0_2 c0_2, .slice A0_3 n0_3 c0_3, .int .i64 p0_4] 95)).cell? ⟨w.heap.size, 2, none⟩ = some (.slice A0_1 n0_1 c0_1) := KB0.at_ rfl
    have xKB0_3 : (w.alloc (.cells #[.int .i64 s0_0.f0, .int .i64 s0_0.f1, .slice A0_1 n0_1 c0_1, .slice A0_2 n0_2 c0_2, .slice A0_3 n0_3 c0_3, .int .i64 p0_4] 95)).cell? ⟨w.heap.size, 3, none⟩ = some (.slice A0_2 n0_2 c0_2) := KB0.at_ rfl
    have xKB0_4 : (w.alloc (.cells #[.int .i64 s0_0.f0, .int .i64 s0_0.f1, .slice A0_1 n0_1 c0_1, .slice A0_2 n0_2 c0_2, .slice A0_3 n0_3 c0_3, .int .i64 p0_4] 95)).cell? ⟨w.heap.size, 4, none⟩ = some (.slice A0_3 n0_3 c0_3) := KB0.at_ rfl
    have xKB0_5 : (w.alloc (.cells #[.int .i64 s0_0.f0, .int .i64 s0_0.f1, .slice A0_1 n0_1 c0_1, .slice A0_2 n0_2 c0_2, .slice A0_3 n0_3 c0_3, .int .i64 p0_4] 95)).cell? ⟨w.heap.size, 5, none⟩ = some (.int .i64 p0_4) := KB0.at_ rfl
    go_wp2_with fail
    refine Calls.mono (szno_tab s0_0 A0_1 n0_1 c0_1 A0_2 n0_2 c0_2 A0_3 n0_3 c0_3 p0_4 (1048576) _ hm0_1 hm0_2 hm0_3 (by omega) (by omega) (by omega)) ?_
    rintro e w1 ⟨rfl, B25⟩
    clear xKB0_0 xKB0_1 xKB0_2 xKB0_3 xKB0_4 xKB0_5
    go_wp2_with fail
    go_ret
    exact ⟨rfl, below_trans G B25 (Nat.le_refl _)⟩

set_option maxRecDepth 100000 in
theorem lifted (os : Os) (started : os.Started) (H : Type) (enc : TypeId × Value → H) :
    ReturnsInHanded {} Try.checked os 11 .any (Rows.fnExactTabWithoutSpec.pre6 enc Try.prog Try.f11 Rows.fnExactTabWithoutRow.domain false) (Rows.fnExactTabWithoutSpec.post enc Try.prog Try.f11 false true false false) := by
  refine law_lifted Try.func11 (by kernel_rfl) rfl rfl (by kernel_rfl) os started
    (ChangeSpec.witness6 (enc := enc) (C := Try.checked) false ⟨#[], #[.agg #[.int .i64 0, .int .i64 0, .slice none 0 0, .slice none 0 0, .slice none 0 0, .int .i64 0], .int .i64 0], []⟩ 8 (by kernel_rfl) (by kernel_rfl) (by kernel_rfl) (by kernel_rfl)) ?_
  intro W base args ds p hval hA hlt
  rw [Try.params11] at hA hval
  obtain ⟨v0, vs0, d0, ds0, p0, q0, hargs, rfl, rfl, h0, r0⟩ := trodAll_cons hA
  obtain ⟨v1, vs1, d1, ds1, p1, q1, rfl, rfl, rfl, h1, r1⟩ := trodAll_cons r0
  obtain ⟨rfl, rfl, rfl⟩ := trodAll_nil r1
  obtain rfl : args = #[v0, v1] := by cases args; simp_all
  obtain ⟨s0_0, A0_1, n0_1, c0_1, l0_1, A0_2, n0_2, c0_2, l0_2, A0_3, n0_3, c0_3, l0_3, p0_4, rfl, H0_0, m0_1, R0_1, H0_1, m0_2, R0_2, H0_2, m0_3, R0_3, H0_3, wf0_4⟩ := open_tab (hval 0 95 v0 rfl rfl) h0 (fun x hx => hlt x (by simp [hx]))
  obtain ⟨a1, rfl, rfl, rfl, wf1⟩ := open_int Try.underlying3 (hval 1 3 v1 rfl rfl) h1
  exact ⟨⟨rfl, rfl, rfl⟩, walk s0_0 l0_1 A0_1 n0_1 c0_1 l0_2 A0_2 n0_2 c0_2 l0_3 A0_3 n0_3 c0_3 p0_4 a1 W H0_0 m0_1 R0_1 H0_1 m0_2 R0_2 H0_2 m0_3 R0_3 H0_3 wf0_4 wf1⟩

set_option maxRecDepth 100000 in
set_option maxHeartbeats 8000000 in
theorem closed : joinedFacts Try.pinned.checked.prog 11 Try.f11 Rows.fnExactTabWithoutSpec Rows.fnExactTabWithoutRow = true :=
  (and_i (and_i (and_i (and_i (and_i (and_i (and_i (and_i (and_i (and_i (and_i (and_i (and_i (and_i (and_i (and_i (and_i (and_i (and_i (and_i (and_i (and_i (and_i (and_i (and_i (and_i (and_i (and_i (and_i (and_i (and_i (by as_aux_lemma => kernel_rfl) seatLaid) sf_maps) (by as_aux_lemma => kernel_rfl)) (by as_aux_lemma => kernel_rfl)) (by as_aux_lemma => kernel_rfl)) (by as_aux_lemma => kernel_rfl)) (by as_aux_lemma => kernel_rfl)) (by as_aux_lemma => kernel_rfl)) (by as_aux_lemma => kernel_rfl)) (by as_aux_lemma => kernel_rfl)) (by as_aux_lemma => kernel_rfl)) (by as_aux_lemma => kernel_rfl)) (by as_aux_lemma => kernel_rfl)) (by as_aux_lemma => kernel_rfl)) (by as_aux_lemma => kernel_rfl)) (by as_aux_lemma => kernel_rfl)) (by as_aux_lemma => kernel_rfl)) (by as_aux_lemma => kernel_rfl)) (by as_aux_lemma => kernel_rfl)) (by as_aux_lemma => kernel_rfl)) (by as_aux_lemma => kernel_rfl)) sf_plain) (by as_aux_lemma => kernel_rfl)) sf_heard) sf_enter) sf_lifts) sf_make) (by as_aux_lemma => kernel_rfl)) (by as_aux_lemma => kernel_rfl)) (by as_aux_lemma => kernel_rfl)) (by as_aux_lemma => kernel_rfl))

theorem over : Rows.fnExactTabWithoutRow.holds Try.pinned (OpenSpec.ofChange Rows.fnExactTabWithoutSpec) :=
  OpenClaim.holds_of_wide 11 Try.f11 rfl rfl rfl rfl rfl rfl rfl ⟨rfl, rfl, rfl, rfl, rfl⟩ rfl rfl rfl rfl rfl (by kernel_rfl) Try.func11 closed
    (of_decide_eq_true (by kernel_rfl)) (by unfold Func.isWrapper; first | (rw [if_pos (by decide +kernel)]; kernel_rfl) | (rw [if_neg (by decide +kernel)]; exact ⟨rfl, rfl⟩))
    (fun os started H enc _ => lifted os started H enc)

theorem proved : Rows.FnExactTabWithoutSaid := over
#print axioms proved
end Go.Proofs.Ytoclpdbgmpdbmaa.fnExactTabWithout
