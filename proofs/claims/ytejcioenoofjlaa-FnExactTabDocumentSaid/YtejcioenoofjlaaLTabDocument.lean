/- The law FnExactTabDocument answers true for every argument, and leaves each argument as it was. No condition. -/
import Derived.Deep.RegionHeld3
import Derived.Deep.DeepCutAuto
import Derived.Test.YtejcioenoofjlaaFacts
import Derived.Test.YtejcioenoofjlaaRTab
import Derived.Test.YtejcioenoofjlaaTNode
import Derived.Test.YtejcioenoofjlaaTabDoc
namespace Go.Proofs.Ytejcioenoofjlaa.fnExactTabDocument
open Go Go.ChangeShapes Go.WideShapes Go.ChangeAt Go.RowKit Go.Lib
open Go.ChangeMaps (open_string)
set_option linter.unusedVariables false
set_option linter.unusedSimpArgs false
set_option maxRecDepth 100000

set_option maxRecDepth 100000 in
set_option maxHeartbeats 20000000 in
theorem walk (s0_0 : TSite) (l0_1 : List TNode) (A0_1 : Option Addr) (n0_1 c0_1 : Nat) (l0_2 : List TEdit) (A0_2 : Option Addr) (n0_2 c0_2 : Nat) (l0_3 : List Int) (A0_3 : Option Addr) (n0_3 c0_3 : Nat) (p0_4 : Int) (w : World) (H0_0 : Hid (TSite.fit s0_0)) (hm0_1 : n0_1 ≤ maxLen) (R0_1 : Rd w 0 w.heap.size 5 A0_1 n0_1 (cNode l0_1)) (H0_1 : Hid (cNodeOk l0_1)) (hm0_2 : n0_2 ≤ maxLen) (R0_2 : Rd w 0 w.heap.size 6 A0_2 n0_2 (cEdit l0_2)) (H0_2 : Hid (cEditOk l0_2)) (hm0_3 : n0_3 ≤ maxLen) (R0_3 : Rd w 0 w.heap.size 1 A0_3 n0_3 (i64s l0_3)) (H0_3 : Hid (I64s l0_3)) (wf0_4 : (Lit.int .i64 p0_4).wf = true) :
    Calls Try.prog 13 #[.agg #[.int .i64 s0_0.f0, .int .i64 s0_0.f1, .slice A0_1 n0_1 c0_1, .slice A0_2 n0_2 c0_2, .slice A0_3 n0_3 c0_3, .int .i64 p0_4]] w fun e w' => e = .returned (.bool true) ∧ Below w.heap.size w w' := by
  have hm0_1 : n0_1 ≤ 9223372036854775807 := hm0_1
  have hm0_2 : n0_2 ≤ 9223372036854775807 := hm0_2
  have hm0_3 : n0_3 ≤ 9223372036854775807 := hm0_3
  have Wf0_4 := Lib.hid wf0_4
  clear wf0_4
  by_cases hz0 : n0_1 + n0_2 + n0_3 ≤ 1048576
  · skip
    have hl0 : (mRun l0_1 l0_2).length ≤ 1073741823 := by (have := rd_len TNode.len R0_1 (by decide); have := mRun_le l0_2 H0_1.out; omega)
    have hqn0_1 : n0_1 ≤ 17179869184 := by omega
    have hqn0_2 : n0_2 ≤ 17179869184 := by omega
    have hqn0_3 : n0_3 ≤ 17179869184 := by omega
    have G : Below w.heap.size w (w.alloc (.cells #[.int .i64 s0_0.f0, .int .i64 s0_0.f1, .slice A0_1 n0_1 c0_1, .slice A0_2 n0_2 c0_2, .slice A0_3 n0_3 c0_3, .int .i64 p0_4] 105)) := (Below.refl _ _).alloc (by simp) _
    have S0 := Lib.hid (show (w.alloc (.cells #[.int .i64 s0_0.f0, .int .i64 s0_0.f1, .slice A0_1 n0_1 c0_1, .slice A0_2 n0_2 c0_2, .slice A0_3 n0_3 c0_3, .int .i64 p0_4] 105)).heap.size = w.heap.size + 1 by simp)
    replace R0_1 := R0_1.alloc (.cells #[.int .i64 s0_0.f0, .int .i64 s0_0.f1, .slice A0_1 n0_1 c0_1, .slice A0_2 n0_2 c0_2, .slice A0_3 n0_3 c0_3, .int .i64 p0_4] 105)
    replace R0_2 := R0_2.alloc (.cells #[.int .i64 s0_0.f0, .int .i64 s0_0.f1, .slice A0_1 n0_1 c0_1, .slice A0_2 n0_2 c0_2, .slice A0_3 n0_3 c0_3, .int .i64 p0_4] 105)
    replace R0_3 := R0_3.alloc (.cells #[.int .i64 s0_0.f0, .int .i64 s0_0.f1, .slice A0_1 n0_1 c0_1, .slice A0_2 n0_2 c0_2, .slice A0_3 n0_3 c0_3, .int .i64 p0_4] 105)
    have KB0 : BoxAt (w.alloc (.cells #[.int .i64 s0_0.f0, .int .i64 s0_0.f1, .slice A0_1 n0_1 c0_1, .slice A0_2 n0_2 c0_2, .slice A0_3 n0_3 c0_3, .int .i64 p0_4] 105)) (w.heap.size) 105 #[.int .i64 s0_0.f0, .int .i64 s0_0.f1, .slice A0_1 n0_1 c0_1, .slice A0_2 n0_2 c0_2, .slice A0_3 n0_3 c0_3, .int .i64 p0_4] := box_new _ _ _
    go_enter Try.func13, Try.ntmps13
    have xKB0_0 : (w.alloc (.cells #[.int .i64 s0_0.f0, .int .i64 s0_0.f1, .slice A0_1 n0_1 c0_1, .slice A0_2 n0_2 c0_2, .slice A0_3 n0_3 c0_3, .int .i64 p0_4] 105)).cell? ⟨w.heap.size, 0, none⟩ = some (.int .i64 s0_0.f0) := KB0.at_ rfl
    have xKB0_1 : (w.alloc (.cells #[.int .i64 s0_0.f0, .int .i64 s0_0.f1, .slice A0_1 n0_1 c0_1, .slice A0_2 n0_2 c0_2, .slice A0_3 n0_3 c0_3, .int .i64 p0_4] 105)).cell? ⟨w.heap.size, 1, none⟩ = some (.int .i64 s0_0.f1) := KB0.at_ rfl
    have xKB0_2 : (w.alloc (.cells #[.int .i64 s0_0.f0, .int .i64 s0_0.f1, .slice A0_1 n0_1 c0_1, .slice A0_2 n0_2 c0_2, .slice A0_3 n0_3 c0_3, .int .i64 p0_4] 105)).cell? ⟨w.heap.size, 2, none⟩ = some (.slice A0_1 n0_1 c0_1) := KB0.at_ rfl
    have xKB0_3 : (w.alloc (.cells #[.int .i64 s0_0.f0, .int .i64 s0_0.f1, .slice A0_1 n0_1 c0_1, .slice A0_2 n0_2 c0_2, .slice A0_3 n0_3 c0_3, .int .i64 p0_4] 105)).cell? ⟨w.heap.size, 3, none⟩ = some (.slice A0_2 n0_2 c0_2) := KB0.at_ rfl
    have xKB0_4 : (w.alloc (.cells #[.int .i64 s0_0.f0, .int .i64 s0_0.f1, .slice A0_1 n0_1 c0_1, .slice A0_2 n0_2 c0_2, .slice A0_3 n0_3 c0_3, .int .i64 p0_4] 105)).cell? ⟨w.heap.size, 4, none⟩ = some (.slice A0_3 n0_3 c0_3) := KB0.at_ rfl
    have xKB0_5 : (w.alloc (.cells #[.int .i64 s0_0.f0, .int .i64 s0_0.f1, .slice A0_1 n0_1 c0_1, .slice A0_2 n0_2 c0_2, .slice A0_3 n0_3 c0_3, .int .i64 p0_4] 105)).cell? ⟨w.heap.size, 5, none⟩ = some (.int .i64 p0_4) := KB0.at_ rfl
    go_wp2_with fail
    refine Calls.mono (sz_tab s0_0 A0_1 n0_1 c0_1 A0_2 n0_2 c0_2 A0_3 n0_3 c0_3 p0_4 (1048576) _ hm0_1 hm0_2 hm0_3 (by omega) (by omega)) ?_
    rintro e w1 ⟨rfl, B1⟩
    replace R0_1 := (R0_1).new B1
    replace R0_2 := (R0_2).new B1
    replace R0_3 := (R0_3).new B1
    replace KB0 := (KB0).new B1
    replace G := below_trans G B1 (Nat.le_refl _)
    have S1 := Lib.hid (show (w.alloc (.cells #[.int .i64 s0_0.f0, .int .i64 s0_0.f1, .slice A0_1 n0_1 c0_1, .slice A0_2 n0_2 c0_2, .slice A0_3 n0_3 c0_3, .int .i64 p0_4] 105)).heap.size + 0 ≤ w1.heap.size by have := B1.size; first | (simpa using this) | ((try simp at this); omega))
    clear B1
    clear xKB0_0 xKB0_1 xKB0_2 xKB0_3 xKB0_4 xKB0_5
    have xKB0_0 : w1.cell? ⟨w.heap.size, 0, none⟩ = some (.int .i64 s0_0.f0) := KB0.at_ rfl
    have xKB0_1 : w1.cell? ⟨w.heap.size, 1, none⟩ = some (.int .i64 s0_0.f1) := KB0.at_ rfl
    have xKB0_2 : w1.cell? ⟨w.heap.size, 2, none⟩ = some (.slice A0_1 n0_1 c0_1) := KB0.at_ rfl
    have xKB0_3 : w1.cell? ⟨w.heap.size, 3, none⟩ = some (.slice A0_2 n0_2 c0_2) := KB0.at_ rfl
    have xKB0_4 : w1.cell? ⟨w.heap.size, 4, none⟩ = some (.slice A0_3 n0_3 c0_3) := KB0.at_ rfl
    have xKB0_5 : w1.cell? ⟨w.heap.size, 5, none⟩ = some (.int .i64 p0_4) := KB0.at_ rfl
    go_wp2_with fail
    refine Calls.mono (to_tab s0_0 l0_1 A0_1 n0_1 c0_1 _ _ l0_2 A0_2 n0_2 c0_2 _ _ l0_3 A0_3 n0_3 c0_3 _ _ p0_4 _ hqn0_1 R0_1 hqn0_2 R0_2 hqn0_3 R0_3) ?_
    rintro e w2 ⟨T2_1, T2_2, T2_3, tc2_1, tlo2_1, thi2_1, tc2_2, tlo2_2, thi2_2, tc2_3, tlo2_3, thi2_3, rfl, FT2_1, FT2_2, FT2_3, MT2, B2⟩
    replace R0_1 := (R0_1).new B2
    replace R0_2 := (R0_2).new B2
    replace R0_3 := (R0_3).new B2
    replace KB0 := (KB0).new B2
    replace G := below_trans G B2 (Nat.le_refl _)
    have S2 := Lib.hid (show w1.heap.size + 0 ≤ w2.heap.size by have := B2.size; first | (simpa using this) | ((try simp at this); omega))
    clear B2
    clear xKB0_0 xKB0_1 xKB0_2 xKB0_3 xKB0_4 xKB0_5
    go_wp2_with fail
    refine Calls.mono (spec_TabDocument s0_0 l0_1 T2_1 n0_1 tc2_1 _ _ l0_2 T2_2 n0_2 tc2_2 _ _ l0_3 T2_3 n0_3 tc2_3 _ _ p0_4 _ H0_0 (by omega) FT2_1.rd H0_1 (by omega) FT2_2.rd H0_2 (by omega) FT2_3.rd H0_3) ?_
    rintro e w3 ⟨P3_0, pc3_0, rfl, FP3_0, B3⟩
    replace R0_1 := (R0_1).new B3
    replace R0_2 := (R0_2).new B3
    replace R0_3 := (R0_3).new B3
    replace KB0 := (KB0).new B3
    replace FT2_1 := (FT2_1).new B3
    replace FT2_2 := (FT2_2).new B3
    replace FT2_3 := (FT2_3).new B3
    replace G := below_trans G B3 (Nat.le_refl _)
    have S3 := Lib.hid (show w2.heap.size + 0 ≤ w3.heap.size by have := B3.size; first | (simpa using this) | ((try simp at this); omega))
    clear B3
    clear FT2_1
    clear FT2_2
    clear FT2_3
    have xKB0_0 : w3.cell? ⟨w.heap.size, 0, none⟩ = some (.int .i64 s0_0.f0) := KB0.at_ rfl
    have xKB0_1 : w3.cell? ⟨w.heap.size, 1, none⟩ = some (.int .i64 s0_0.f1) := KB0.at_ rfl
    have xKB0_2 : w3.cell? ⟨w.heap.size, 2, none⟩ = some (.slice A0_1 n0_1 c0_1) := KB0.at_ rfl
    have xKB0_3 : w3.cell? ⟨w.heap.size, 3, none⟩ = some (.slice A0_2 n0_2 c0_2) := KB0.at_ rfl
    have xKB0_4 : w3.cell? ⟨w.heap.size, 4, none⟩ = some (.slice A0_3 n0_3 c0_3) := KB0.at_ rfl
    have xKB0_5 : w3.cell? ⟨w.heap.size, 5, none⟩ = some (.int .i64 p0_4) := KB0.at_ rfl
    go_wp2_with fail
    refine Calls.mono (to_tab s0_0 l0_1 A0_1 n0_1 c0_1 _ _ l0_2 A0_2 n0_2 c0_2 _ _ l0_3 A0_3 n0_3 c0_3 _ _ p0_4 _ hqn0_1 R0_1 hqn0_2 R0_2 hqn0_3 R0_3) ?_
    rintro e w4 ⟨T4_1, T4_2, T4_3, tc4_1, tlo4_1, thi4_1, tc4_2, tlo4_2, thi4_2, tc4_3, tlo4_3, thi4_3, rfl, FT4_1, FT4_2, FT4_3, MT4, B4⟩
    replace R0_1 := (R0_1).new B4
    replace R0_2 := (R0_2).new B4
    replace R0_3 := (R0_3).new B4
    replace KB0 := (KB0).new B4
    replace FP3_0 := (FP3_0).new B4
    replace G := below_trans G B4 (Nat.le_refl _)
    have S4 := Lib.hid (show w3.heap.size + 0 ≤ w4.heap.size by have := B4.size; first | (simpa using this) | ((try simp at this); omega))
    clear B4
    clear xKB0_0 xKB0_1 xKB0_2 xKB0_3 xKB0_4 xKB0_5
    have SA6 := Lib.hid (show (w4.alloc (.cells #[.int .i64 s0_0.f0, .int .i64 s0_0.f1, .slice T4_1 n0_1 tc4_1, .slice T4_2 n0_2 tc4_2, .slice T4_3 n0_3 tc4_3, .int .i64 p0_4] 110)).heap.size = w4.heap.size + 1 by simp)
    replace R0_1 := R0_1.alloc (.cells #[.int .i64 s0_0.f0, .int .i64 s0_0.f1, .slice T4_1 n0_1 tc4_1, .slice T4_2 n0_2 tc4_2, .slice T4_3 n0_3 tc4_3, .int .i64 p0_4] 110)
    replace R0_2 := R0_2.alloc (.cells #[.int .i64 s0_0.f0, .int .i64 s0_0.f1, .slice T4_1 n0_1 tc4_1, .slice T4_2 n0_2 tc4_2, .slice T4_3 n0_3 tc4_3, .int .i64 p0_4] 110)
    replace R0_3 := R0_3.alloc (.cells #[.int .i64 s0_0.f0, .int .i64 s0_0.f1, .slice T4_1 n0_1 tc4_1, .slice T4_2 n0_2 tc4_2, .slice T4_3 n0_3 tc4_3, .int .i64 p0_4] 110)
    replace KB0 := KB0.alloc_ (.cells #[.int .i64 s0_0.f0, .int .i64 s0_0.f1, .slice T4_1 n0_1 tc4_1, .slice T4_2 n0_2 tc4_2, .slice T4_3 n0_3 tc4_3, .int .i64 p0_4] 110)
    replace FP3_0 := FP3_0.alloc (.cells #[.int .i64 s0_0.f0, .int .i64 s0_0.f1, .slice T4_1 n0_1 tc4_1, .slice T4_2 n0_2 tc4_2, .slice T4_3 n0_3 tc4_3, .int .i64 p0_4] 110)
    replace FT4_1 := FT4_1.alloc (.cells #[.int .i64 s0_0.f0, .int .i64 s0_0.f1, .slice T4_1 n0_1 tc4_1, .slice T4_2 n0_2 tc4_2, .slice T4_3 n0_3 tc4_3, .int .i64 p0_4] 110)
    replace FT4_2 := FT4_2.alloc (.cells #[.int .i64 s0_0.f0, .int .i64 s0_0.f1, .slice T4_1 n0_1 tc4_1, .slice T4_2 n0_2 tc4_2, .slice T4_3 n0_3 tc4_3, .int .i64 p0_4] 110)
    replace FT4_3 := FT4_3.alloc (.cells #[.int .i64 s0_0.f0, .int .i64 s0_0.f1, .slice T4_1 n0_1 tc4_1, .slice T4_2 n0_2 tc4_2, .slice T4_3 n0_3 tc4_3, .int .i64 p0_4] 110)
    have KX5 : BoxAt (w4.alloc (.cells #[.int .i64 s0_0.f0, .int .i64 s0_0.f1, .slice T4_1 n0_1 tc4_1, .slice T4_2 n0_2 tc4_2, .slice T4_3 n0_3 tc4_3, .int .i64 p0_4] 110)) (w4.heap.size) 110 #[.int .i64 s0_0.f0, .int .i64 s0_0.f1, .slice T4_1 n0_1 tc4_1, .slice T4_2 n0_2 tc4_2, .slice T4_3 n0_3 tc4_3, .int .i64 p0_4] := box_new _ _ _
    replace G := G.alloc (by have := S0.out; have := S1.out; have := S2.out; have := S3.out; have := S4.out; have := SA6.out; have := SepTab_bd MT2.out; have := SepTab_bd MT4.out; first | omega | (simp; omega)) (.cells #[.int .i64 s0_0.f0, .int .i64 s0_0.f1, .slice T4_1 n0_1 tc4_1, .slice T4_2 n0_2 tc4_2, .slice T4_3 n0_3 tc4_3, .int .i64 p0_4] 110)
    have xKX5_0 : (w4.alloc (.cells #[.int .i64 s0_0.f0, .int .i64 s0_0.f1, .slice T4_1 n0_1 tc4_1, .slice T4_2 n0_2 tc4_2, .slice T4_3 n0_3 tc4_3, .int .i64 p0_4] 110)).cell? ⟨w4.heap.size, 0, none⟩ = some (.int .i64 s0_0.f0) := KX5.at_ rfl
    have xKX5_1 : (w4.alloc (.cells #[.int .i64 s0_0.f0, .int .i64 s0_0.f1, .slice T4_1 n0_1 tc4_1, .slice T4_2 n0_2 tc4_2, .slice T4_3 n0_3 tc4_3, .int .i64 p0_4] 110)).cell? ⟨w4.heap.size, 1, none⟩ = some (.int .i64 s0_0.f1) := KX5.at_ rfl
    have xKX5_2 : (w4.alloc (.cells #[.int .i64 s0_0.f0, .int .i64 s0_0.f1, .slice T4_1 n0_1 tc4_1, .slice T4_2 n0_2 tc4_2, .slice T4_3 n0_3 tc4_3, .int .i64 p0_4] 110)).cell? ⟨w4.heap.size, 2, none⟩ = some (.slice T4_1 n0_1 tc4_1) := KX5.at_ rfl
    have xKX5_3 : (w4.alloc (.cells #[.int .i64 s0_0.f0, .int .i64 s0_0.f1, .slice T4_1 n0_1 tc4_1, .slice T4_2 n0_2 tc4_2, .slice T4_3 n0_3 tc4_3, .int .i64 p0_4] 110)).cell? ⟨w4.heap.size, 3, none⟩ = some (.slice T4_2 n0_2 tc4_2) := KX5.at_ rfl
    have xKX5_4 : (w4.alloc (.cells #[.int .i64 s0_0.f0, .int .i64 s0_0.f1, .slice T4_1 n0_1 tc4_1, .slice T4_2 n0_2 tc4_2, .slice T4_3 n0_3 tc4_3, .int .i64 p0_4] 110)).cell? ⟨w4.heap.size, 4, none⟩ = some (.slice T4_3 n0_3 tc4_3) := KX5.at_ rfl
    have xKX5_5 : (w4.alloc (.cells #[.int .i64 s0_0.f0, .int .i64 s0_0.f1, .slice T4_1 n0_1 tc4_1, .slice T4_2 n0_2 tc4_2, .slice T4_3 n0_3 tc4_3, .int .i64 p0_4] 110)).cell? ⟨w4.heap.size, 5, none⟩ = some (.int .i64 p0_4) := KX5.at_ rfl
    go_wp2_with fail
    refine Calls.mono (impl_TabDocument s0_0 l0_1 T4_1 n0_1 tc4_1 _ _ l0_2 T4_2 n0_2 tc4_2 _ _ l0_3 T4_3 n0_3 tc4_3 _ _ p0_4 _ H0_0 (by omega) FT4_1.rd H0_1 (by omega) FT4_2.rd H0_2 (by omega) FT4_3.rd H0_3) ?_
    rintro e w5 ⟨P7_0, pc7_0, rfl, FP7_0, B7⟩
    replace R0_1 := (R0_1).new B7
    replace R0_2 := (R0_2).new B7
    replace R0_3 := (R0_3).new B7
    replace KB0 := (KB0).new B7
    replace FP3_0 := (FP3_0).new B7
    replace FT4_1 := (FT4_1).new B7
    replace FT4_2 := (FT4_2).new B7
    replace FT4_3 := (FT4_3).new B7
    replace KX5 := (KX5).new B7
    replace G := below_trans G B7 (Nat.le_refl _)
    have S5 := Lib.hid (show (w4.alloc (.cells #[.int .i64 s0_0.f0, .int .i64 s0_0.f1, .slice T4_1 n0_1 tc4_1, .slice T4_2 n0_2 tc4_2, .slice T4_3 n0_3 tc4_3, .int .i64 p0_4] 110)).heap.size + 0 ≤ w5.heap.size by have := B7.size; first | (simpa using this) | ((try simp at this); omega))
    clear B7
    clear xKX5_0 xKX5_1 xKX5_2 xKX5_3 xKX5_4 xKX5_5
    go_wp2_with fail
    refine Calls.mono (eq_node_same (mRun l0_1 l0_2) P7_0 P3_0 ((mRun l0_1 l0_2).length) ((mRun l0_1 l0_2).length) pc7_0 pc3_0 _ _ _ _ _ (by omega) (by omega) FP7_0.rd FP3_0.rd) ?_
    rintro e w6 ⟨rfl, B8⟩
    replace R0_1 := (R0_1).new B8
    replace R0_2 := (R0_2).new B8
    replace R0_3 := (R0_3).new B8
    replace KB0 := (KB0).new B8
    replace FP3_0 := (FP3_0).new B8
    replace FT4_1 := (FT4_1).new B8
    replace FT4_2 := (FT4_2).new B8
    replace FT4_3 := (FT4_3).new B8
    replace KX5 := (KX5).new B8
    replace FP7_0 := (FP7_0).new B8
    replace G := below_trans G B8 (Nat.le_refl _)
    have S6 := Lib.hid (show w5.heap.size + 0 ≤ w6.heap.size by have := B8.size; first | (simpa using this) | ((try simp at this); omega))
    clear B8
    go_wp2_with fail
    replace G := G.drew
    replace R0_1 := R0_1.drw
    replace R0_2 := R0_2.drw
    replace R0_3 := R0_3.drw
    replace KB0 := KB0.drw
    replace FP3_0 := FP3_0.drw
    replace FT4_1 := FT4_1.drw
    replace FT4_2 := FT4_2.drw
    replace FT4_3 := FT4_3.drw
    replace KX5 := KX5.drw
    replace FP7_0 := FP7_0.drw
    go_region_held3 (fun w' => w'.cell? ⟨w4.heap.size, 0, none⟩ = some (.int .i64 s0_0.f0) ∧ w'.cell? ⟨w4.heap.size, 1, none⟩ = some (.int .i64 s0_0.f1) ∧ w'.cell? ⟨w4.heap.size, 2, none⟩ = some (.slice T4_1 n0_1 tc4_1) ∧ w'.cell? ⟨w4.heap.size, 3, none⟩ = some (.slice T4_2 n0_2 tc4_2) ∧ w'.cell? ⟨w4.heap.size, 4, none⟩ = some (.slice T4_3 n0_3 tc4_3) ∧ w'.cell? ⟨w4.heap.size, 5, none⟩ = some (.int .i64 p0_4) ∧ w'.cell? ⟨w.heap.size, 0, none⟩ = some (.int .i64 s0_0.f0) ∧ w'.cell? ⟨w.heap.size, 1, none⟩ = some (.int .i64 s0_0.f1) ∧ w'.cell? ⟨w.heap.size, 2, none⟩ = some (.slice A0_1 n0_1 c0_1) ∧ w'.cell? ⟨w.heap.size, 3, none⟩ = some (.slice A0_2 n0_2 c0_2) ∧ w'.cell? ⟨w.heap.size, 4, none⟩ = some (.slice A0_3 n0_3 c0_3) ∧ w'.cell? ⟨w.heap.size, 5, none⟩ = some (.int .i64 p0_4))
      (exact ⟨KX5.at_ rfl, KX5.at_ rfl, KX5.at_ rfl, KX5.at_ rfl, KX5.at_ rfl, KX5.at_ rfl, KB0.at_ rfl, KB0.at_ rfl, KB0.at_ rfl, KB0.at_ rfl, KB0.at_ rfl, KB0.at_ rfl⟩)
      (first
        | (go_at_call 70; (fail_if_success (have hx := B9)); refine Calls.mono (to_tab s0_0 l0_1 A0_1 n0_1 c0_1 _ _ l0_2 A0_2 n0_2 c0_2 _ _ l0_3 A0_3 n0_3 c0_3 _ _ p0_4 _ hqn0_1 R0_1 hqn0_2 R0_2 hqn0_3 R0_3) ?_; rintro e w7 ⟨T9_1, T9_2, T9_3, tc9_1, tlo9_1, thi9_1, tc9_2, tlo9_2, thi9_2, tc9_3, tlo9_3, thi9_3, rfl, FT9_1, FT9_2, FT9_3, MT9, B9⟩; (replace R0_1 := rd_nw B9 R0_1); (replace R0_2 := rd_nw B9 R0_2); (replace R0_3 := rd_nw B9 R0_3); (replace KB0 := box_nw B9 KB0); (replace FP3_0 := fr_nw B9 FP3_0); (replace FT4_1 := fr_nw B9 FT4_1); (replace FT4_2 := fr_nw B9 FT4_2); (replace FT4_3 := fr_nw B9 FT4_3); (replace KX5 := box_nw B9 KX5); (replace FP7_0 := fr_nw B9 FP7_0); (replace G := (by first | exact below_trans G B9 (Nat.le_refl _) | exact below_trans G.drew B9 (Nat.le_refl _) | exact below_trans (below_dN G _) B9 (Nat.le_refl _))); (have S7 := Lib.hid (show w6.heap.size ≤ w7.heap.size from B9.size)))
        | (go_at_call 72; (fail_if_success (have hx := B10)); refine Calls.mono (eq_tab_same s0_0 l0_1 n0_1 T4_1 T9_1 tc4_1 tc9_1 _ _ _ _ l0_2 n0_2 T4_2 T9_2 tc4_2 tc9_2 _ _ _ _ l0_3 n0_3 T4_3 T9_3 tc4_3 tc9_3 _ _ _ _ p0_4 _ (by omega) (by omega) (by omega) FT4_1.rd FT4_2.rd FT4_3.rd FT9_1.rd FT9_2.rd FT9_3.rd) ?_; rintro e w8 ⟨rfl, B10⟩; (replace R0_1 := rd_nw B10 R0_1); (replace R0_2 := rd_nw B10 R0_2); (replace R0_3 := rd_nw B10 R0_3); (replace KB0 := box_nw B10 KB0); (replace FP3_0 := fr_nw B10 FP3_0); (replace FT4_1 := fr_nw B10 FT4_1); (replace FT4_2 := fr_nw B10 FT4_2); (replace FT4_3 := fr_nw B10 FT4_3); (replace KX5 := box_nw B10 KX5); (replace FP7_0 := fr_nw B10 FP7_0); (replace FT9_1 := fr_nw B10 FT9_1); (replace FT9_2 := fr_nw B10 FT9_2); (replace FT9_3 := fr_nw B10 FT9_3); (replace G := (by first | exact below_trans G B10 (Nat.le_refl _) | exact below_trans G.drew B10 (Nat.le_refl _) | exact below_trans (below_dN G _) B10 (Nat.le_refl _))); (have S8 := Lib.hid (show w7.heap.size ≤ w8.heap.size from B10.size))))
    clear B9
    clear B10
    clear FT9_1
    clear FT9_2
    clear FT9_3
    have xKX5_0 : w8.cell? ⟨w4.heap.size, 0, none⟩ = some (.int .i64 s0_0.f0) := KX5.at_ rfl
    have xKX5_1 : w8.cell? ⟨w4.heap.size, 1, none⟩ = some (.int .i64 s0_0.f1) := KX5.at_ rfl
    have xKX5_2 : w8.cell? ⟨w4.heap.size, 2, none⟩ = some (.slice T4_1 n0_1 tc4_1) := KX5.at_ rfl
    have xKX5_3 : w8.cell? ⟨w4.heap.size, 3, none⟩ = some (.slice T4_2 n0_2 tc4_2) := KX5.at_ rfl
    have xKX5_4 : w8.cell? ⟨w4.heap.size, 4, none⟩ = some (.slice T4_3 n0_3 tc4_3) := KX5.at_ rfl
    have xKX5_5 : w8.cell? ⟨w4.heap.size, 5, none⟩ = some (.int .i64 p0_4) := KX5.at_ rfl
    go_wp2_with fail
    refine Calls.mono (mark_tab s0_0 _ T4_1 n0_1 tc4_1 _ _ _ T4_2 n0_2 tc4_2 _ _ _ T4_3 n0_3 tc4_3 _ _ p0_4 (1) w3.heap.size w4.heap.size _ (by omega) (by omega) (by omega) (by omega) (by have := S0.out; have := S1.out; have := S2.out; have := S3.out; have := S4.out; have := SA6.out; have := S5.out; have := S6.out; have := S7.out; have := S8.out; have := SepTab_bd MT2.out; have := SepTab_bd MT4.out; have := SepTab_bd MT9.out; omega) MT4 FT4_1 FT4_2 FT4_3) ?_
    rintro e w9 ⟨rfl, FM11_1, FM11_2, FM11_3, B11⟩
    replace R0_1 := (R0_1).chg B11 (by have := S0.out; have := S1.out; have := S2.out; have := S3.out; have := S4.out; have := SA6.out; have := S5.out; have := S6.out; have := S7.out; have := S8.out; have := SepTab_bd MT2.out; have := SepTab_bd MT4.out; have := SepTab_bd MT9.out; omega)
    replace R0_2 := (R0_2).chg B11 (by have := S0.out; have := S1.out; have := S2.out; have := S3.out; have := S4.out; have := SA6.out; have := S5.out; have := S6.out; have := S7.out; have := S8.out; have := SepTab_bd MT2.out; have := SepTab_bd MT4.out; have := SepTab_bd MT9.out; omega)
    replace R0_3 := (R0_3).chg B11 (by have := S0.out; have := S1.out; have := S2.out; have := S3.out; have := S4.out; have := SA6.out; have := S5.out; have := S6.out; have := S7.out; have := S8.out; have := SepTab_bd MT2.out; have := SepTab_bd MT4.out; have := SepTab_bd MT9.out; omega)
    replace KB0 := (KB0).chg B11 (by have := S0.out; have := S1.out; have := S2.out; have := S3.out; have := S4.out; have := SA6.out; have := S5.out; have := S6.out; have := S7.out; have := S8.out; have := SepTab_bd MT2.out; have := SepTab_bd MT4.out; have := SepTab_bd MT9.out; omega)
    replace FP3_0 := (FP3_0).chg B11 (by have := S0.out; have := S1.out; have := S2.out; have := S3.out; have := S4.out; have := SA6.out; have := S5.out; have := S6.out; have := S7.out; have := S8.out; have := SepTab_bd MT2.out; have := SepTab_bd MT4.out; have := SepTab_bd MT9.out; omega)
    replace KX5 := (KX5).chg B11 (by have := S0.out; have := S1.out; have := S2.out; have := S3.out; have := S4.out; have := SA6.out; have := S5.out; have := S6.out; have := S7.out; have := S8.out; have := SepTab_bd MT2.out; have := SepTab_bd MT4.out; have := SepTab_bd MT9.out; omega)
    replace FP7_0 := (FP7_0).chg B11 (by have := S0.out; have := S1.out; have := S2.out; have := S3.out; have := S4.out; have := SA6.out; have := S5.out; have := S6.out; have := S7.out; have := S8.out; have := SepTab_bd MT2.out; have := SepTab_bd MT4.out; have := SepTab_bd MT9.out; omega)
    replace G := G.trans (B11.below (.inl (by have := S0.out; have := S1.out; have := S2.out; have := S3.out; have := S4.out; have := SA6.out; have := S5.out; have := S6.out; have := S7.out; have := S8.out; have := SepTab_bd MT2.out; have := SepTab_bd MT4.out; have := SepTab_bd MT9.out; omega)) (by have := S0.out; have := S1.out; have := S2.out; have := S3.out; have := S4.out; have := SA6.out; have := S5.out; have := S6.out; have := S7.out; have := S8.out; have := SepTab_bd MT2.out; have := SepTab_bd MT4.out; have := SepTab_bd MT9.out; first | omega | (simp; omega)))
    have S9 := Lib.hid (show w8.heap.size + 0 ≤ w9.heap.size by have := B11.size; first | (simpa using this) | ((try simp at this); omega))
    clear FT4_1
    clear FT4_2
    clear FT4_3
    clear B11
    clear xKX5_0 xKX5_1 xKX5_2 xKX5_3 xKX5_4 xKX5_5
    go_wp2_with fail
    refine Calls.mono (eq_node_same (mRun l0_1 l0_2) P7_0 P3_0 ((mRun l0_1 l0_2).length) ((mRun l0_1 l0_2).length) pc7_0 pc3_0 _ _ _ _ _ (by omega) (by omega) FP7_0.rd FP3_0.rd) ?_
    rintro e w10 ⟨rfl, B12⟩
    replace R0_1 := (R0_1).new B12
    replace R0_2 := (R0_2).new B12
    replace R0_3 := (R0_3).new B12
    replace KB0 := (KB0).new B12
    replace FP3_0 := (FP3_0).new B12
    replace KX5 := (KX5).new B12
    replace FP7_0 := (FP7_0).new B12
    replace FM11_1 := (FM11_1).new B12
    replace FM11_2 := (FM11_2).new B12
    replace FM11_3 := (FM11_3).new B12
    replace G := below_trans G B12 (Nat.le_refl _)
    have S10 := Lib.hid (show w9.heap.size + 0 ≤ w10.heap.size by have := B12.size; first | (simpa using this) | ((try simp at this); omega))
    clear B12
    go_wp2_with fail
    refine Calls.mono (mark_node _ P7_0 ((mRun l0_1 l0_2).length) pc7_0 _ _ (1) _ (by omega) (by omega) FP7_0) ?_
    rintro e w11 ⟨rfl, FM13, B13, E13⟩
    replace R0_1 := (R0_1).chg B13 (by have := S0.out; have := S1.out; have := S2.out; have := S3.out; have := S4.out; have := SA6.out; have := S5.out; have := S6.out; have := S7.out; have := S8.out; have := S9.out; have := S10.out; have := SepTab_bd MT2.out; have := SepTab_bd MT4.out; have := SepTab_bd MT9.out; omega)
    replace R0_2 := (R0_2).chg B13 (by have := S0.out; have := S1.out; have := S2.out; have := S3.out; have := S4.out; have := SA6.out; have := S5.out; have := S6.out; have := S7.out; have := S8.out; have := S9.out; have := S10.out; have := SepTab_bd MT2.out; have := SepTab_bd MT4.out; have := SepTab_bd MT9.out; omega)
    replace R0_3 := (R0_3).chg B13 (by have := S0.out; have := S1.out; have := S2.out; have := S3.out; have := S4.out; have := SA6.out; have := S5.out; have := S6.out; have := S7.out; have := S8.out; have := S9.out; have := S10.out; have := SepTab_bd MT2.out; have := SepTab_bd MT4.out; have := SepTab_bd MT9.out; omega)
    replace KB0 := (KB0).chg B13 (by have := S0.out; have := S1.out; have := S2.out; have := S3.out; have := S4.out; have := SA6.out; have := S5.out; have := S6.out; have := S7.out; have := S8.out; have := S9.out; have := S10.out; have := SepTab_bd MT2.out; have := SepTab_bd MT4.out; have := SepTab_bd MT9.out; omega)
    replace FP3_0 := (FP3_0).chg B13 (by have := S0.out; have := S1.out; have := S2.out; have := S3.out; have := S4.out; have := SA6.out; have := S5.out; have := S6.out; have := S7.out; have := S8.out; have := S9.out; have := S10.out; have := SepTab_bd MT2.out; have := SepTab_bd MT4.out; have := SepTab_bd MT9.out; omega)
    replace KX5 := (KX5).chg B13 (by have := S0.out; have := S1.out; have := S2.out; have := S3.out; have := S4.out; have := SA6.out; have := S5.out; have := S6.out; have := S7.out; have := S8.out; have := S9.out; have := S10.out; have := SepTab_bd MT2.out; have := SepTab_bd MT4.out; have := SepTab_bd MT9.out; omega)
    replace FM11_1 := (FM11_1).chg B13 (by have := S0.out; have := S1.out; have := S2.out; have := S3.out; have := S4.out; have := SA6.out; have := S5.out; have := S6.out; have := S7.out; have := S8.out; have := S9.out; have := S10.out; have := SepTab_bd MT2.out; have := SepTab_bd MT4.out; have := SepTab_bd MT9.out; omega)
    replace FM11_2 := (FM11_2).chg B13 (by have := S0.out; have := S1.out; have := S2.out; have := S3.out; have := S4.out; have := SA6.out; have := S5.out; have := S6.out; have := S7.out; have := S8.out; have := S9.out; have := S10.out; have := SepTab_bd MT2.out; have := SepTab_bd MT4.out; have := SepTab_bd MT9.out; omega)
    replace FM11_3 := (FM11_3).chg B13 (by have := S0.out; have := S1.out; have := S2.out; have := S3.out; have := S4.out; have := SA6.out; have := S5.out; have := S6.out; have := S7.out; have := S8.out; have := S9.out; have := S10.out; have := SepTab_bd MT2.out; have := SepTab_bd MT4.out; have := SepTab_bd MT9.out; omega)
    replace G := G.trans (B13.below (.inl (by have := S0.out; have := S1.out; have := S2.out; have := S3.out; have := S4.out; have := SA6.out; have := S5.out; have := S6.out; have := S7.out; have := S8.out; have := S9.out; have := S10.out; have := SepTab_bd MT2.out; have := SepTab_bd MT4.out; have := SepTab_bd MT9.out; omega)) (by have := S0.out; have := S1.out; have := S2.out; have := S3.out; have := S4.out; have := SA6.out; have := S5.out; have := S6.out; have := S7.out; have := S8.out; have := S9.out; have := S10.out; have := SepTab_bd MT2.out; have := SepTab_bd MT4.out; have := SepTab_bd MT9.out; first | omega | (simp; omega)))
    have S11 := Lib.hid (show w10.heap.size + 0 ≤ w11.heap.size by have := B13.size; first | (simpa using this) | ((try simp at this); omega))
    clear FP7_0
    clear E13
    clear B13
    go_wp2_with fail
    refine Calls.mono (held_node P7_0 ((mRun l0_1 l0_2).length) pc7_0 _ _ (1) _ (by omega) (by omega) FM13.rd) ?_
    rintro e w12 hq
    obtain ⟨rfl, B14⟩ := hq.says
    replace R0_1 := (R0_1).new B14
    replace R0_2 := (R0_2).new B14
    replace R0_3 := (R0_3).new B14
    replace KB0 := (KB0).new B14
    replace FP3_0 := (FP3_0).new B14
    replace KX5 := (KX5).new B14
    replace FM11_1 := (FM11_1).new B14
    replace FM11_2 := (FM11_2).new B14
    replace FM11_3 := (FM11_3).new B14
    replace FM13 := (FM13).new B14
    replace G := below_trans G B14 (Nat.le_refl _)
    have S12 := Lib.hid (show w11.heap.size + 0 ≤ w12.heap.size by have := B14.size; first | (simpa using this) | ((try simp at this); omega))
    clear B14
    have xKB0_0 : w12.cell? ⟨w.heap.size, 0, none⟩ = some (.int .i64 s0_0.f0) := KB0.at_ rfl
    have xKB0_1 : w12.cell? ⟨w.heap.size, 1, none⟩ = some (.int .i64 s0_0.f1) := KB0.at_ rfl
    have xKB0_2 : w12.cell? ⟨w.heap.size, 2, none⟩ = some (.slice A0_1 n0_1 c0_1) := KB0.at_ rfl
    have xKB0_3 : w12.cell? ⟨w.heap.size, 3, none⟩ = some (.slice A0_2 n0_2 c0_2) := KB0.at_ rfl
    have xKB0_4 : w12.cell? ⟨w.heap.size, 4, none⟩ = some (.slice A0_3 n0_3 c0_3) := KB0.at_ rfl
    have xKB0_5 : w12.cell? ⟨w.heap.size, 5, none⟩ = some (.int .i64 p0_4) := KB0.at_ rfl
    go_wp2_with fail
    refine Calls.mono (to_tab s0_0 l0_1 A0_1 n0_1 c0_1 _ _ l0_2 A0_2 n0_2 c0_2 _ _ l0_3 A0_3 n0_3 c0_3 _ _ p0_4 _ hqn0_1 R0_1 hqn0_2 R0_2 hqn0_3 R0_3) ?_
    rintro e w13 ⟨T15_1, T15_2, T15_3, tc15_1, tlo15_1, thi15_1, tc15_2, tlo15_2, thi15_2, tc15_3, tlo15_3, thi15_3, rfl, FT15_1, FT15_2, FT15_3, MT15, B15⟩
    replace R0_1 := (R0_1).new B15
    replace R0_2 := (R0_2).new B15
    replace R0_3 := (R0_3).new B15
    replace KB0 := (KB0).new B15
    replace FP3_0 := (FP3_0).new B15
    replace KX5 := (KX5).new B15
    replace FM11_1 := (FM11_1).new B15
    replace FM11_2 := (FM11_2).new B15
    replace FM11_3 := (FM11_3).new B15
    replace FM13 := (FM13).new B15
    replace G := below_trans G B15 (Nat.le_refl _)
    have S13 := Lib.hid (show w12.heap.size + 0 ≤ w13.heap.size by have := B15.size; first | (simpa using this) | ((try simp at this); omega))
    clear B15
    clear xKB0_0 xKB0_1 xKB0_2 xKB0_3 xKB0_4 xKB0_5
    go_wp2_with fail
    refine Calls.mono (impl_TabDocument s0_0 l0_1 T15_1 n0_1 tc15_1 _ _ l0_2 T15_2 n0_2 tc15_2 _ _ l0_3 T15_3 n0_3 tc15_3 _ _ p0_4 _ H0_0 (by omega) FT15_1.rd H0_1 (by omega) FT15_2.rd H0_2 (by omega) FT15_3.rd H0_3) ?_
    rintro e w14 ⟨P16_0, pc16_0, rfl, FP16_0, B16⟩
    replace R0_1 := (R0_1).new B16
    replace R0_2 := (R0_2).new B16
    replace R0_3 := (R0_3).new B16
    replace KB0 := (KB0).new B16
    replace FP3_0 := (FP3_0).new B16
    replace KX5 := (KX5).new B16
    replace FM11_1 := (FM11_1).new B16
    replace FM11_2 := (FM11_2).new B16
    replace FM11_3 := (FM11_3).new B16
    replace FM13 := (FM13).new B16
    replace FT15_1 := (FT15_1).new B16
    replace FT15_2 := (FT15_2).new B16
    replace FT15_3 := (FT15_3).new B16
    replace G := below_trans G B16 (Nat.le_refl _)
    have S14 := Lib.hid (show w13.heap.size + 0 ≤ w14.heap.size by have := B16.size; first | (simpa using this) | ((try simp at this); omega))
    clear B16
    go_wp2_with fail
    refine Calls.mono (eq_node_same (mRun l0_1 l0_2) P16_0 P3_0 ((mRun l0_1 l0_2).length) ((mRun l0_1 l0_2).length) pc16_0 pc3_0 _ _ _ _ _ (by omega) (by omega) FP16_0.rd FP3_0.rd) ?_
    rintro e w15 ⟨rfl, B17⟩
    replace R0_1 := (R0_1).new B17
    replace R0_2 := (R0_2).new B17
    replace R0_3 := (R0_3).new B17
    replace KB0 := (KB0).new B17
    replace FP3_0 := (FP3_0).new B17
    replace KX5 := (KX5).new B17
    replace FM11_1 := (FM11_1).new B17
    replace FM11_2 := (FM11_2).new B17
    replace FM11_3 := (FM11_3).new B17
    replace FM13 := (FM13).new B17
    replace FT15_1 := (FT15_1).new B17
    replace FT15_2 := (FT15_2).new B17
    replace FT15_3 := (FT15_3).new B17
    replace FP16_0 := (FP16_0).new B17
    replace G := below_trans G B17 (Nat.le_refl _)
    have S15 := Lib.hid (show w14.heap.size + 0 ≤ w15.heap.size by have := B17.size; first | (simpa using this) | ((try simp at this); omega))
    clear B17
    go_wp2_with fail
    refine Calls.mono (held_node P7_0 ((mRun l0_1 l0_2).length) pc7_0 _ _ (1) _ (by omega) (by omega) FM13.rd) ?_
    rintro e w16 hq
    obtain ⟨rfl, B18⟩ := hq.says
    replace R0_1 := (R0_1).new B18
    replace R0_2 := (R0_2).new B18
    replace R0_3 := (R0_3).new B18
    replace KB0 := (KB0).new B18
    replace FP3_0 := (FP3_0).new B18
    replace KX5 := (KX5).new B18
    replace FM11_1 := (FM11_1).new B18
    replace FM11_2 := (FM11_2).new B18
    replace FM11_3 := (FM11_3).new B18
    replace FM13 := (FM13).new B18
    replace FT15_1 := (FT15_1).new B18
    replace FT15_2 := (FT15_2).new B18
    replace FT15_3 := (FT15_3).new B18
    replace FP16_0 := (FP16_0).new B18
    replace G := below_trans G B18 (Nat.le_refl _)
    have S16 := Lib.hid (show w15.heap.size + 0 ≤ w16.heap.size by have := B18.size; first | (simpa using this) | ((try simp at this); omega))
    clear B18
    go_wp2_with fail
    go_ret
    exact ⟨rfl, G⟩
  · skip
    have G : Below w.heap.size w (w.alloc (.cells #[.int .i64 s0_0.f0, .int .i64 s0_0.f1, .slice A0_1 n0_1 c0_1, .slice A0_2 n0_2 c0_2, .slice A0_3 n0_3 c0_3, .int .i64 p0_4] 105)) := (Below.refl _ _).alloc (by simp) _
    have S0 := Lib.hid (show (w.alloc (.cells #[.int .i64 s0_0.f0, .int .i64 s0_0.f1, .slice A0_1 n0_1 c0_1, .slice A0_2 n0_2 c0_2, .slice A0_3 n0_3 c0_3, .int .i64 p0_4] 105)).heap.size = w.heap.size + 1 by simp)
    replace R0_1 := R0_1.alloc (.cells #[.int .i64 s0_0.f0, .int .i64 s0_0.f1, .slice A0_1 n0_1 c0_1, .slice A0_2 n0_2 c0_2, .slice A0_3 n0_3 c0_3, .int .i64 p0_4] 105)
    replace R0_2 := R0_2.alloc (.cells #[.int .i64 s0_0.f0, .int .i64 s0_0.f1, .slice A0_1 n0_1 c0_1, .slice A0_2 n0_2 c0_2, .slice A0_3 n0_3 c0_3, .int .i64 p0_4] 105)
    replace R0_3 := R0_3.alloc (.cells #[.int .i64 s0_0.f0, .int .i64 s0_0.f1, .slice A0_1 n0_1 c0_1, .slice A0_2 n0_2 c0_2, .slice A0_3 n0_3 c0_3, .int .i64 p0_4] 105)
    have KB0 : BoxAt (w.alloc (.cells #[.int .i64 s0_0.f0, .int .i64 s0_0.f1, .slice A0_1 n0_1 c0_1, .slice A0_2 n0_2 c0_2, .slice A0_3 n0_3 c0_3, .int .i64 p0_4] 105)) (w.heap.size) 105 #[.int .i64 s0_0.f0, .int .i64 s0_0.f1, .slice A0_1 n0_1 c0_1, .slice A0_2 n0_2 c0_2, .slice A0_3 n0_3 c0_3, .int .i64 p0_4] := box_new _ _ _
    go_enter Try.func13, Try.ntmps13
    have xKB0_0 : (w.alloc (.cells #[.int .i64 s0_0.f0, .int .i64 s0_0.f1, .slice A0_1 n0_1 c0_1, .slice A0_2 n0_2 c0_2, .slice A0_3 n0_3 c0_3, .int .i64 p0_4] 105)).cell? ⟨w.heap.size, 0, none⟩ = some (.int .i64 s0_0.f0) := KB0.at_ rfl
    have xKB0_1 : (w.alloc (.cells #[.int .i64 s0_0.f0, .int .i64 s0_0.f1, .slice A0_1 n0_1 c0_1, .slice A0_2 n0_2 c0_2, .slice A0_3 n0_3 c0_3, .int .i64 p0_4] 105)).cell? ⟨w.heap.size, 1, none⟩ = some (.int .i64 s0_0.f1) := KB0.at_ rfl
    have xKB0_2 : (w.alloc (.cells #[.int .i64 s0_0.f0, .int .i64 s0_0.f1, .slice A0_1 n0_1 c0_1, .slice A0_2 n0_2 c0_2, .slice A0_3 n0_3 c0_3, .int .i64 p0_4] 105)).cell? ⟨w.heap.size, 2, none⟩ = some (.slice A0_1 n0_1 c0_1) := KB0.at_ rfl
    have xKB0_3 : (w.alloc (.cells #[.int .i64 s0_0.f0, .int .i64 s0_0.f1, .slice A0_1 n0_1 c0_1, .slice A0_2 n0_2 c0_2, .slice A0_3 n0_3 c0_3, .int .i64 p0_4] 105)).cell? ⟨w.heap.size, 3, none⟩ = some (.slice A0_2 n0_2 c0_2) := KB0.at_ rfl
    have xKB0_4 : (w.alloc (.cells #[.int .i64 s0_0.f0, .int .i64 s0_0.f1, .slice A0_1 n0_1 c0_1, .slice A0_2 n0_2 c0_2, .slice A0_3 n0_3 c0_3, .int .i64 p0_4] 105)).cell? ⟨w.heap.size, 4, none⟩ = some (.slice A0_3 n0_3 c0_3) := KB0.at_ rfl
    have xKB0_5 : (w.alloc (.cells #[.int .i64 s0_0.f0, .int .i64 s0_0.f1, .slice A0_1 n0_1 c0_1, .slice A0_2 n0_2 c0_2, .slice A0_3 n0_3 c0_3, .int .i64 p0_4] 105)).cell? ⟨w.heap.size, 5, none⟩ = some (.int .i64 p0_4) := KB0.at_ rfl
    go_wp2_with fail
    refine Calls.mono (szno_tab s0_0 A0_1 n0_1 c0_1 A0_2 n0_2 c0_2 A0_3 n0_3 c0_3 p0_4 (1048576) _ hm0_1 hm0_2 hm0_3 (by omega) (by omega) (by omega)) ?_
    rintro e w1 ⟨rfl, B19⟩
    clear xKB0_0 xKB0_1 xKB0_2 xKB0_3 xKB0_4 xKB0_5
    go_wp2_with fail
    go_ret
    exact ⟨rfl, below_trans G B19 (Nat.le_refl _)⟩

set_option maxRecDepth 100000 in
theorem lifted (os : Os) (started : os.Started) (H : Type) (enc : TypeId × Value → H) :
    ReturnsInHanded {} Try.checked os 13 .any (Rows.fnExactTabDocumentSpec.pre6 enc Try.prog Try.f13 Rows.fnExactTabDocumentRow.domain false) (Rows.fnExactTabDocumentSpec.post enc Try.prog Try.f13 false true false false) := by
  refine law_lifted Try.func13 (by kernel_rfl) rfl rfl (by kernel_rfl) os started
    (ChangeSpec.witness6 (enc := enc) (C := Try.checked) false ⟨#[], #[.agg #[.int .i64 0, .int .i64 0, .slice none 0 0, .slice none 0 0, .slice none 0 0, .int .i64 0]], []⟩ 8 (by kernel_rfl) (by kernel_rfl) (by kernel_rfl) (by kernel_rfl)) ?_
  intro W base args ds p hval hA hlt
  rw [Try.params13] at hA hval
  obtain ⟨v0, vs0, d0, ds0, p0, q0, hargs, rfl, rfl, h0, r0⟩ := trodAll_cons hA
  obtain ⟨rfl, rfl, rfl⟩ := trodAll_nil r0
  obtain rfl : args = #[v0] := by cases args; simp_all
  obtain ⟨s0_0, A0_1, n0_1, c0_1, l0_1, A0_2, n0_2, c0_2, l0_2, A0_3, n0_3, c0_3, l0_3, p0_4, rfl, H0_0, m0_1, R0_1, H0_1, m0_2, R0_2, H0_2, m0_3, R0_3, H0_3, wf0_4⟩ := open_tab (hval 0 105 v0 rfl rfl) h0 (fun x hx => hlt x (by simp [hx]))
  exact ⟨⟨rfl, rfl, rfl⟩, walk s0_0 l0_1 A0_1 n0_1 c0_1 l0_2 A0_2 n0_2 c0_2 l0_3 A0_3 n0_3 c0_3 p0_4 W H0_0 m0_1 R0_1 H0_1 m0_2 R0_2 H0_2 m0_3 R0_3 H0_3 wf0_4⟩

set_option maxRecDepth 100000 in
set_option maxHeartbeats 8000000 in
theorem closed : joinedFacts Try.pinned.checked.prog 13 Try.f13 Rows.fnExactTabDocumentSpec Rows.fnExactTabDocumentRow = true :=
  (and_i (and_i (and_i (and_i (and_i (and_i (and_i (and_i (and_i (and_i (and_i (and_i (and_i (and_i (and_i (and_i (and_i (and_i (and_i (and_i (and_i (and_i (and_i (and_i (and_i (and_i (and_i (and_i (and_i (and_i (and_i (by as_aux_lemma => kernel_rfl) seatLaid) sf_maps) (by as_aux_lemma => kernel_rfl)) (by as_aux_lemma => kernel_rfl)) (by as_aux_lemma => kernel_rfl)) (by as_aux_lemma => kernel_rfl)) (by as_aux_lemma => kernel_rfl)) (by as_aux_lemma => kernel_rfl)) (by as_aux_lemma => kernel_rfl)) (by as_aux_lemma => kernel_rfl)) (by as_aux_lemma => kernel_rfl)) (by as_aux_lemma => kernel_rfl)) (by as_aux_lemma => kernel_rfl)) (by as_aux_lemma => kernel_rfl)) (by as_aux_lemma => kernel_rfl)) (by as_aux_lemma => kernel_rfl)) (by as_aux_lemma => kernel_rfl)) (by as_aux_lemma => kernel_rfl)) (by as_aux_lemma => kernel_rfl)) (by as_aux_lemma => kernel_rfl)) (by as_aux_lemma => kernel_rfl)) sf_plain) (by as_aux_lemma => kernel_rfl)) sf_heard) sf_enter) sf_lifts) sf_make) (by as_aux_lemma => kernel_rfl)) (by as_aux_lemma => kernel_rfl)) (by as_aux_lemma => kernel_rfl)) (by as_aux_lemma => kernel_rfl))

theorem over : Rows.fnExactTabDocumentRow.holds Try.pinned (OpenSpec.ofChange Rows.fnExactTabDocumentSpec) :=
  OpenClaim.holds_of_wide 13 Try.f13 rfl rfl rfl rfl rfl rfl rfl ⟨rfl, rfl, rfl, rfl, rfl⟩ rfl rfl rfl rfl rfl (by kernel_rfl) Try.func13 closed
    (of_decide_eq_true (by kernel_rfl)) (by unfold Func.isWrapper; first | (rw [if_pos (by decide +kernel)]; kernel_rfl) | (rw [if_neg (by decide +kernel)]; exact ⟨rfl, rfl⟩))
    (fun os started H enc _ => lifted os started H enc)

theorem proved : Rows.FnExactTabDocumentSaid := over
#print axioms proved
end Go.Proofs.Ytejcioenoofjlaa.fnExactTabDocument
