/- The law FnExactIsTab answers true for every argument, and leaves each argument as it was. No condition. -/
import Derived.Deep.RegionHeld3
import Derived.Deep.DeepCutAuto
import Derived.Test.YtadochjnaocbgaaFactsK
import Derived.Test.YtadochjnaocbgaaRTab
import Derived.Test.YtadochjnaocbgaaIsTabS
namespace Go.Proofs.Ytadochjnaocbgaa.fnExactIsTab
open Go Go.ChangeShapes Go.WideShapes Go.ChangeAt Go.RowKit Go.Lib
open Go.ChangeMaps (open_string)
set_option linter.unusedVariables false
set_option linter.unusedSimpArgs false
set_option maxRecDepth 100000

set_option maxRecDepth 100000 in
set_option maxHeartbeats 20000000 in
theorem walk (s0_0 : TSite) (l0_1 : List TNode) (A0_1 : Option Addr) (n0_1 c0_1 : Nat) (l0_2 : List TEdit) (A0_2 : Option Addr) (n0_2 c0_2 : Nat) (l0_3 : List Int) (A0_3 : Option Addr) (n0_3 c0_3 : Nat) (p0_4 : Int) (w : World) (H0_0 : Hid (TSite.fit s0_0)) (hm0_1 : n0_1 ≤ maxLen) (R0_1 : Rd w 0 w.heap.size 5 A0_1 n0_1 (cNode l0_1)) (H0_1 : Hid (cNodeOk l0_1)) (hm0_2 : n0_2 ≤ maxLen) (R0_2 : Rd w 0 w.heap.size 6 A0_2 n0_2 (cEdit l0_2)) (H0_2 : Hid (cEditOk l0_2)) (hm0_3 : n0_3 ≤ maxLen) (R0_3 : Rd w 0 w.heap.size 1 A0_3 n0_3 (i64s l0_3)) (H0_3 : Hid (I64s l0_3)) (wf0_4 : (Lit.int .i64 p0_4).wf = true) :
    Calls Try.prog 6 #[.agg #[.int .i64 s0_0.f0, .int .i64 s0_0.f1, .slice A0_1 n0_1 c0_1, .slice A0_2 n0_2 c0_2, .slice A0_3 n0_3 c0_3, .int .i64 p0_4]] w fun e w' => e = .returned (.bool true) ∧ Below w.heap.size w w' := by
  have hm0_1 : n0_1 ≤ 9223372036854775807 := hm0_1
  have hm0_2 : n0_2 ≤ 9223372036854775807 := hm0_2
  have hm0_3 : n0_3 ≤ 9223372036854775807 := hm0_3
  have Wf0_4 := Lib.hid wf0_4
  clear wf0_4
  by_cases hz0 : n0_1 + n0_2 + n0_3 ≤ 1048576
  · skip
    have hqn0_1 : n0_1 ≤ 17179869184 := by omega
    have hqn0_2 : n0_2 ≤ 17179869184 := by omega
    have hqn0_3 : n0_3 ≤ 17179869184 := by omega
    have G : Below w.heap.size w (w.alloc (.cells #[.int .i64 s0_0.f0, .int .i64 s0_0.f1, .slice A0_1 n0_1 c0_1, .slice A0_2 n0_2 c0_2, .slice A0_3 n0_3 c0_3, .int .i64 p0_4] 54)) := (Below.refl _ _).alloc (by simp) _
    have S0 := Lib.hid (show (w.alloc (.cells #[.int .i64 s0_0.f0, .int .i64 s0_0.f1, .slice A0_1 n0_1 c0_1, .slice A0_2 n0_2 c0_2, .slice A0_3 n0_3 c0_3, .int .i64 p0_4] 54)).heap.size = w.heap.size + 1 by simp)
    replace R0_1 := R0_1.alloc (.cells #[.int .i64 s0_0.f0, .int .i64 s0_0.f1, .slice A0_1 n0_1 c0_1, .slice A0_2 n0_2 c0_2, .slice A0_3 n0_3 c0_3, .int .i64 p0_4] 54)
    replace R0_2 := R0_2.alloc (.cells #[.int .i64 s0_0.f0, .int .i64 s0_0.f1, .slice A0_1 n0_1 c0_1, .slice A0_2 n0_2 c0_2, .slice A0_3 n0_3 c0_3, .int .i64 p0_4] 54)
    replace R0_3 := R0_3.alloc (.cells #[.int .i64 s0_0.f0, .int .i64 s0_0.f1, .slice A0_1 n0_1 c0_1, .slice A0_2 n0_2 c0_2, .slice A0_3 n0_3 c0_3, .int .i64 p0_4] 54)
    have KB0 : BoxAt (w.alloc (.cells #[.int .i64 s0_0.f0, .int .i64 s0_0.f1, .slice A0_1 n0_1 c0_1, .slice A0_2 n0_2 c0_2, .slice A0_3 n0_3 c0_3, .int .i64 p0_4] 54)) (w.heap.size) 54 #[.int .i64 s0_0.f0, .int .i64 s0_0.f1, .slice A0_1 n0_1 c0_1, .slice A0_2 n0_2 c0_2, .slice A0_3 n0_3 c0_3, .int .i64 p0_4] := box_new _ _ _
    go_enter Try.func6, Try.ntmps6
    have xKB0_0 : (w.alloc (.cells #[.int .i64 s0_0.f0, .int .i64 s0_0.f1, .slice A0_1 n0_1 c0_1, .slice A0_2 n0_2 c0_2, .slice A0_3 n0_3 c0_3, .int .i64 p0_4] 54)).cell? ⟨w.heap.size, 0, none⟩ = some (.int .i64 s0_0.f0) := KB0.at_ rfl
    have xKB0_1 : (w.alloc (.cells #[.int .i64 s0_0.f0, .int .i64 s0_0.f1, .slice A0_1 n0_1 c0_1, .slice A0_2 n0_2 c0_2, .slice A0_3 n0_3 c0_3, .int .i64 p0_4] 54)).cell? ⟨w.heap.size, 1, none⟩ = some (.int .i64 s0_0.f1) := KB0.at_ rfl
    have xKB0_2 : (w.alloc (.cells #[.int .i64 s0_0.f0, .int .i64 s0_0.f1, .slice A0_1 n0_1 c0_1, .slice A0_2 n0_2 c0_2, .slice A0_3 n0_3 c0_3, .int .i64 p0_4] 54)).cell? ⟨w.heap.size, 2, none⟩ = some (.slice A0_1 n0_1 c0_1) := KB0.at_ rfl
    have xKB0_3 : (w.alloc (.cells #[.int .i64 s0_0.f0, .int .i64 s0_0.f1, .slice A0_1 n0_1 c0_1, .slice A0_2 n0_2 c0_2, .slice A0_3 n0_3 c0_3, .int .i64 p0_4] 54)).cell? ⟨w.heap.size, 3, none⟩ = some (.slice A0_2 n0_2 c0_2) := KB0.at_ rfl
    have xKB0_4 : (w.alloc (.cells #[.int .i64 s0_0.f0, .int .i64 s0_0.f1, .slice A0_1 n0_1 c0_1, .slice A0_2 n0_2 c0_2, .slice A0_3 n0_3 c0_3, .int .i64 p0_4] 54)).cell? ⟨w.heap.size, 4, none⟩ = some (.slice A0_3 n0_3 c0_3) := KB0.at_ rfl
    have xKB0_5 : (w.alloc (.cells #[.int .i64 s0_0.f0, .int .i64 s0_0.f1, .slice A0_1 n0_1 c0_1, .slice A0_2 n0_2 c0_2, .slice A0_3 n0_3 c0_3, .int .i64 p0_4] 54)).cell? ⟨w.heap.size, 5, none⟩ = some (.int .i64 p0_4) := KB0.at_ rfl
    go_wp2_with fail
    refine Calls.mono (sz_tab s0_0 A0_1 n0_1 c0_1 A0_2 n0_2 c0_2 A0_3 n0_3 c0_3 p0_4 (1048576) _ hm0_1 hm0_2 hm0_3 (by omega) (by omega)) ?_
    rintro e w1 ⟨rfl, B1⟩
    replace R0_1 := (R0_1).new B1
    replace R0_2 := (R0_2).new B1
    replace R0_3 := (R0_3).new B1
    replace KB0 := (KB0).new B1
    replace G := below_trans G B1 (Nat.le_refl _)
    have S1 := Lib.hid (show (w.alloc (.cells #[.int .i64 s0_0.f0, .int .i64 s0_0.f1, .slice A0_1 n0_1 c0_1, .slice A0_2 n0_2 c0_2, .slice A0_3 n0_3 c0_3, .int .i64 p0_4] 54)).heap.size + 0 ≤ w1.heap.size by have := B1.size; first | (simpa using this) | ((try simp at this); omega))
    clear B1
    clear xKB0_0 xKB0_1 xKB0_2 xKB0_3 xKB0_4 xKB0_5
    have xKB0_0 : w1.cell? ⟨w.heap.size, 0, none⟩ = some (.int .i64 s0_0.f0) := KB0.at_ rfl
    have xKB0_1 : w1.cell? ⟨w.heap.size, 1, none⟩ = some (.int .i64 s0_0.f1) := KB0.at_ rfl
    have xKB0_2 : w1.cell? ⟨w.heap.size, 2, none⟩ = some (.slice A0_1 n0_1 c0_1) := KB0.at_ rfl
    have xKB0_3 : w1.cell? ⟨w.heap.size, 3, none⟩ = some (.slice A0_2 n0_2 c0_2) := KB0.at_ rfl
    have xKB0_4 : w1.cell? ⟨w.heap.size, 4, none⟩ = some (.slice A0_3 n0_3 c0_3) := KB0.at_ rfl
    have xKB0_5 : w1.cell? ⟨w.heap.size, 5, none⟩ = some (.int .i64 p0_4) := KB0.at_ rfl
    go_wp2_with fail
    refine Calls.mono (to_tab s0_0 l0_1 A0_1 n0_1 c0_1 _ _ l0_2 A0_2 n0_2 c0_2 _ _ l0_3 A0_3 n0_3 c0_3 _ _ p0_4 _ hqn0_1 R0_1 hqn0_2 R0_2 hqn0_3 R0_3) ?_
    rintro e w2 ⟨T2_1, T2_2, T2_3, tc2_1, tlo2_1, thi2_1, tc2_2, tlo2_2, thi2_2, tc2_3, tlo2_3, thi2_3, rfl, FT2_1, FT2_2, FT2_3, MT2, B2⟩
    replace R0_1 := (R0_1).new B2
    replace R0_2 := (R0_2).new B2
    replace R0_3 := (R0_3).new B2
    replace KB0 := (KB0).new B2
    replace G := below_trans G B2 (Nat.le_refl _)
    have S2 := Lib.hid (show w1.heap.size + 0 ≤ w2.heap.size by have := B2.size; first | (simpa using this) | ((try simp at this); omega))
    clear B2
    clear xKB0_0 xKB0_1 xKB0_2 xKB0_3 xKB0_4 xKB0_5
    go_wp2_with fail
    refine Calls.mono (spec_IsTab s0_0 l0_1 T2_1 n0_1 tc2_1 _ _ l0_2 T2_2 n0_2 tc2_2 _ _ l0_3 T2_3 n0_3 tc2_3 _ _ p0_4 _ H0_0 (by omega) FT2_1.rd FT2_1.cap H0_1 (by omega) FT2_2.rd FT2_2.cap H0_2 (by omega) FT2_3.rd FT2_3.cap H0_3) ?_
    rintro e w3 ⟨rfl, B3⟩
    replace R0_1 := (R0_1).new B3
    replace R0_2 := (R0_2).new B3
    replace R0_3 := (R0_3).new B3
    replace KB0 := (KB0).new B3
    replace FT2_1 := (FT2_1).new B3
    replace FT2_2 := (FT2_2).new B3
    replace FT2_3 := (FT2_3).new B3
    replace G := below_trans G B3 (Nat.le_refl _)
    have S3 := Lib.hid (show w2.heap.size + 0 ≤ w3.heap.size by have := B3.size; first | (simpa using this) | ((try simp at this); omega))
    clear B3
    clear FT2_1
    clear FT2_2
    clear FT2_3
    have xKB0_0 : w3.cell? ⟨w.heap.size, 0, none⟩ = some (.int .i64 s0_0.f0) := KB0.at_ rfl
    have xKB0_1 : w3.cell? ⟨w.heap.size, 1, none⟩ = some (.int .i64 s0_0.f1) := KB0.at_ rfl
    have xKB0_2 : w3.cell? ⟨w.heap.size, 2, none⟩ = some (.slice A0_1 n0_1 c0_1) := KB0.at_ rfl
    have xKB0_3 : w3.cell? ⟨w.heap.size, 3, none⟩ = some (.slice A0_2 n0_2 c0_2) := KB0.at_ rfl
    have xKB0_4 : w3.cell? ⟨w.heap.size, 4, none⟩ = some (.slice A0_3 n0_3 c0_3) := KB0.at_ rfl
    have xKB0_5 : w3.cell? ⟨w.heap.size, 5, none⟩ = some (.int .i64 p0_4) := KB0.at_ rfl
    go_wp2_with fail
    refine Calls.mono (to_tab s0_0 l0_1 A0_1 n0_1 c0_1 _ _ l0_2 A0_2 n0_2 c0_2 _ _ l0_3 A0_3 n0_3 c0_3 _ _ p0_4 _ hqn0_1 R0_1 hqn0_2 R0_2 hqn0_3 R0_3) ?_
    rintro e w4 ⟨T4_1, T4_2, T4_3, tc4_1, tlo4_1, thi4_1, tc4_2, tlo4_2, thi4_2, tc4_3, tlo4_3, thi4_3, rfl, FT4_1, FT4_2, FT4_3, MT4, B4⟩
    replace R0_1 := (R0_1).new B4
    replace R0_2 := (R0_2).new B4
    replace R0_3 := (R0_3).new B4
    replace KB0 := (KB0).new B4
    replace G := below_trans G B4 (Nat.le_refl _)
    have S4 := Lib.hid (show w3.heap.size + 0 ≤ w4.heap.size by have := B4.size; first | (simpa using this) | ((try simp at this); omega))
    clear B4
    clear xKB0_0 xKB0_1 xKB0_2 xKB0_3 xKB0_4 xKB0_5
    have SA6 := Lib.hid (show (w4.alloc (.cells #[.int .i64 s0_0.f0, .int .i64 s0_0.f1, .slice T4_1 n0_1 tc4_1, .slice T4_2 n0_2 tc4_2, .slice T4_3 n0_3 tc4_3, .int .i64 p0_4] 61)).heap.size = w4.heap.size + 1 by simp)
    replace R0_1 := R0_1.alloc (.cells #[.int .i64 s0_0.f0, .int .i64 s0_0.f1, .slice T4_1 n0_1 tc4_1, .slice T4_2 n0_2 tc4_2, .slice T4_3 n0_3 tc4_3, .int .i64 p0_4] 61)
    replace R0_2 := R0_2.alloc (.cells #[.int .i64 s0_0.f0, .int .i64 s0_0.f1, .slice T4_1 n0_1 tc4_1, .slice T4_2 n0_2 tc4_2, .slice T4_3 n0_3 tc4_3, .int .i64 p0_4] 61)
    replace R0_3 := R0_3.alloc (.cells #[.int .i64 s0_0.f0, .int .i64 s0_0.f1, .slice T4_1 n0_1 tc4_1, .slice T4_2 n0_2 tc4_2, .slice T4_3 n0_3 tc4_3, .int .i64 p0_4] 61)
    replace KB0 := KB0.alloc_ (.cells #[.int .i64 s0_0.f0, .int .i64 s0_0.f1, .slice T4_1 n0_1 tc4_1, .slice T4_2 n0_2 tc4_2, .slice T4_3 n0_3 tc4_3, .int .i64 p0_4] 61)
    replace FT4_1 := FT4_1.alloc (.cells #[.int .i64 s0_0.f0, .int .i64 s0_0.f1, .slice T4_1 n0_1 tc4_1, .slice T4_2 n0_2 tc4_2, .slice T4_3 n0_3 tc4_3, .int .i64 p0_4] 61)
    replace FT4_2 := FT4_2.alloc (.cells #[.int .i64 s0_0.f0, .int .i64 s0_0.f1, .slice T4_1 n0_1 tc4_1, .slice T4_2 n0_2 tc4_2, .slice T4_3 n0_3 tc4_3, .int .i64 p0_4] 61)
    replace FT4_3 := FT4_3.alloc (.cells #[.int .i64 s0_0.f0, .int .i64 s0_0.f1, .slice T4_1 n0_1 tc4_1, .slice T4_2 n0_2 tc4_2, .slice T4_3 n0_3 tc4_3, .int .i64 p0_4] 61)
    have KX5 : BoxAt (w4.alloc (.cells #[.int .i64 s0_0.f0, .int .i64 s0_0.f1, .slice T4_1 n0_1 tc4_1, .slice T4_2 n0_2 tc4_2, .slice T4_3 n0_3 tc4_3, .int .i64 p0_4] 61)) (w4.heap.size) 61 #[.int .i64 s0_0.f0, .int .i64 s0_0.f1, .slice T4_1 n0_1 tc4_1, .slice T4_2 n0_2 tc4_2, .slice T4_3 n0_3 tc4_3, .int .i64 p0_4] := box_new _ _ _
    replace G := G.alloc (by have := S0.out; have := S1.out; have := S2.out; have := S3.out; have := S4.out; have := SA6.out; have := MT2.out; unfold SepTab at this; have := MT4.out; unfold SepTab at this; first | omega | (simp; omega)) (.cells #[.int .i64 s0_0.f0, .int .i64 s0_0.f1, .slice T4_1 n0_1 tc4_1, .slice T4_2 n0_2 tc4_2, .slice T4_3 n0_3 tc4_3, .int .i64 p0_4] 61)
    have xKX5_0 : (w4.alloc (.cells #[.int .i64 s0_0.f0, .int .i64 s0_0.f1, .slice T4_1 n0_1 tc4_1, .slice T4_2 n0_2 tc4_2, .slice T4_3 n0_3 tc4_3, .int .i64 p0_4] 61)).cell? ⟨w4.heap.size, 0, none⟩ = some (.int .i64 s0_0.f0) := KX5.at_ rfl
    have xKX5_1 : (w4.alloc (.cells #[.int .i64 s0_0.f0, .int .i64 s0_0.f1, .slice T4_1 n0_1 tc4_1, .slice T4_2 n0_2 tc4_2, .slice T4_3 n0_3 tc4_3, .int .i64 p0_4] 61)).cell? ⟨w4.heap.size, 1, none⟩ = some (.int .i64 s0_0.f1) := KX5.at_ rfl
    have xKX5_2 : (w4.alloc (.cells #[.int .i64 s0_0.f0, .int .i64 s0_0.f1, .slice T4_1 n0_1 tc4_1, .slice T4_2 n0_2 tc4_2, .slice T4_3 n0_3 tc4_3, .int .i64 p0_4] 61)).cell? ⟨w4.heap.size, 2, none⟩ = some (.slice T4_1 n0_1 tc4_1) := KX5.at_ rfl
    have xKX5_3 : (w4.alloc (.cells #[.int .i64 s0_0.f0, .int .i64 s0_0.f1, .slice T4_1 n0_1 tc4_1, .slice T4_2 n0_2 tc4_2, .slice T4_3 n0_3 tc4_3, .int .i64 p0_4] 61)).cell? ⟨w4.heap.size, 3, none⟩ = some (.slice T4_2 n0_2 tc4_2) := KX5.at_ rfl
    have xKX5_4 : (w4.alloc (.cells #[.int .i64 s0_0.f0, .int .i64 s0_0.f1, .slice T4_1 n0_1 tc4_1, .slice T4_2 n0_2 tc4_2, .slice T4_3 n0_3 tc4_3, .int .i64 p0_4] 61)).cell? ⟨w4.heap.size, 4, none⟩ = some (.slice T4_3 n0_3 tc4_3) := KX5.at_ rfl
    have xKX5_5 : (w4.alloc (.cells #[.int .i64 s0_0.f0, .int .i64 s0_0.f1, .slice T4_1 n0_1 tc4_1, .slice T4_2 n0_2 tc4_2, .slice T4_3 n0_3 tc4_3, .int .i64 p0_4] 61)).cell? ⟨w4.heap.size, 5, none⟩ = some (.int .i64 p0_4) := KX5.at_ rfl
    go_wp2_with fail
    refine Calls.mono (impl_IsTabC s0_0 l0_1 T4_1 n0_1 tc4_1 _ _ l0_2 T4_2 n0_2 tc4_2 _ _ l0_3 T4_3 n0_3 tc4_3 _ _ p0_4 _ H0_0 (by omega) FT4_1.rd FT4_1.cap H0_1 (by omega) FT4_2.rd FT4_2.cap H0_2 (by omega) FT4_3.rd FT4_3.cap H0_3) ?_
    rintro e w5 ⟨rfl, B7⟩
    replace R0_1 := (R0_1).new B7
    replace R0_2 := (R0_2).new B7
    replace R0_3 := (R0_3).new B7
    replace KB0 := (KB0).new B7
    replace FT4_1 := (FT4_1).new B7
    replace FT4_2 := (FT4_2).new B7
    replace FT4_3 := (FT4_3).new B7
    replace KX5 := (KX5).new B7
    replace G := below_trans G B7 (Nat.le_refl _)
    have S5 := Lib.hid (show (w4.alloc (.cells #[.int .i64 s0_0.f0, .int .i64 s0_0.f1, .slice T4_1 n0_1 tc4_1, .slice T4_2 n0_2 tc4_2, .slice T4_3 n0_3 tc4_3, .int .i64 p0_4] 61)).heap.size + 0 ≤ w5.heap.size by have := B7.size; first | (simpa using this) | ((try simp at this); omega))
    clear B7
    clear xKX5_0 xKX5_1 xKX5_2 xKX5_3 xKX5_4 xKX5_5
    go_wp2_with fail
    replace G := G.drew
    replace R0_1 := R0_1.drw
    replace R0_2 := R0_2.drw
    replace R0_3 := R0_3.drw
    replace KB0 := KB0.drw
    replace FT4_1 := FT4_1.drw
    replace FT4_2 := FT4_2.drw
    replace FT4_3 := FT4_3.drw
    replace KX5 := KX5.drw
    go_region_held3 (fun w' => w'.cell? ⟨w4.heap.size, 0, none⟩ = some (.int .i64 s0_0.f0) ∧ w'.cell? ⟨w4.heap.size, 1, none⟩ = some (.int .i64 s0_0.f1) ∧ w'.cell? ⟨w4.heap.size, 2, none⟩ = some (.slice T4_1 n0_1 tc4_1) ∧ w'.cell? ⟨w4.heap.size, 3, none⟩ = some (.slice T4_2 n0_2 tc4_2) ∧ w'.cell? ⟨w4.heap.size, 4, none⟩ = some (.slice T4_3 n0_3 tc4_3) ∧ w'.cell? ⟨w4.heap.size, 5, none⟩ = some (.int .i64 p0_4) ∧ w'.cell? ⟨w.heap.size, 0, none⟩ = some (.int .i64 s0_0.f0) ∧ w'.cell? ⟨w.heap.size, 1, none⟩ = some (.int .i64 s0_0.f1) ∧ w'.cell? ⟨w.heap.size, 2, none⟩ = some (.slice A0_1 n0_1 c0_1) ∧ w'.cell? ⟨w.heap.size, 3, none⟩ = some (.slice A0_2 n0_2 c0_2) ∧ w'.cell? ⟨w.heap.size, 4, none⟩ = some (.slice A0_3 n0_3 c0_3) ∧ w'.cell? ⟨w.heap.size, 5, none⟩ = some (.int .i64 p0_4))
      (exact ⟨KX5.at_ rfl, KX5.at_ rfl, KX5.at_ rfl, KX5.at_ rfl, KX5.at_ rfl, KX5.at_ rfl, KB0.at_ rfl, KB0.at_ rfl, KB0.at_ rfl, KB0.at_ rfl, KB0.at_ rfl, KB0.at_ rfl⟩)
      (first
        | (go_at_call 27; (fail_if_success (have hx := B8)); refine Calls.mono (to_tab s0_0 l0_1 A0_1 n0_1 c0_1 _ _ l0_2 A0_2 n0_2 c0_2 _ _ l0_3 A0_3 n0_3 c0_3 _ _ p0_4 _ hqn0_1 R0_1 hqn0_2 R0_2 hqn0_3 R0_3) ?_; rintro e w6 ⟨T8_1, T8_2, T8_3, tc8_1, tlo8_1, thi8_1, tc8_2, tlo8_2, thi8_2, tc8_3, tlo8_3, thi8_3, rfl, FT8_1, FT8_2, FT8_3, MT8, B8⟩; (replace R0_1 := rd_nw B8 R0_1); (replace R0_2 := rd_nw B8 R0_2); (replace R0_3 := rd_nw B8 R0_3); (replace KB0 := box_nw B8 KB0); (replace FT4_1 := fr_nw B8 FT4_1); (replace FT4_2 := fr_nw B8 FT4_2); (replace FT4_3 := fr_nw B8 FT4_3); (replace KX5 := box_nw B8 KX5); (replace G := (by first | exact below_trans G B8 (Nat.le_refl _) | exact below_trans G.drew B8 (Nat.le_refl _) | exact below_trans (below_dN G _) B8 (Nat.le_refl _))); (have S6 := Lib.hid (show w5.heap.size ≤ w6.heap.size from B8.size)))
        | (go_at_call 29; (fail_if_success (have hx := B9)); refine Calls.mono (eq_tab_same s0_0 l0_1 n0_1 T4_1 T8_1 tc4_1 tc8_1 _ _ _ _ l0_2 n0_2 T4_2 T8_2 tc4_2 tc8_2 _ _ _ _ l0_3 n0_3 T4_3 T8_3 tc4_3 tc8_3 _ _ _ _ p0_4 _ (by omega) (by omega) (by omega) FT4_1.rd FT4_2.rd FT4_3.rd FT8_1.rd FT8_2.rd FT8_3.rd) ?_; rintro e w7 ⟨rfl, B9⟩; (replace R0_1 := rd_nw B9 R0_1); (replace R0_2 := rd_nw B9 R0_2); (replace R0_3 := rd_nw B9 R0_3); (replace KB0 := box_nw B9 KB0); (replace FT4_1 := fr_nw B9 FT4_1); (replace FT4_2 := fr_nw B9 FT4_2); (replace FT4_3 := fr_nw B9 FT4_3); (replace KX5 := box_nw B9 KX5); (replace FT8_1 := fr_nw B9 FT8_1); (replace FT8_2 := fr_nw B9 FT8_2); (replace FT8_3 := fr_nw B9 FT8_3); (replace G := (by first | exact below_trans G B9 (Nat.le_refl _) | exact below_trans G.drew B9 (Nat.le_refl _) | exact below_trans (below_dN G _) B9 (Nat.le_refl _))); (have S7 := Lib.hid (show w6.heap.size ≤ w7.heap.size from B9.size))))
    clear B8
    clear B9
    clear FT8_1
    clear FT8_2
    clear FT8_3
    go_wp2_with fail
    go_ret
    exact ⟨rfl, G⟩
  · skip
    have G : Below w.heap.size w (w.alloc (.cells #[.int .i64 s0_0.f0, .int .i64 s0_0.f1, .slice A0_1 n0_1 c0_1, .slice A0_2 n0_2 c0_2, .slice A0_3 n0_3 c0_3, .int .i64 p0_4] 54)) := (Below.refl _ _).alloc (by simp) _
    have S0 := Lib.hid (show (w.alloc (.cells #[.int .i64 s0_0.f0, .int .i64 s0_0.f1, .slice A0_1 n0_1 c0_1, .slice A0_2 n0_2 c0_2, .slice A0_3 n0_3 c0_3, .int .i64 p0_4] 54)).heap.size = w.heap.size + 1 by simp)
    replace R0_1 := R0_1.alloc (.cells #[.int .i64 s0_0.f0, .int .i64 s0_0.f1, .slice A0_1 n0_1 c0_1, .slice A0_2 n0_2 c0_2, .slice A0_3 n0_3 c0_3, .int .i64 p0_4] 54)
    replace R0_2 := R0_2.alloc (.cells #[.int .i64 s0_0.f0, .int .i64 s0_0.f1, .slice A0_1 n0_1 c0_1, .slice A0_2 n0_2 c0_2, .slice A0_3 n0_3 c0_3, .int .i64 p0_4] 54)
    replace R0_3 := R0_3.alloc (.cells #[.int .i64 s0_0.f0, .int .i64 s0_0.f1, .slice A0_1 n0_1 c0_1, .slice A0_2 n0_2 c0_2, .slice A0_3 n0_3 c0_3, .int .i64 p0_4] 54)
    have KB0 : BoxAt (w.alloc (.cells #[.int .i64 s0_0.f0, .int .i64 s0_0.f1, .slice A0_1 n0_1 c0_1, .slice A0_2 n0_2 c0_2, .slice A0_3 n0_3 c0_3, .int .i64 p0_4] 54)) (w.heap.size) 54 #[.int .i64 s0_0.f0, .int .i64 s0_0.f1, .slice A0_1 n0_1 c0_1, .slice A0_2 n0_2 c0_2, .slice A0_3 n0_3 c0_3, .int .i64 p0_4] := box_new _ _ _
    go_enter Try.func6, Try.ntmps6
    have xKB0_0 : (w.alloc (.cells #[.int .i64 s0_0.f0, .int .i64 s0_0.f1, .slice A0_1 n0_1 c0_1, .slice A0_2 n0_2 c0_2, .slice A0_3 n0_3 c0_3, .int .i64 p0_4] 54)).cell? ⟨w.heap.size, 0, none⟩ = some (.int .i64 s0_0.f0) := KB0.at_ rfl
    have xKB0_1 : (w.alloc (.cells #[.int .i64 s0_0.f0, .int .i64 s0_0.f1, .slice A0_1 n0_1 c0_1, .slice A0_2 n0_2 c0_2, .slice A0_3 n0_3 c0_3, .int .i64 p0_4] 54)).cell? ⟨w.heap.size, 1, none⟩ = some (.int .i64 s0_0.f1) := KB0.at_ rfl
    have xKB0_2 : (w.alloc (.cells #[.int .i64 s0_0.f0, .int .i64 s0_0.f1, .slice A0_1 n0_1 c0_1, .slice A0_2 n0_2 c0_2, .slice A0_3 n0_3 c0_3, .int .i64 p0_4] 54)).cell? ⟨w.heap.size, 2, none⟩ = some (.slice A0_1 n0_1 c0_1) := KB0.at_ rfl
    have xKB0_3 : (w.alloc (.cells #[.int .i64 s0_0.f0, .int .i64 s0_0.f1, .slice A0_1 n0_1 c0_1, .slice A0_2 n0_2 c0_2, .slice A0_3 n0_3 c0_3, .int .i64 p0_4] 54)).cell? ⟨w.heap.size, 3, none⟩ = some (.slice A0_2 n0_2 c0_2) := KB0.at_ rfl
    have xKB0_4 : (w.alloc (.cells #[.int .i64 s0_0.f0, .int .i64 s0_0.f1, .slice A0_1 n0_1 c0_1, .slice A0_2 n0_2 c0_2, .slice A0_3 n0_3 c0_3, .int .i64 p0_4] 54)).cell? ⟨w.heap.size, 4, none⟩ = some (.slice A0_3 n0_3 c0_3) := KB0.at_ rfl
    have xKB0_5 : (w.alloc (.cells #[.int .i64 s0_0.f0, .int .i64 s0_0.f1, .slice A0_1 n0_1 c0_1, .slice A0_2 n0_2 c0_2, .slice A0_3 n0_3 c0_3, .int .i64 p0_4] 54)).cell? ⟨w.heap.size, 5, none⟩ = some (.int .i64 p0_4) := KB0.at_ rfl
    go_wp2_with fail
    refine Calls.mono (szno_tab s0_0 A0_1 n0_1 c0_1 A0_2 n0_2 c0_2 A0_3 n0_3 c0_3 p0_4 (1048576) _ hm0_1 hm0_2 hm0_3 (by omega) (by omega) (by omega)) ?_
    rintro e w1 ⟨rfl, B10⟩
    clear xKB0_0 xKB0_1 xKB0_2 xKB0_3 xKB0_4 xKB0_5
    go_wp2_with fail
    go_ret
    exact ⟨rfl, below_trans G B10 (Nat.le_refl _)⟩

set_option maxRecDepth 100000 in
theorem lifted (os : Os) (started : os.Started) (H : Type) (enc : TypeId × Value → H) :
    ReturnsInHanded {} Try.checked os 6 .any (Rows.fnExactIsTabSpec.pre6 enc Try.prog Try.f6 Rows.fnExactIsTabRow.domain false) (Rows.fnExactIsTabSpec.post enc Try.prog Try.f6 false true false false) := by
  refine law_lifted Try.func6 (by kernel_rfl) rfl rfl (by kernel_rfl) os started
    (ChangeSpec.witness6 (enc := enc) (C := Try.checked) false ⟨#[], #[.agg #[.int .i64 0, .int .i64 0, .slice none 0 0, .slice none 0 0, .slice none 0 0, .int .i64 0]], []⟩ 8 (by kernel_rfl) (by kernel_rfl) (by kernel_rfl) (by kernel_rfl)) ?_
  intro W base args ds p hval hA hlt
  rw [Try.params6] at hA hval
  obtain ⟨v0, vs0, d0, ds0, p0, q0, hargs, rfl, rfl, h0, r0⟩ := trodAll_cons hA
  obtain ⟨rfl, rfl, rfl⟩ := trodAll_nil r0
  obtain rfl : args = #[v0] := by cases args; simp_all
  obtain ⟨s0_0, A0_1, n0_1, c0_1, l0_1, A0_2, n0_2, c0_2, l0_2, A0_3, n0_3, c0_3, l0_3, p0_4, rfl, H0_0, m0_1, R0_1, H0_1, m0_2, R0_2, H0_2, m0_3, R0_3, H0_3, wf0_4⟩ := open_tab (hval 0 54 v0 rfl rfl) h0 (fun x hx => hlt x (by simp [hx]))
  exact ⟨⟨rfl, rfl, rfl⟩, walk s0_0 l0_1 A0_1 n0_1 c0_1 l0_2 A0_2 n0_2 c0_2 l0_3 A0_3 n0_3 c0_3 p0_4 W H0_0 m0_1 R0_1 H0_1 m0_2 R0_2 H0_2 m0_3 R0_3 H0_3 wf0_4⟩

set_option maxRecDepth 100000 in
set_option maxHeartbeats 8000000 in
theorem closed : joinedFacts Try.pinned.checked.prog 6 Try.f6 Rows.fnExactIsTabSpec Rows.fnExactIsTabRow = true :=
  (and_i (and_i (and_i (and_i (and_i (and_i (and_i (and_i (and_i (and_i (and_i (and_i (and_i (and_i (and_i (and_i (and_i (and_i (and_i (and_i (and_i (and_i (and_i (and_i (and_i (and_i (and_i (and_i (and_i (and_i (and_i (by as_aux_lemma => kernel_rfl) seatLaid) sf_maps) (by as_aux_lemma => kernel_rfl)) (by as_aux_lemma => kernel_rfl)) (by as_aux_lemma => kernel_rfl)) (by as_aux_lemma => kernel_rfl)) (by as_aux_lemma => kernel_rfl)) (by as_aux_lemma => kernel_rfl)) (by as_aux_lemma => kernel_rfl)) (by as_aux_lemma => kernel_rfl)) (by as_aux_lemma => kernel_rfl)) (by as_aux_lemma => kernel_rfl)) (by as_aux_lemma => kernel_rfl)) (by as_aux_lemma => kernel_rfl)) (by as_aux_lemma => kernel_rfl)) (by as_aux_lemma => kernel_rfl)) (by as_aux_lemma => kernel_rfl)) (by as_aux_lemma => kernel_rfl)) (by as_aux_lemma => kernel_rfl)) (by as_aux_lemma => kernel_rfl)) (by as_aux_lemma => kernel_rfl)) sf_plain) (by as_aux_lemma => kernel_rfl)) sf_heard) sf_enter) sf_lifts) sf_make) (by as_aux_lemma => kernel_rfl)) (by as_aux_lemma => kernel_rfl)) (by as_aux_lemma => kernel_rfl)) (by as_aux_lemma => kernel_rfl))

theorem over : Rows.fnExactIsTabRow.holds Try.pinned (OpenSpec.ofChange Rows.fnExactIsTabSpec) :=
  OpenClaim.holds_of_wide 6 Try.f6 rfl rfl rfl rfl rfl rfl rfl ⟨rfl, rfl, rfl, rfl, rfl⟩ rfl rfl rfl rfl rfl (by kernel_rfl) Try.func6 closed
    (of_decide_eq_true (by kernel_rfl)) (by unfold Func.isWrapper; first | (rw [if_pos (by decide +kernel)]; kernel_rfl) | (rw [if_neg (by decide +kernel)]; exact ⟨rfl, rfl⟩))
    (fun os started H enc _ => lifted os started H enc)

theorem proved : Rows.FnExactIsTabSaid := over
#print axioms proved
end Go.Proofs.Ytadochjnaocbgaa.fnExactIsTab
