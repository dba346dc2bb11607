/- The law FnExactMayAct answers true for every argument, and leaves each argument as it was. No condition. -/
import Derived.Deep.RegionHeld3
import Derived.Deep.DeepCutAuto
import Derived.Test.YtodlahmnjadgcaaGreatFacts
import Derived.Test.YtodlahmnjadgcaaGreatDBrowser
import Derived.Test.YtodlahmnjadgcaaGreatMayS
namespace Go.Proofs.YtodlahmnjadgcaaGreat.fnExactMayAct
open Go Go.ChangeShapes Go.WideShapes Go.ChangeAt Go.RowKit Go.Lib
open Go.ChangeMaps (open_string)
set_option linter.unusedVariables false
set_option linter.unusedSimpArgs false
set_option maxRecDepth 100000

set_option maxRecDepth 100000 in
set_option maxHeartbeats 20000000 in
theorem walk (x0 : DBrowser) (a1 : Int) (a2 : Int) (a3 : Int) (w : World) (R0 : x0.rd w 0 w.heap.size) (H0 : Hid x0.dat.ok) (wf1 : (Lit.int .i64 a1).wf = true) (wf2 : (Lit.int .i64 a2).wf = true) (wf3 : (Lit.int .i64 a3).wf = true) :
    Calls Tryz.prog 8 #[.agg #[.int .i64 x0.p0, .slice x0.A1 x0.n1 x0.c1, .slice x0.A2 x0.n2 x0.c2, .slice x0.A3 x0.n3 x0.c3, .slice x0.A4 x0.n4 x0.c4, .slice x0.A5 x0.n5 x0.c5, .slice x0.A6 x0.n6 x0.c6, .int .i64 x0.p7], .int .i64 a1, .int .i64 a2, .int .i64 a3] w fun e w' => e = .returned (.bool true) ∧ Below w.heap.size w w' := by
  have Wf1 := Lib.hid wf1
  clear wf1
  have Wf2 := Lib.hid wf2
  clear wf2
  have Wf3 := Lib.hid wf3
  clear wf3
  by_cases hz0 : x0.dat.sz ≤ 1048576
  · skip
    have G : Below w.heap.size w (w.alloc (.cells #[.int .i64 x0.p0, .slice x0.A1 x0.n1 x0.c1, .slice x0.A2 x0.n2 x0.c2, .slice x0.A3 x0.n3 x0.c3, .slice x0.A4 x0.n4 x0.c4, .slice x0.A5 x0.n5 x0.c5, .slice x0.A6 x0.n6 x0.c6, .int .i64 x0.p7] 29)) := (Below.refl _ _).alloc (by simp) _
    have S0 := Lib.hid (show (w.alloc (.cells #[.int .i64 x0.p0, .slice x0.A1 x0.n1 x0.c1, .slice x0.A2 x0.n2 x0.c2, .slice x0.A3 x0.n3 x0.c3, .slice x0.A4 x0.n4 x0.c4, .slice x0.A5 x0.n5 x0.c5, .slice x0.A6 x0.n6 x0.c6, .int .i64 x0.p7] 29)).heap.size = w.heap.size + 1 by simp)
    replace R0 := R0.alloc (.cells #[.int .i64 x0.p0, .slice x0.A1 x0.n1 x0.c1, .slice x0.A2 x0.n2 x0.c2, .slice x0.A3 x0.n3 x0.c3, .slice x0.A4 x0.n4 x0.c4, .slice x0.A5 x0.n5 x0.c5, .slice x0.A6 x0.n6 x0.c6, .int .i64 x0.p7] 29)
    have KB0 : BoxAt (w.alloc (.cells #[.int .i64 x0.p0, .slice x0.A1 x0.n1 x0.c1, .slice x0.A2 x0.n2 x0.c2, .slice x0.A3 x0.n3 x0.c3, .slice x0.A4 x0.n4 x0.c4, .slice x0.A5 x0.n5 x0.c5, .slice x0.A6 x0.n6 x0.c6, .int .i64 x0.p7] 29)) (w.heap.size) 29 #[.int .i64 x0.p0, .slice x0.A1 x0.n1 x0.c1, .slice x0.A2 x0.n2 x0.c2, .slice x0.A3 x0.n3 x0.c3, .slice x0.A4 x0.n4 x0.c4, .slice x0.A5 x0.n5 x0.c5, .slice x0.A6 x0.n6 x0.c6, .int .i64 x0.p7] := box_new _ _ _
    go_enter Tryz.func8, Tryz.ntmps8
    have xKB0_0 : (w.alloc (.cells #[.int .i64 x0.p0, .slice x0.A1 x0.n1 x0.c1, .slice x0.A2 x0.n2 x0.c2, .slice x0.A3 x0.n3 x0.c3, .slice x0.A4 x0.n4 x0.c4, .slice x0.A5 x0.n5 x0.c5, .slice x0.A6 x0.n6 x0.c6, .int .i64 x0.p7] 29)).cell? ⟨w.heap.size, 0, none⟩ = some (.int .i64 x0.p0) := KB0.at_ rfl
    have xKB0_1 : (w.alloc (.cells #[.int .i64 x0.p0, .slice x0.A1 x0.n1 x0.c1, .slice x0.A2 x0.n2 x0.c2, .slice x0.A3 x0.n3 x0.c3, .slice x0.A4 x0.n4 x0.c4, .slice x0.A5 x0.n5 x0.c5, .slice x0.A6 x0.n6 x0.c6, .int .i64 x0.p7] 29)).cell? ⟨w.heap.size, 1, none⟩ = some (.slice x0.A1 x0.n1 x0.c1) := KB0.at_ rfl
    have xKB0_2 : (w.alloc (.cells #[.int .i64 x0.p0, .slice x0.A1 x0.n1 x0.c1, .slice x0.A2 x0.n2 x0.c2, .slice x0.A3 x0.n3 x0.c3, .slice x0.A4 x0.n4 x0.c4, .slice x0.A5 x0.n5 x0.c5, .slice x0.A6 x0.n6 x0.c6, .int .i64 x0.p7] 29)).cell? ⟨w.heap.size, 2, none⟩ = some (.slice x0.A2 x0.n2 x0.c2) := KB0.at_ rfl
    have xKB0_3 : (w.alloc (.cells #[.int .i64 x0.p0, .slice x0.A1 x0.n1 x0.c1, .slice x0.A2 x0.n2 x0.c2, .slice x0.A3 x0.n3 x0.c3, .slice x0.A4 x0.n4 x0.c4, .slice x0.A5 x0.n5 x0.c5, .slice x0.A6 x0.n6 x0.c6, .int .i64 x0.p7] 29)).cell? ⟨w.heap.size, 3, none⟩ = some (.slice x0.A3 x0.n3 x0.c3) := KB0.at_ rfl
    have xKB0_4 : (w.alloc (.cells #[.int .i64 x0.p0, .slice x0.A1 x0.n1 x0.c1, .slice x0.A2 x0.n2 x0.c2, .slice x0.A3 x0.n3 x0.c3, .slice x0.A4 x0.n4 x0.c4, .slice x0.A5 x0.n5 x0.c5, .slice x0.A6 x0.n6 x0.c6, .int .i64 x0.p7] 29)).cell? ⟨w.heap.size, 4, none⟩ = some (.slice x0.A4 x0.n4 x0.c4) := KB0.at_ rfl
    have xKB0_5 : (w.alloc (.cells #[.int .i64 x0.p0, .slice x0.A1 x0.n1 x0.c1, .slice x0.A2 x0.n2 x0.c2, .slice x0.A3 x0.n3 x0.c3, .slice x0.A4 x0.n4 x0.c4, .slice x0.A5 x0.n5 x0.c5, .slice x0.A6 x0.n6 x0.c6, .int .i64 x0.p7] 29)).cell? ⟨w.heap.size, 5, none⟩ = some (.slice x0.A5 x0.n5 x0.c5) := KB0.at_ rfl
    have xKB0_6 : (w.alloc (.cells #[.int .i64 x0.p0, .slice x0.A1 x0.n1 x0.c1, .slice x0.A2 x0.n2 x0.c2, .slice x0.A3 x0.n3 x0.c3, .slice x0.A4 x0.n4 x0.c4, .slice x0.A5 x0.n5 x0.c5, .slice x0.A6 x0.n6 x0.c6, .int .i64 x0.p7] 29)).cell? ⟨w.heap.size, 6, none⟩ = some (.slice x0.A6 x0.n6 x0.c6) := KB0.at_ rfl
    have xKB0_7 : (w.alloc (.cells #[.int .i64 x0.p0, .slice x0.A1 x0.n1 x0.c1, .slice x0.A2 x0.n2 x0.c2, .slice x0.A3 x0.n3 x0.c3, .slice x0.A4 x0.n4 x0.c4, .slice x0.A5 x0.n5 x0.c5, .slice x0.A6 x0.n6 x0.c6, .int .i64 x0.p7] 29)).cell? ⟨w.heap.size, 7, none⟩ = some (.int .i64 x0.p7) := KB0.at_ rfl
    go_wp2_with fail
    refine Calls.mono (sz_browser x0 _ _ (1048576) _ R0 (by omega) (by omega)) ?_
    rintro e w1 ⟨rfl, B1⟩
    replace R0 := (R0).new B1
    replace KB0 := (KB0).new B1
    replace G := below_trans G B1 (Nat.le_refl _)
    have S1 := Lib.hid (show (w.alloc (.cells #[.int .i64 x0.p0, .slice x0.A1 x0.n1 x0.c1, .slice x0.A2 x0.n2 x0.c2, .slice x0.A3 x0.n3 x0.c3, .slice x0.A4 x0.n4 x0.c4, .slice x0.A5 x0.n5 x0.c5, .slice x0.A6 x0.n6 x0.c6, .int .i64 x0.p7] 29)).heap.size + 0 ≤ w1.heap.size by have := B1.size; first | (simpa using this) | ((try simp at this); omega))
    clear B1
    clear xKB0_0 xKB0_1 xKB0_2 xKB0_3 xKB0_4 xKB0_5 xKB0_6 xKB0_7
    have xKB0_0 : w1.cell? ⟨w.heap.size, 0, none⟩ = some (.int .i64 x0.p0) := KB0.at_ rfl
    have xKB0_1 : w1.cell? ⟨w.heap.size, 1, none⟩ = some (.slice x0.A1 x0.n1 x0.c1) := KB0.at_ rfl
    have xKB0_2 : w1.cell? ⟨w.heap.size, 2, none⟩ = some (.slice x0.A2 x0.n2 x0.c2) := KB0.at_ rfl
    have xKB0_3 : w1.cell? ⟨w.heap.size, 3, none⟩ = some (.slice x0.A3 x0.n3 x0.c3) := KB0.at_ rfl
    have xKB0_4 : w1.cell? ⟨w.heap.size, 4, none⟩ = some (.slice x0.A4 x0.n4 x0.c4) := KB0.at_ rfl
    have xKB0_5 : w1.cell? ⟨w.heap.size, 5, none⟩ = some (.slice x0.A5 x0.n5 x0.c5) := KB0.at_ rfl
    have xKB0_6 : w1.cell? ⟨w.heap.size, 6, none⟩ = some (.slice x0.A6 x0.n6 x0.c6) := KB0.at_ rfl
    have xKB0_7 : w1.cell? ⟨w.heap.size, 7, none⟩ = some (.int .i64 x0.p7) := KB0.at_ rfl
    go_wp2_with fail
    refine Calls.mono (to_browser x0 _ _ _ (by omega) R0) ?_
    rintro e w2 ⟨T2, rfl, ET2, FT2, B2⟩
    replace ET2 := Lib.hid ET2
    replace R0 := (R0).new B2
    replace KB0 := (KB0).new B2
    replace G := below_trans G B2 (Nat.le_refl _)
    have S2 := Lib.hid (show w1.heap.size + 0 ≤ w2.heap.size by have := B2.size; first | (simpa using this) | ((try simp at this); omega))
    clear B2
    clear xKB0_0 xKB0_1 xKB0_2 xKB0_3 xKB0_4 xKB0_5 xKB0_6 xKB0_7
    go_wp2_with fail
    refine Calls.mono (spec_MayAct T2 x0.dat _ _ a1 a2 a3 _ ET2.out (by omega) H0.out FT2.rd FT2.caps) ?_
    rintro e w3 ⟨rfl, B3⟩
    replace R0 := (R0).new B3
    replace KB0 := (KB0).new B3
    replace FT2 := (FT2).new B3
    replace G := below_trans G B3 (Nat.le_refl _)
    have S3 := Lib.hid (show w2.heap.size + 0 ≤ w3.heap.size by have := B3.size; first | (simpa using this) | ((try simp at this); omega))
    clear B3
    clear FT2
    have xKB0_0 : w3.cell? ⟨w.heap.size, 0, none⟩ = some (.int .i64 x0.p0) := KB0.at_ rfl
    have xKB0_1 : w3.cell? ⟨w.heap.size, 1, none⟩ = some (.slice x0.A1 x0.n1 x0.c1) := KB0.at_ rfl
    have xKB0_2 : w3.cell? ⟨w.heap.size, 2, none⟩ = some (.slice x0.A2 x0.n2 x0.c2) := KB0.at_ rfl
    have xKB0_3 : w3.cell? ⟨w.heap.size, 3, none⟩ = some (.slice x0.A3 x0.n3 x0.c3) := KB0.at_ rfl
    have xKB0_4 : w3.cell? ⟨w.heap.size, 4, none⟩ = some (.slice x0.A4 x0.n4 x0.c4) := KB0.at_ rfl
    have xKB0_5 : w3.cell? ⟨w.heap.size, 5, none⟩ = some (.slice x0.A5 x0.n5 x0.c5) := KB0.at_ rfl
    have xKB0_6 : w3.cell? ⟨w.heap.size, 6, none⟩ = some (.slice x0.A6 x0.n6 x0.c6) := KB0.at_ rfl
    have xKB0_7 : w3.cell? ⟨w.heap.size, 7, none⟩ = some (.int .i64 x0.p7) := KB0.at_ rfl
    go_wp2_with fail
    refine Calls.mono (to_browser x0 _ _ _ (by omega) R0) ?_
    rintro e w4 ⟨T4, rfl, ET4, FT4, B4⟩
    replace ET4 := Lib.hid ET4
    replace R0 := (R0).new B4
    replace KB0 := (KB0).new B4
    replace G := below_trans G B4 (Nat.le_refl _)
    have S4 := Lib.hid (show w3.heap.size + 0 ≤ w4.heap.size by have := B4.size; first | (simpa using this) | ((try simp at this); omega))
    clear B4
    clear xKB0_0 xKB0_1 xKB0_2 xKB0_3 xKB0_4 xKB0_5 xKB0_6 xKB0_7
    have SA6 := Lib.hid (show (w4.alloc (.cells #[.int .i64 T4.p0, .slice T4.A1 T4.n1 T4.c1, .slice T4.A2 T4.n2 T4.c2, .slice T4.A3 T4.n3 T4.c3, .slice T4.A4 T4.n4 T4.c4, .slice T4.A5 T4.n5 T4.c5, .slice T4.A6 T4.n6 T4.c6, .int .i64 T4.p7] 42)).heap.size = w4.heap.size + 1 by simp)
    replace R0 := R0.alloc (.cells #[.int .i64 T4.p0, .slice T4.A1 T4.n1 T4.c1, .slice T4.A2 T4.n2 T4.c2, .slice T4.A3 T4.n3 T4.c3, .slice T4.A4 T4.n4 T4.c4, .slice T4.A5 T4.n5 T4.c5, .slice T4.A6 T4.n6 T4.c6, .int .i64 T4.p7] 42)
    replace KB0 := KB0.alloc_ (.cells #[.int .i64 T4.p0, .slice T4.A1 T4.n1 T4.c1, .slice T4.A2 T4.n2 T4.c2, .slice T4.A3 T4.n3 T4.c3, .slice T4.A4 T4.n4 T4.c4, .slice T4.A5 T4.n5 T4.c5, .slice T4.A6 T4.n6 T4.c6, .int .i64 T4.p7] 42)
    replace FT4 := FT4.alloc (.cells #[.int .i64 T4.p0, .slice T4.A1 T4.n1 T4.c1, .slice T4.A2 T4.n2 T4.c2, .slice T4.A3 T4.n3 T4.c3, .slice T4.A4 T4.n4 T4.c4, .slice T4.A5 T4.n5 T4.c5, .slice T4.A6 T4.n6 T4.c6, .int .i64 T4.p7] 42)
    have KX5 : BoxAt (w4.alloc (.cells #[.int .i64 T4.p0, .slice T4.A1 T4.n1 T4.c1, .slice T4.A2 T4.n2 T4.c2, .slice T4.A3 T4.n3 T4.c3, .slice T4.A4 T4.n4 T4.c4, .slice T4.A5 T4.n5 T4.c5, .slice T4.A6 T4.n6 T4.c6, .int .i64 T4.p7] 42)) (w4.heap.size) 42 #[.int .i64 T4.p0, .slice T4.A1 T4.n1 T4.c1, .slice T4.A2 T4.n2 T4.c2, .slice T4.A3 T4.n3 T4.c3, .slice T4.A4 T4.n4 T4.c4, .slice T4.A5 T4.n5 T4.c5, .slice T4.A6 T4.n6 T4.c6, .int .i64 T4.p7] := box_new _ _ _
    replace G := G.alloc (by have := S0.out; have := S1.out; have := S2.out; have := S3.out; have := S4.out; have := SA6.out; first | omega | (simp; omega)) (.cells #[.int .i64 T4.p0, .slice T4.A1 T4.n1 T4.c1, .slice T4.A2 T4.n2 T4.c2, .slice T4.A3 T4.n3 T4.c3, .slice T4.A4 T4.n4 T4.c4, .slice T4.A5 T4.n5 T4.c5, .slice T4.A6 T4.n6 T4.c6, .int .i64 T4.p7] 42)
    have xKX5_0 : (w4.alloc (.cells #[.int .i64 T4.p0, .slice T4.A1 T4.n1 T4.c1, .slice T4.A2 T4.n2 T4.c2, .slice T4.A3 T4.n3 T4.c3, .slice T4.A4 T4.n4 T4.c4, .slice T4.A5 T4.n5 T4.c5, .slice T4.A6 T4.n6 T4.c6, .int .i64 T4.p7] 42)).cell? ⟨w4.heap.size, 0, none⟩ = some (.int .i64 T4.p0) := KX5.at_ rfl
    have xKX5_1 : (w4.alloc (.cells #[.int .i64 T4.p0, .slice T4.A1 T4.n1 T4.c1, .slice T4.A2 T4.n2 T4.c2, .slice T4.A3 T4.n3 T4.c3, .slice T4.A4 T4.n4 T4.c4, .slice T4.A5 T4.n5 T4.c5, .slice T4.A6 T4.n6 T4.c6, .int .i64 T4.p7] 42)).cell? ⟨w4.heap.size, 1, none⟩ = some (.slice T4.A1 T4.n1 T4.c1) := KX5.at_ rfl
    have xKX5_2 : (w4.alloc (.cells #[.int .i64 T4.p0, .slice T4.A1 T4.n1 T4.c1, .slice T4.A2 T4.n2 T4.c2, .slice T4.A3 T4.n3 T4.c3, .slice T4.A4 T4.n4 T4.c4, .slice T4.A5 T4.n5 T4.c5, .slice T4.A6 T4.n6 T4.c6, .int .i64 T4.p7] 42)).cell? ⟨w4.heap.size, 2, none⟩ = some (.slice T4.A2 T4.n2 T4.c2) := KX5.at_ rfl
    have xKX5_3 : (w4.alloc (.cells #[.int .i64 T4.p0, .slice T4.A1 T4.n1 T4.c1, .slice T4.A2 T4.n2 T4.c2, .slice T4.A3 T4.n3 T4.c3, .slice T4.A4 T4.n4 T4.c4, .slice T4.A5 T4.n5 T4.c5, .slice T4.A6 T4.n6 T4.c6, .int .i64 T4.p7] 42)).cell? ⟨w4.heap.size, 3, none⟩ = some (.slice T4.A3 T4.n3 T4.c3) := KX5.at_ rfl
    have xKX5_4 : (w4.alloc (.cells #[.int .i64 T4.p0, .slice T4.A1 T4.n1 T4.c1, .slice T4.A2 T4.n2 T4.c2, .slice T4.A3 T4.n3 T4.c3, .slice T4.A4 T4.n4 T4.c4, .slice T4.A5 T4.n5 T4.c5, .slice T4.A6 T4.n6 T4.c6, .int .i64 T4.p7] 42)).cell? ⟨w4.heap.size, 4, none⟩ = some (.slice T4.A4 T4.n4 T4.c4) := KX5.at_ rfl
    have xKX5_5 : (w4.alloc (.cells #[.int .i64 T4.p0, .slice T4.A1 T4.n1 T4.c1, .slice T4.A2 T4.n2 T4.c2, .slice T4.A3 T4.n3 T4.c3, .slice T4.A4 T4.n4 T4.c4, .slice T4.A5 T4.n5 T4.c5, .slice T4.A6 T4.n6 T4.c6, .int .i64 T4.p7] 42)).cell? ⟨w4.heap.size, 5, none⟩ = some (.slice T4.A5 T4.n5 T4.c5) := KX5.at_ rfl
    have xKX5_6 : (w4.alloc (.cells #[.int .i64 T4.p0, .slice T4.A1 T4.n1 T4.c1, .slice T4.A2 T4.n2 T4.c2, .slice T4.A3 T4.n3 T4.c3, .slice T4.A4 T4.n4 T4.c4, .slice T4.A5 T4.n5 T4.c5, .slice T4.A6 T4.n6 T4.c6, .int .i64 T4.p7] 42)).cell? ⟨w4.heap.size, 6, none⟩ = some (.slice T4.A6 T4.n6 T4.c6) := KX5.at_ rfl
    have xKX5_7 : (w4.alloc (.cells #[.int .i64 T4.p0, .slice T4.A1 T4.n1 T4.c1, .slice T4.A2 T4.n2 T4.c2, .slice T4.A3 T4.n3 T4.c3, .slice T4.A4 T4.n4 T4.c4, .slice T4.A5 T4.n5 T4.c5, .slice T4.A6 T4.n6 T4.c6, .int .i64 T4.p7] 42)).cell? ⟨w4.heap.size, 7, none⟩ = some (.int .i64 T4.p7) := KX5.at_ rfl
    go_wp2_with fail
    refine Calls.mono (impl_MayActC T4 x0.dat _ _ a1 a2 a3 _ ET4.out (by omega) H0.out FT4.rd FT4.caps) ?_
    rintro e w5 ⟨rfl, B7⟩
    replace R0 := (R0).new B7
    replace KB0 := (KB0).new B7
    replace FT4 := (FT4).new B7
    replace KX5 := (KX5).new B7
    replace G := below_trans G B7 (Nat.le_refl _)
    have S5 := Lib.hid (show (w4.alloc (.cells #[.int .i64 T4.p0, .slice T4.A1 T4.n1 T4.c1, .slice T4.A2 T4.n2 T4.c2, .slice T4.A3 T4.n3 T4.c3, .slice T4.A4 T4.n4 T4.c4, .slice T4.A5 T4.n5 T4.c5, .slice T4.A6 T4.n6 T4.c6, .int .i64 T4.p7] 42)).heap.size + 0 ≤ w5.heap.size by have := B7.size; first | (simpa using this) | ((try simp at this); omega))
    clear B7
    clear xKX5_0 xKX5_1 xKX5_2 xKX5_3 xKX5_4 xKX5_5 xKX5_6 xKX5_7
    go_wp2_with fail
    replace G := G.drew
    replace R0 := R0.drw
    replace KB0 := KB0.drw
    replace FT4 := FT4.drw
    replace KX5 := KX5.drw
    go_region_held3 (fun w' => w'.cell? ⟨w4.heap.size, 0, none⟩ = some (.int .i64 T4.p0) ∧ w'.cell? ⟨w4.heap.size, 1, none⟩ = some (.slice T4.A1 T4.n1 T4.c1) ∧ w'.cell? ⟨w4.heap.size, 2, none⟩ = some (.slice T4.A2 T4.n2 T4.c2) ∧ w'.cell? ⟨w4.heap.size, 3, none⟩ = some (.slice T4.A3 T4.n3 T4.c3) ∧ w'.cell? ⟨w4.heap.size, 4, none⟩ = some (.slice T4.A4 T4.n4 T4.c4) ∧ w'.cell? ⟨w4.heap.size, 5, none⟩ = some (.slice T4.A5 T4.n5 T4.c5) ∧ w'.cell? ⟨w4.heap.size, 6, none⟩ = some (.slice T4.A6 T4.n6 T4.c6) ∧ w'.cell? ⟨w4.heap.size, 7, none⟩ = some (.int .i64 T4.p7) ∧ w'.cell? ⟨w.heap.size, 0, none⟩ = some (.int .i64 x0.p0) ∧ w'.cell? ⟨w.heap.size, 1, none⟩ = some (.slice x0.A1 x0.n1 x0.c1) ∧ w'.cell? ⟨w.heap.size, 2, none⟩ = some (.slice x0.A2 x0.n2 x0.c2) ∧ w'.cell? ⟨w.heap.size, 3, none⟩ = some (.slice x0.A3 x0.n3 x0.c3) ∧ w'.cell? ⟨w.heap.size, 4, none⟩ = some (.slice x0.A4 x0.n4 x0.c4) ∧ w'.cell? ⟨w.heap.size, 5, none⟩ = some (.slice x0.A5 x0.n5 x0.c5) ∧ w'.cell? ⟨w.heap.size, 6, none⟩ = some (.slice x0.A6 x0.n6 x0.c6) ∧ w'.cell? ⟨w.heap.size, 7, none⟩ = some (.int .i64 x0.p7))
      (exact ⟨KX5.at_ rfl, KX5.at_ rfl, KX5.at_ rfl, KX5.at_ rfl, KX5.at_ rfl, KX5.at_ rfl, KX5.at_ rfl, KX5.at_ rfl, KB0.at_ rfl, KB0.at_ rfl, KB0.at_ rfl, KB0.at_ rfl, KB0.at_ rfl, KB0.at_ rfl, KB0.at_ rfl, KB0.at_ rfl⟩)
      (first
        | (go_at_call 11; (fail_if_success (have hx := B8)); refine Calls.mono (to_browser x0 _ _ _ (by omega) R0) ?_; rintro e w6 ⟨T8, rfl, ET8, FT8, B8⟩; (replace ET8 := Lib.hid ET8); (replace R0 := DBrowser.rd_nw B8 R0); (replace KB0 := box_nw B8 KB0); (replace FT4 := DBrowser.fr_nw B8 FT4); (replace KX5 := box_nw B8 KX5); (replace G := (by first | exact below_trans G B8 (Nat.le_refl _) | exact below_trans G.drew B8 (Nat.le_refl _) | exact below_trans (below_dN G _) B8 (Nat.le_refl _))); (have S6 := Lib.hid (show w5.heap.size ≤ w6.heap.size from B8.size)))
        | (go_at_call 14; (fail_if_success (have hx := B9)); refine Calls.mono (eq_browser_same T4 T8 _ _ _ _ _ (Eq.trans ET8.out (Eq.symm ET4.out)) (by rw [ET4.out]; omega) FT4.rd FT8.rd) ?_; rintro e w7 ⟨rfl, B9⟩; (replace R0 := DBrowser.rd_nw B9 R0); (replace KB0 := box_nw B9 KB0); (replace FT4 := DBrowser.fr_nw B9 FT4); (replace KX5 := box_nw B9 KX5); (replace FT8 := DBrowser.fr_nw B9 FT8); (replace G := (by first | exact below_trans G B9 (Nat.le_refl _) | exact below_trans G.drew B9 (Nat.le_refl _) | exact below_trans (below_dN G _) B9 (Nat.le_refl _))); (have S7 := Lib.hid (show w6.heap.size ≤ w7.heap.size from B9.size))))
    clear B8
    clear B9
    clear FT8
    go_wp2_with fail
    go_ret
    exact ⟨rfl, G⟩
  · skip
    have G : Below w.heap.size w (w.alloc (.cells #[.int .i64 x0.p0, .slice x0.A1 x0.n1 x0.c1, .slice x0.A2 x0.n2 x0.c2, .slice x0.A3 x0.n3 x0.c3, .slice x0.A4 x0.n4 x0.c4, .slice x0.A5 x0.n5 x0.c5, .slice x0.A6 x0.n6 x0.c6, .int .i64 x0.p7] 29)) := (Below.refl _ _).alloc (by simp) _
    have S0 := Lib.hid (show (w.alloc (.cells #[.int .i64 x0.p0, .slice x0.A1 x0.n1 x0.c1, .slice x0.A2 x0.n2 x0.c2, .slice x0.A3 x0.n3 x0.c3, .slice x0.A4 x0.n4 x0.c4, .slice x0.A5 x0.n5 x0.c5, .slice x0.A6 x0.n6 x0.c6, .int .i64 x0.p7] 29)).heap.size = w.heap.size + 1 by simp)
    replace R0 := R0.alloc (.cells #[.int .i64 x0.p0, .slice x0.A1 x0.n1 x0.c1, .slice x0.A2 x0.n2 x0.c2, .slice x0.A3 x0.n3 x0.c3, .slice x0.A4 x0.n4 x0.c4, .slice x0.A5 x0.n5 x0.c5, .slice x0.A6 x0.n6 x0.c6, .int .i64 x0.p7] 29)
    have KB0 : BoxAt (w.alloc (.cells #[.int .i64 x0.p0, .slice x0.A1 x0.n1 x0.c1, .slice x0.A2 x0.n2 x0.c2, .slice x0.A3 x0.n3 x0.c3, .slice x0.A4 x0.n4 x0.c4, .slice x0.A5 x0.n5 x0.c5, .slice x0.A6 x0.n6 x0.c6, .int .i64 x0.p7] 29)) (w.heap.size) 29 #[.int .i64 x0.p0, .slice x0.A1 x0.n1 x0.c1, .slice x0.A2 x0.n2 x0.c2, .slice x0.A3 x0.n3 x0.c3, .slice x0.A4 x0.n4 x0.c4, .slice x0.A5 x0.n5 x0.c5, .slice x0.A6 x0.n6 x0.c6, .int .i64 x0.p7] := box_new _ _ _
    go_enter Tryz.func8, Tryz.ntmps8
    have xKB0_0 : (w.alloc (.cells #[.int .i64 x0.p0, .slice x0.A1 x0.n1 x0.c1, .slice x0.A2 x0.n2 x0.c2, .slice x0.A3 x0.n3 x0.c3, .slice x0.A4 x0.n4 x0.c4, .slice x0.A5 x0.n5 x0.c5, .slice x0.A6 x0.n6 x0.c6, .int .i64 x0.p7] 29)).cell? ⟨w.heap.size, 0, none⟩ = some (.int .i64 x0.p0) := KB0.at_ rfl
    have xKB0_1 : (w.alloc (.cells #[.int .i64 x0.p0, .slice x0.A1 x0.n1 x0.c1, .slice x0.A2 x0.n2 x0.c2, .slice x0.A3 x0.n3 x0.c3, .slice x0.A4 x0.n4 x0.c4, .slice x0.A5 x0.n5 x0.c5, .slice x0.A6 x0.n6 x0.c6, .int .i64 x0.p7] 29)).cell? ⟨w.heap.size, 1, none⟩ = some (.slice x0.A1 x0.n1 x0.c1) := KB0.at_ rfl
    have xKB0_2 : (w.alloc (.cells #[.int .i64 x0.p0, .slice x0.A1 x0.n1 x0.c1, .slice x0.A2 x0.n2 x0.c2, .slice x0.A3 x0.n3 x0.c3, .slice x0.A4 x0.n4 x0.c4, .slice x0.A5 x0.n5 x0.c5, .slice x0.A6 x0.n6 x0.c6, .int .i64 x0.p7] 29)).cell? ⟨w.heap.size, 2, none⟩ = some (.slice x0.A2 x0.n2 x0.c2) := KB0.at_ rfl
    have xKB0_3 : (w.alloc (.cells #[.int .i64 x0.p0, .slice x0.A1 x0.n1 x0.c1, .slice x0.A2 x0.n2 x0.c2, .slice x0.A3 x0.n3 x0.c3, .slice x0.A4 x0.n4 x0.c4, .slice x0.A5 x0.n5 x0.c5, .slice x0.A6 x0.n6 x0.c6, .int .i64 x0.p7] 29)).cell? ⟨w.heap.size, 3, none⟩ = some (.slice x0.A3 x0.n3 x0.c3) := KB0.at_ rfl
    have xKB0_4 : (w.alloc (.cells #[.int .i64 x0.p0, .slice x0.A1 x0.n1 x0.c1, .slice x0.A2 x0.n2 x0.c2, .slice x0.A3 x0.n3 x0.c3, .slice x0.A4 x0.n4 x0.c4, .slice x0.A5 x0.n5 x0.c5, .slice x0.A6 x0.n6 x0.c6, .int .i64 x0.p7] 29)).cell? ⟨w.heap.size, 4, none⟩ = some (.slice x0.A4 x0.n4 x0.c4) := KB0.at_ rfl
    have xKB0_5 : (w.alloc (.cells #[.int .i64 x0.p0, .slice x0.A1 x0.n1 x0.c1, .slice x0.A2 x0.n2 x0.c2, .slice x0.A3 x0.n3 x0.c3, .slice x0.A4 x0.n4 x0.c4, .slice x0.A5 x0.n5 x0.c5, .slice x0.A6 x0.n6 x0.c6, .int .i64 x0.p7] 29)).cell? ⟨w.heap.size, 5, none⟩ = some (.slice x0.A5 x0.n5 x0.c5) := KB0.at_ rfl
    have xKB0_6 : (w.alloc (.cells #[.int .i64 x0.p0, .slice x0.A1 x0.n1 x0.c1, .slice x0.A2 x0.n2 x0.c2, .slice x0.A3 x0.n3 x0.c3, .slice x0.A4 x0.n4 x0.c4, .slice x0.A5 x0.n5 x0.c5, .slice x0.A6 x0.n6 x0.c6, .int .i64 x0.p7] 29)).cell? ⟨w.heap.size, 6, none⟩ = some (.slice x0.A6 x0.n6 x0.c6) := KB0.at_ rfl
    have xKB0_7 : (w.alloc (.cells #[.int .i64 x0.p0, .slice x0.A1 x0.n1 x0.c1, .slice x0.A2 x0.n2 x0.c2, .slice x0.A3 x0.n3 x0.c3, .slice x0.A4 x0.n4 x0.c4, .slice x0.A5 x0.n5 x0.c5, .slice x0.A6 x0.n6 x0.c6, .int .i64 x0.p7] 29)).cell? ⟨w.heap.size, 7, none⟩ = some (.int .i64 x0.p7) := KB0.at_ rfl
    go_wp2_with fail
    refine Calls.mono (szno_browser x0 _ _ (1048576) _ R0 (by omega) (by omega) (by omega)) ?_
    rintro e w1 ⟨rfl, B10⟩
    clear xKB0_0 xKB0_1 xKB0_2 xKB0_3 xKB0_4 xKB0_5 xKB0_6 xKB0_7
    go_wp2_with fail
    go_ret
    exact ⟨rfl, below_trans G B10 (Nat.le_refl _)⟩

set_option maxRecDepth 100000 in
theorem lifted (os : Os) (started : os.Started) (H : Type) (enc : TypeId × Value → H) :
    ReturnsInHanded {} Tryz.checked os 8 .any (Rows.fnExactMayActSpec.pre6 enc Tryz.prog Tryz.f8 Rows.fnExactMayActRow.domain false) (Rows.fnExactMayActSpec.post enc Tryz.prog Tryz.f8 false true false false) := by
  refine law_lifted Tryz.func8 (by kernel_rfl) rfl rfl (by kernel_rfl) os started
    (ChangeSpec.witness6 (enc := enc) (C := Tryz.checked) false ⟨#[], #[.agg #[.int .i64 0, .slice none 0 0, .slice none 0 0, .slice none 0 0, .slice none 0 0, .slice none 0 0, .slice none 0 0, .int .i64 0], .int .i64 0, .int .i64 0, .int .i64 0], []⟩ 8 (by kernel_rfl) (by kernel_rfl) (by kernel_rfl) (by kernel_rfl)) ?_
  intro W base args ds p hval hA hlt
  rw [Tryz.params8] at hA hval
  obtain ⟨v0, vs0, d0, ds0, p0, q0, hargs, rfl, rfl, h0, r0⟩ := trodAll_cons hA
  obtain ⟨v1, vs1, d1, ds1, p1, q1, rfl, rfl, rfl, h1, r1⟩ := trodAll_cons r0
  obtain ⟨v2, vs2, d2, ds2, p2, q2, rfl, rfl, rfl, h2, r2⟩ := trodAll_cons r1
  obtain ⟨v3, vs3, d3, ds3, p3, q3, rfl, rfl, rfl, h3, r3⟩ := trodAll_cons r2
  obtain ⟨rfl, rfl, rfl⟩ := trodAll_nil r3
  obtain rfl : args = #[v0, v1, v2, v3] := by cases args; simp_all
  obtain ⟨x0, rfl, R0, H0⟩ := open_browser (hval 0 29 v0 rfl rfl) h0 (fun x hx => hlt x (by simp [hx]))
  obtain ⟨a1, rfl, rfl, rfl, wf1⟩ := open_int Tryz.underlying3 (hval 1 3 v1 rfl rfl) h1
  obtain ⟨a2, rfl, rfl, rfl, wf2⟩ := open_int Tryz.underlying3 (hval 2 3 v2 rfl rfl) h2
  obtain ⟨a3, rfl, rfl, rfl, wf3⟩ := open_int Tryz.underlying3 (hval 3 3 v3 rfl rfl) h3
  exact ⟨⟨rfl, rfl, rfl⟩, walk x0 a1 a2 a3 W R0 H0 wf1 wf2 wf3⟩

set_option maxRecDepth 100000 in
set_option maxHeartbeats 8000000 in
theorem closed : joinedFacts Tryz.pinned.checked.prog 8 Tryz.f8 Rows.fnExactMayActSpec Rows.fnExactMayActRow = true :=
  (and_i (and_i (and_i (and_i (and_i (and_i (and_i (and_i (and_i (and_i (and_i (and_i (and_i (and_i (and_i (and_i (and_i (and_i (and_i (and_i (and_i (and_i (and_i (and_i (and_i (and_i (and_i (and_i (and_i (and_i (and_i (by as_aux_lemma => kernel_rfl) seatLaid) sf_maps) (by as_aux_lemma => kernel_rfl)) (by as_aux_lemma => kernel_rfl)) (by as_aux_lemma => kernel_rfl)) (by as_aux_lemma => kernel_rfl)) (by as_aux_lemma => kernel_rfl)) (by as_aux_lemma => kernel_rfl)) (by as_aux_lemma => kernel_rfl)) (by as_aux_lemma => kernel_rfl)) (by as_aux_lemma => kernel_rfl)) (by as_aux_lemma => kernel_rfl)) (by as_aux_lemma => kernel_rfl)) (by as_aux_lemma => kernel_rfl)) (by as_aux_lemma => kernel_rfl)) (by as_aux_lemma => kernel_rfl)) (by as_aux_lemma => kernel_rfl)) (by as_aux_lemma => kernel_rfl)) (by as_aux_lemma => kernel_rfl)) (by as_aux_lemma => kernel_rfl)) (by as_aux_lemma => kernel_rfl)) sf_plain) (by as_aux_lemma => kernel_rfl)) sf_heard) sf_enter) sf_lifts) sf_make) (by as_aux_lemma => kernel_rfl)) (by as_aux_lemma => kernel_rfl)) (by as_aux_lemma => kernel_rfl)) (by as_aux_lemma => kernel_rfl))

theorem over : Rows.fnExactMayActRow.holds Tryz.pinned (OpenSpec.ofChange Rows.fnExactMayActSpec) :=
  OpenClaim.holds_of_wide 8 Tryz.f8 rfl rfl rfl rfl rfl rfl rfl ⟨rfl, rfl, rfl, rfl, rfl⟩ rfl rfl rfl rfl rfl (by kernel_rfl) Tryz.func8 closed
    (of_decide_eq_true (by kernel_rfl)) (by unfold Func.isWrapper; first | (rw [if_pos (by decide +kernel)]; kernel_rfl) | (rw [if_neg (by decide +kernel)]; exact ⟨rfl, rfl⟩))
    (fun os started H enc _ => lifted os started H enc)

theorem proved : Rows.FnExactMayActSaid := over
#print axioms proved
end Go.Proofs.YtodlahmnjadgcaaGreat.fnExactMayAct
