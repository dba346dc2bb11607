/- The law FnExactReadTab answers true for every argument, and leaves each argument as it was. No condition. -/
import Derived.Deep.RegionHeld3
import Derived.Deep.DeepCutAuto
import Derived.Test.YtjgcgipglmhgeaaGreatFacts
import Derived.Test.YtjgcgipglmhgeaaGreatDBrowser
import Derived.Test.YtjgcgipglmhgeaaGreatTNode
import Derived.Test.YtjgcgipglmhgeaaGreatMgR
namespace Go.Proofs.YtjgcgipglmhgeaaGreat.fnExactReadTab
open Go Go.ChangeShapes Go.WideShapes Go.ChangeAt Go.RowKit Go.Lib
open Go.ChangeMaps (open_string)
set_option linter.unusedVariables false
set_option linter.unusedSimpArgs false
set_option maxRecDepth 100000

set_option maxRecDepth 100000 in
set_option maxHeartbeats 20000000 in
theorem walk (x0 : DBrowser) (a1 : Int) (a2 : Int) (w : World) (R0 : x0.rd w 0 w.heap.size) (H0 : Hid x0.dat.ok) (wf1 : (Lit.int .i64 a1).wf = true) (wf2 : (Lit.int .i64 a2).wf = true) :
    Calls Tryz.prog 3 #[.agg #[.int .i64 x0.p0, .slice x0.A1 x0.n1 x0.c1, .slice x0.A2 x0.n2 x0.c2, .slice x0.A3 x0.n3 x0.c3, .slice x0.A4 x0.n4 x0.c4, .slice x0.A5 x0.n5 x0.c5, .slice x0.A6 x0.n6 x0.c6, .int .i64 x0.p7], .int .i64 a1, .int .i64 a2] w fun e w' => e = .returned (.bool true) ∧ Below w.heap.size w w' := by
  have Wf1 := Lib.hid wf1
  clear wf1
  have Wf2 := Lib.hid wf2
  clear wf2
  by_cases hz0 : x0.dat.sz ≤ 1048576
  · skip
    have hl0 : (mReadT x0.dat a1 a2).length ≤ 1073741823 := by (have := mReadT_len x0 a1 a2 hz0 H0.out; omega)
    have G : Below w.heap.size w (w.alloc (.cells #[.int .i64 x0.p0, .slice x0.A1 x0.n1 x0.c1, .slice x0.A2 x0.n2 x0.c2, .slice x0.A3 x0.n3 x0.c3, .slice x0.A4 x0.n4 x0.c4, .slice x0.A5 x0.n5 x0.c5, .slice x0.A6 x0.n6 x0.c6, .int .i64 x0.p7] 29)) := (Below.refl _ _).alloc (by simp) _
    have S0 := Lib.hid (show (w.alloc (.cells #[.int .i64 x0.p0, .slice x0.A1 x0.n1 x0.c1, .slice x0.A2 x0.n2 x0.c2, .slice x0.A3 x0.n3 x0.c3, .slice x0.A4 x0.n4 x0.c4, .slice x0.A5 x0.n5 x0.c5, .slice x0.A6 x0.n6 x0.c6, .int .i64 x0.p7] 29)).heap.size = w.heap.size + 1 by simp)
    replace R0 := R0.alloc (.cells #[.int .i64 x0.p0, .slice x0.A1 x0.n1 x0.c1, .slice x0.A2 x0.n2 x0.c2, .slice x0.A3 x0.n3 x0.c3, .slice x0.A4 x0.n4 x0.c4, .slice x0.A5 x0.n5 x0.c5, .slice x0.A6 x0.n6 x0.c6, .int .i64 x0.p7] 29)
    have KB0 : BoxAt (w.alloc (.cells #[.int .i64 x0.p0, .slice x0.A1 x0.n1 x0.c1, .slice x0.A2 x0.n2 x0.c2, .slice x0.A3 x0.n3 x0.c3, .slice x0.A4 x0.n4 x0.c4, .slice x0.A5 x0.n5 x0.c5, .slice x0.A6 x0.n6 x0.c6, .int .i64 x0.p7] 29)) (w.heap.size) 29 #[.int .i64 x0.p0, .slice x0.A1 x0.n1 x0.c1, .slice x0.A2 x0.n2 x0.c2, .slice x0.A3 x0.n3 x0.c3, .slice x0.A4 x0.n4 x0.c4, .slice x0.A5 x0.n5 x0.c5, .slice x0.A6 x0.n6 x0.c6, .int .i64 x0.p7] := box_new _ _ _
    go_enter Tryz.func3, Tryz.ntmps3
    have xKB0_0 : (w.alloc (.cells #[.int .i64 x0.p0, .slice x0.A1 x0.n1 x0.c1, .slice x0.A2 x0.n2 x0.c2, .slice x0.A3 x0.n3 x0.c3, .slice x0.A4 x0.n4 x0.c4, .slice x0.A5 x0.n5 x0.c5, .slice x0.A6 x0.n6 x0.c6, .int .i64 x0.p7] 29)).cell? ⟨w.heap.size, 0, none⟩ = some (.int .i64 x0.p0) := KB0.at_ rfl
    have xKB0_1 : (w.alloc (.cells #[.int .i64 x0.p0, .slice x0.A1 x0.n1 x0.c1, .slice x0.A2 x0.n2 x0.c2, .slice x0.A3 x0.n3 x0.c3, .slice x0.A4 x0.n4 x0.c4, .slice x0.A5 x0.n5 x0.c5, .slice x0.A6 x0.n6 x0.c6, .int .i64 x0.p7] 29)).cell? ⟨w.heap.size, 1, none⟩ = some (.slice x0.A1 x0.n1 x0.c1) := KB0.at_ rfl
    have xKB0_2 : (w.alloc (.cells #[.int .i64 x0.p0, .slice x0.A1 x0.n1 x0.c1, .slice x0.A2 x0.n2 x0.c2, .slice x0.A3 x0.n3 x0.c3, .slice x0.A4 x0.n4 x0.c4, .slice x0.A5 x0.n5 x0.c5, .slice x0.A6 x0.n6 x0.c6, .int .i64 x0.p7] 29)).cell? ⟨w.heap.size, 2, none⟩ = some (.slice x0.A2 x0.n2 x0.c2) := KB0.at_ rfl
    have xKB0_3 : (w.alloc (.cells #[.int .i64 x0.p0, .slice x0.A1 x0.n1 x0.c1, .slice x0.A2 x0.n2 x0.c2, .slice x0.A3 x0.n3 x0.c3, .slice x0.A4 x0.n4 x0.c4, .slice x0.A5 x0.n5 x0.c5, .slice x0.A6 x0.n6 x0.c6, .int .i64 x0.p7] 29)).cell? ⟨w.heap.size, 3, none⟩ = some (.slice x0.A3 x0.n3 x0.c3) := KB0.at_ rfl
    have xKB0_4 : (w.alloc (.cells #[.int .i64 x0.p0, .slice x0.A1 x0.n1 x0.c1, .slice x0.A2 x0.n2 x0.c2, .slice x0.A3 x0.n3 x0.c3, .slice x0.A4 x0.n4 x0.c4, .slice x0.A5 x0.n5 x0.c5, .slice x0.A6 x0.n6 x0.c6, .int .i64 x0.p7] 29)).cell? ⟨w.heap.size, 4, none⟩ = some (.slice x0.A4 x0.n4 x0.c4) := KB0.at_ rfl
    have xKB0_5 : (w.alloc (.cells #[.int .i64 x0.p0, .slice x0.A1 x0.n1 x0.c1, .slice x0.A2 x0.n2 x0.c2, .slice x0.A3 x0.n3 x0.c3, .slice x0.A4 x0.n4 x0.c4, .slice x0.A5 x0.n5 x0.c5, .slice x0.A6 x0.n6 x0.c6, .int .i64 x0.p7] 29)).cell? ⟨w.heap.size, 5, none⟩ = some (.slice x0.A5 x0.n5 x0.c5) := KB0.at_ rfl
    have xKB0_6 : (w.alloc (.cells #[.int .i64 x0.p0, .slice x0.A1 x0.n1 x0.c1, .slice x0.A2 x0.n2 x0.c2, .slice x0.A3 x0.n3 x0.c3, .slice x0.A4 x0.n4 x0.c4, .slice x0.A5 x0.n5 x0.c5, .slice x0.A6 x0.n6 x0.c6, .int .i64 x0.p7] 29)).cell? ⟨w.heap.size, 6, none⟩ = some (.slice x0.A6 x0.n6 x0.c6) := KB0.at_ rfl
    have xKB0_7 : (w.alloc (.cells #[.int .i64 x0.p0, .slice x0.A1 x0.n1 x0.c1, .slice x0.A2 x0.n2 x0.c2, .slice x0.A3 x0.n3 x0.c3, .slice x0.A4 x0.n4 x0.c4, .slice x0.A5 x0.n5 x0.c5, .slice x0.A6 x0.n6 x0.c6, .int .i64 x0.p7] 29)).cell? ⟨w.heap.size, 7, none⟩ = some (.int .i64 x0.p7) := KB0.at_ rfl
    go_wp2_with fail
    refine Calls.mono (sz_browser x0 _ _ (1048576) _ R0 (by omega) (by omega)) ?_
    rintro e w1 ⟨rfl, B1⟩
    replace R0 := (R0).new B1
    replace KB0 := (KB0).new B1
    replace G := below_trans G B1 (Nat.le_refl _)
    have S1 := Lib.hid (show (w.alloc (.cells #[.int .i64 x0.p0, .slice x0.A1 x0.n1 x0.c1, .slice x0.A2 x0.n2 x0.c2, .slice x0.A3 x0.n3 x0.c3, .slice x0.A4 x0.n4 x0.c4, .slice x0.A5 x0.n5 x0.c5, .slice x0.A6 x0.n6 x0.c6, .int .i64 x0.p7] 29)).heap.size + 0 ≤ w1.heap.size by have := B1.size; first | (simpa using this) | ((try simp at this); omega))
    clear B1
    clear xKB0_0 xKB0_1 xKB0_2 xKB0_3 xKB0_4 xKB0_5 xKB0_6 xKB0_7
    have xKB0_0 : w1.cell? ⟨w.heap.size, 0, none⟩ = some (.int .i64 x0.p0) := KB0.at_ rfl
    have xKB0_1 : w1.cell? ⟨w.heap.size, 1, none⟩ = some (.slice x0.A1 x0.n1 x0.c1) := KB0.at_ rfl
    have xKB0_2 : w1.cell? ⟨w.heap.size, 2, none⟩ = some (.slice x0.A2 x0.n2 x0.c2) := KB0.at_ rfl
    have xKB0_3 : w1.cell? ⟨w.heap.size, 3, none⟩ = some (.slice x0.A3 x0.n3 x0.c3) := KB0.at_ rfl
    have xKB0_4 : w1.cell? ⟨w.heap.size, 4, none⟩ = some (.slice x0.A4 x0.n4 x0.c4) := KB0.at_ rfl
    have xKB0_5 : w1.cell? ⟨w.heap.size, 5, none⟩ = some (.slice x0.A5 x0.n5 x0.c5) := KB0.at_ rfl
    have xKB0_6 : w1.cell? ⟨w.heap.size, 6, none⟩ = some (.slice x0.A6 x0.n6 x0.c6) := KB0.at_ rfl
    have xKB0_7 : w1.cell? ⟨w.heap.size, 7, none⟩ = some (.int .i64 x0.p7) := KB0.at_ rfl
    go_wp2_with fail
    refine Calls.mono (to_browser x0 _ _ _ (by omega) R0) ?_
    rintro e w2 ⟨T2, rfl, ET2, FT2, B2⟩
    replace ET2 := Lib.hid ET2
    replace R0 := (R0).new B2
    replace KB0 := (KB0).new B2
    replace G := below_trans G B2 (Nat.le_refl _)
    have S2 := Lib.hid (show w1.heap.size + 0 ≤ w2.heap.size by have := B2.size; first | (simpa using this) | ((try simp at this); omega))
    clear B2
    clear xKB0_0 xKB0_1 xKB0_2 xKB0_3 xKB0_4 xKB0_5 xKB0_6 xKB0_7
    go_wp2_with fail
    refine Calls.mono (spec_ReadTab T2 x0.dat _ _ a1 a2 _ ET2.out (by omega) H0.out FT2.rd FT2.caps Wf1.out Wf2.out) ?_
    rintro e w3 ⟨P3_0, pc3_0, rfl, FP3_0, B3⟩
    replace R0 := (R0).new B3
    replace KB0 := (KB0).new B3
    replace FT2 := (FT2).new B3
    replace G := below_trans G B3 (Nat.le_refl _)
    have S3 := Lib.hid (show w2.heap.size + 0 ≤ w3.heap.size by have := B3.size; first | (simpa using this) | ((try simp at this); omega))
    clear B3
    clear FT2
    have xKB0_0 : w3.cell? ⟨w.heap.size, 0, none⟩ = some (.int .i64 x0.p0) := KB0.at_ rfl
    have xKB0_1 : w3.cell? ⟨w.heap.size, 1, none⟩ = some (.slice x0.A1 x0.n1 x0.c1) := KB0.at_ rfl
    have xKB0_2 : w3.cell? ⟨w.heap.size, 2, none⟩ = some (.slice x0.A2 x0.n2 x0.c2) := KB0.at_ rfl
    have xKB0_3 : w3.cell? ⟨w.heap.size, 3, none⟩ = some (.slice x0.A3 x0.n3 x0.c3) := KB0.at_ rfl
    have xKB0_4 : w3.cell? ⟨w.heap.size, 4, none⟩ = some (.slice x0.A4 x0.n4 x0.c4) := KB0.at_ rfl
    have xKB0_5 : w3.cell? ⟨w.heap.size, 5, none⟩ = some (.slice x0.A5 x0.n5 x0.c5) := KB0.at_ rfl
    have xKB0_6 : w3.cell? ⟨w.heap.size, 6, none⟩ = some (.slice x0.A6 x0.n6 x0.c6) := KB0.at_ rfl
    have xKB0_7 : w3.cell? ⟨w.heap.size, 7, none⟩ = some (.int .i64 x0.p7) := KB0.at_ rfl
    go_wp2_with fail
    refine Calls.mono (to_browser x0 _ _ _ (by omega) R0) ?_
    rintro e w4 ⟨T4, rfl, ET4, FT4, B4⟩
    replace ET4 := Lib.hid ET4
    replace R0 := (R0).new B4
    replace KB0 := (KB0).new B4
    replace FP3_0 := (FP3_0).new B4
    replace G := below_trans G B4 (Nat.le_refl _)
    have S4 := Lib.hid (show w3.heap.size + 0 ≤ w4.heap.size by have := B4.size; first | (simpa using this) | ((try simp at this); omega))
    clear B4
    clear xKB0_0 xKB0_1 xKB0_2 xKB0_3 xKB0_4 xKB0_5 xKB0_6 xKB0_7
    have SA6 := Lib.hid (show (w4.alloc (.cells #[.int .i64 T4.p0, .slice T4.A1 T4.n1 T4.c1, .slice T4.A2 T4.n2 T4.c2, .slice T4.A3 T4.n3 T4.c3, .slice T4.A4 T4.n4 T4.c4, .slice T4.A5 T4.n5 T4.c5, .slice T4.A6 T4.n6 T4.c6, .int .i64 T4.p7] 40)).heap.size = w4.heap.size + 1 by simp)
    replace R0 := R0.alloc (.cells #[.int .i64 T4.p0, .slice T4.A1 T4.n1 T4.c1, .slice T4.A2 T4.n2 T4.c2, .slice T4.A3 T4.n3 T4.c3, .slice T4.A4 T4.n4 T4.c4, .slice T4.A5 T4.n5 T4.c5, .slice T4.A6 T4.n6 T4.c6, .int .i64 T4.p7] 40)
    replace KB0 := KB0.alloc_ (.cells #[.int .i64 T4.p0, .slice T4.A1 T4.n1 T4.c1, .slice T4.A2 T4.n2 T4.c2, .slice T4.A3 T4.n3 T4.c3, .slice T4.A4 T4.n4 T4.c4, .slice T4.A5 T4.n5 T4.c5, .slice T4.A6 T4.n6 T4.c6, .int .i64 T4.p7] 40)
    replace FP3_0 := FP3_0.alloc (.cells #[.int .i64 T4.p0, .slice T4.A1 T4.n1 T4.c1, .slice T4.A2 T4.n2 T4.c2, .slice T4.A3 T4.n3 T4.c3, .slice T4.A4 T4.n4 T4.c4, .slice T4.A5 T4.n5 T4.c5, .slice T4.A6 T4.n6 T4.c6, .int .i64 T4.p7] 40)
    replace FT4 := FT4.alloc (.cells #[.int .i64 T4.p0, .slice T4.A1 T4.n1 T4.c1, .slice T4.A2 T4.n2 T4.c2, .slice T4.A3 T4.n3 T4.c3, .slice T4.A4 T4.n4 T4.c4, .slice T4.A5 T4.n5 T4.c5, .slice T4.A6 T4.n6 T4.c6, .int .i64 T4.p7] 40)
    have KX5 : BoxAt (w4.alloc (.cells #[.int .i64 T4.p0, .slice T4.A1 T4.n1 T4.c1, .slice T4.A2 T4.n2 T4.c2, .slice T4.A3 T4.n3 T4.c3, .slice T4.A4 T4.n4 T4.c4, .slice T4.A5 T4.n5 T4.c5, .slice T4.A6 T4.n6 T4.c6, .int .i64 T4.p7] 40)) (w4.heap.size) 40 #[.int .i64 T4.p0, .slice T4.A1 T4.n1 T4.c1, .slice T4.A2 T4.n2 T4.c2, .slice T4.A3 T4.n3 T4.c3, .slice T4.A4 T4.n4 T4.c4, .slice T4.A5 T4.n5 T4.c5, .slice T4.A6 T4.n6 T4.c6, .int .i64 T4.p7] := box_new _ _ _
    replace G := G.alloc (by have := S0.out; have := S1.out; have := S2.out; have := S3.out; have := S4.out; have := SA6.out; first | omega | (simp; omega)) (.cells #[.int .i64 T4.p0, .slice T4.A1 T4.n1 T4.c1, .slice T4.A2 T4.n2 T4.c2, .slice T4.A3 T4.n3 T4.c3, .slice T4.A4 T4.n4 T4.c4, .slice T4.A5 T4.n5 T4.c5, .slice T4.A6 T4.n6 T4.c6, .int .i64 T4.p7] 40)
    have xKX5_0 : (w4.alloc (.cells #[.int .i64 T4.p0, .slice T4.A1 T4.n1 T4.c1, .slice T4.A2 T4.n2 T4.c2, .slice T4.A3 T4.n3 T4.c3, .slice T4.A4 T4.n4 T4.c4, .slice T4.A5 T4.n5 T4.c5, .slice T4.A6 T4.n6 T4.c6, .int .i64 T4.p7] 40)).cell? ⟨w4.heap.size, 0, none⟩ = some (.int .i64 T4.p0) := KX5.at_ rfl
    have xKX5_1 : (w4.alloc (.cells #[.int .i64 T4.p0, .slice T4.A1 T4.n1 T4.c1, .slice T4.A2 T4.n2 T4.c2, .slice T4.A3 T4.n3 T4.c3, .slice T4.A4 T4.n4 T4.c4, .slice T4.A5 T4.n5 T4.c5, .slice T4.A6 T4.n6 T4.c6, .int .i64 T4.p7] 40)).cell? ⟨w4.heap.size, 1, none⟩ = some (.slice T4.A1 T4.n1 T4.c1) := KX5.at_ rfl
    have xKX5_2 : (w4.alloc (.cells #[.int .i64 T4.p0, .slice T4.A1 T4.n1 T4.c1, .slice T4.A2 T4.n2 T4.c2, .slice T4.A3 T4.n3 T4.c3, .slice T4.A4 T4.n4 T4.c4, .slice T4.A5 T4.n5 T4.c5, .slice T4.A6 T4.n6 T4.c6, .int .i64 T4.p7] 40)).cell? ⟨w4.heap.size, 2, none⟩ = some (.slice T4.A2 T4.n2 T4.c2) := KX5.at_ rfl
    have xKX5_3 : (w4.alloc (.cells #[.int .i64 T4.p0, .slice T4.A1 T4.n1 T4.c1, .slice T4.A2 T4.n2 T4.c2, .slice T4.A3 T4.n3 T4.c3, .slice T4.A4 T4.n4 T4.c4, .slice T4.A5 T4.n5 T4.c5, .slice T4.A6 T4.n6 T4.c6, .int .i64 T4.p7] 40)).cell? ⟨w4.heap.size, 3, none⟩ = some (.slice T4.A3 T4.n3 T4.c3) := KX5.at_ rfl
    have xKX5_4 : (w4.alloc (.cells #[.int .i64 T4.p0, .slice T4.A1 T4.n1 T4.c1, .slice T4.A2 T4.n2 T4.c2, .slice T4.A3 T4.n3 T4.c3, .slice T4.A4 T4.n4 T4.c4, .slice T4.A5 T4.n5 T4.c5, .slice T4.A6 T4.n6 T4.c6, .int .i64 T4.p7] 40)).cell? ⟨w4.heap.size, 4, none⟩ = some (.slice T4.A4 T4.n4 T4.c4) := KX5.at_ rfl
    have xKX5_5 : (w4.alloc (.cells #[.int .i64 T4.p0, .slice T4.A1 T4.n1 T4.c1, .slice T4.A2 T4.n2 T4.c2, .slice T4.A3 T4.n3 T4.c3, .slice T4.A4 T4.n4 T4.c4, .slice T4.A5 T4.n5 T4.c5, .slice T4.A6 T4.n6 T4.c6, .int .i64 T4.p7] 40)).cell? ⟨w4.heap.size, 5, none⟩ = some (.slice T4.A5 T4.n5 T4.c5) := KX5.at_ rfl
    have xKX5_6 : (w4.alloc (.cells #[.int .i64 T4.p0, .slice T4.A1 T4.n1 T4.c1, .slice T4.A2 T4.n2 T4.c2, .slice T4.A3 T4.n3 T4.c3, .slice T4.A4 T4.n4 T4.c4, .slice T4.A5 T4.n5 T4.c5, .slice T4.A6 T4.n6 T4.c6, .int .i64 T4.p7] 40)).cell? ⟨w4.heap.size, 6, none⟩ = some (.slice T4.A6 T4.n6 T4.c6) := KX5.at_ rfl
    have xKX5_7 : (w4.alloc (.cells #[.int .i64 T4.p0, .slice T4.A1 T4.n1 T4.c1, .slice T4.A2 T4.n2 T4.c2, .slice T4.A3 T4.n3 T4.c3, .slice T4.A4 T4.n4 T4.c4, .slice T4.A5 T4.n5 T4.c5, .slice T4.A6 T4.n6 T4.c6, .int .i64 T4.p7] 40)).cell? ⟨w4.heap.size, 7, none⟩ = some (.int .i64 T4.p7) := KX5.at_ rfl
    go_wp2_with fail
    refine Calls.mono (impl_ReadTabC T4 x0.dat _ _ a1 a2 _ ET4.out (by omega) H0.out FT4.rd FT4.caps Wf1.out Wf2.out) ?_
    rintro e w5 ⟨P7_0, pc7_0, rfl, FP7_0, B7⟩
    replace R0 := (R0).new B7
    replace KB0 := (KB0).new B7
    replace FP3_0 := (FP3_0).new B7
    replace FT4 := (FT4).new B7
    replace KX5 := (KX5).new B7
    replace G := below_trans G B7 (Nat.le_refl _)
    have S5 := Lib.hid (show (w4.alloc (.cells #[.int .i64 T4.p0, .slice T4.A1 T4.n1 T4.c1, .slice T4.A2 T4.n2 T4.c2, .slice T4.A3 T4.n3 T4.c3, .slice T4.A4 T4.n4 T4.c4, .slice T4.A5 T4.n5 T4.c5, .slice T4.A6 T4.n6 T4.c6, .int .i64 T4.p7] 40)).heap.size + 0 ≤ w5.heap.size by have := B7.size; first | (simpa using this) | ((try simp at this); omega))
    clear B7
    clear xKX5_0 xKX5_1 xKX5_2 xKX5_3 xKX5_4 xKX5_5 xKX5_6 xKX5_7
    go_wp2_with fail
    refine Calls.mono (eq_node_same (mReadT x0.dat a1 a2) P7_0 P3_0 ((mReadT x0.dat a1 a2).length) ((mReadT x0.dat a1 a2).length) pc7_0 pc3_0 _ _ _ _ _ (by omega) (by omega) FP7_0.rd FP3_0.rd) ?_
    rintro e w6 ⟨rfl, B8⟩
    replace R0 := (R0).new B8
    replace KB0 := (KB0).new B8
    replace FP3_0 := (FP3_0).new B8
    replace FT4 := (FT4).new B8
    replace KX5 := (KX5).new B8
    replace FP7_0 := (FP7_0).new B8
    replace G := below_trans G B8 (Nat.le_refl _)
    have S6 := Lib.hid (show w5.heap.size + 0 ≤ w6.heap.size by have := B8.size; first | (simpa using this) | ((try simp at this); omega))
    clear B8
    go_wp2_with fail
    replace G := G.drew
    replace R0 := R0.drw
    replace KB0 := KB0.drw
    replace FP3_0 := FP3_0.drw
    replace FT4 := FT4.drw
    replace KX5 := KX5.drw
    replace FP7_0 := FP7_0.drw
    go_region_held3 (fun w' => w'.cell? ⟨w4.heap.size, 0, none⟩ = some (.int .i64 T4.p0) ∧ w'.cell? ⟨w4.heap.size, 1, none⟩ = some (.slice T4.A1 T4.n1 T4.c1) ∧ w'.cell? ⟨w4.heap.size, 2, none⟩ = some (.slice T4.A2 T4.n2 T4.c2) ∧ w'.cell? ⟨w4.heap.size, 3, none⟩ = some (.slice T4.A3 T4.n3 T4.c3) ∧ w'.cell? ⟨w4.heap.size, 4, none⟩ = some (.slice T4.A4 T4.n4 T4.c4) ∧ w'.cell? ⟨w4.heap.size, 5, none⟩ = some (.slice T4.A5 T4.n5 T4.c5) ∧ w'.cell? ⟨w4.heap.size, 6, none⟩ = some (.slice T4.A6 T4.n6 T4.c6) ∧ w'.cell? ⟨w4.heap.size, 7, none⟩ = some (.int .i64 T4.p7) ∧ w'.cell? ⟨w.heap.size, 0, none⟩ = some (.int .i64 x0.p0) ∧ w'.cell? ⟨w.heap.size, 1, none⟩ = some (.slice x0.A1 x0.n1 x0.c1) ∧ w'.cell? ⟨w.heap.size, 2, none⟩ = some (.slice x0.A2 x0.n2 x0.c2) ∧ w'.cell? ⟨w.heap.size, 3, none⟩ = some (.slice x0.A3 x0.n3 x0.c3) ∧ w'.cell? ⟨w.heap.size, 4, none⟩ = some (.slice x0.A4 x0.n4 x0.c4) ∧ w'.cell? ⟨w.heap.size, 5, none⟩ = some (.slice x0.A5 x0.n5 x0.c5) ∧ w'.cell? ⟨w.heap.size, 6, none⟩ = some (.slice x0.A6 x0.n6 x0.c6) ∧ w'.cell? ⟨w.heap.size, 7, none⟩ = some (.int .i64 x0.p7))
      (exact ⟨KX5.at_ rfl, KX5.at_ rfl, KX5.at_ rfl, KX5.at_ rfl, KX5.at_ rfl, KX5.at_ rfl, KX5.at_ rfl, KX5.at_ rfl, KB0.at_ rfl, KB0.at_ rfl, KB0.at_ rfl, KB0.at_ rfl, KB0.at_ rfl, KB0.at_ rfl, KB0.at_ rfl, KB0.at_ rfl⟩)
      (first
        | (go_at_call 6; (fail_if_success (have hx := B9)); refine Calls.mono (to_browser x0 _ _ _ (by omega) R0) ?_; rintro e w7 ⟨T9, rfl, ET9, FT9, B9⟩; (replace ET9 := Lib.hid ET9); (replace R0 := DBrowser.rd_nw B9 R0); (replace KB0 := box_nw B9 KB0); (replace FP3_0 := fr_nw B9 FP3_0); (replace FT4 := DBrowser.fr_nw B9 FT4); (replace KX5 := box_nw B9 KX5); (replace FP7_0 := fr_nw B9 FP7_0); (replace G := (by first | exact below_trans G B9 (Nat.le_refl _) | exact below_trans G.drew B9 (Nat.le_refl _) | exact below_trans (below_dN G _) B9 (Nat.le_refl _))); (have S7 := Lib.hid (show w6.heap.size ≤ w7.heap.size from B9.size)))
        | (go_at_call 9; (fail_if_success (have hx := B10)); refine Calls.mono (eq_browser_same T4 T9 _ _ _ _ _ (Eq.trans ET9.out (Eq.symm ET4.out)) (by rw [ET4.out]; omega) FT4.rd FT9.rd) ?_; rintro e w8 ⟨rfl, B10⟩; (replace R0 := DBrowser.rd_nw B10 R0); (replace KB0 := box_nw B10 KB0); (replace FP3_0 := fr_nw B10 FP3_0); (replace FT4 := DBrowser.fr_nw B10 FT4); (replace KX5 := box_nw B10 KX5); (replace FP7_0 := fr_nw B10 FP7_0); (replace FT9 := DBrowser.fr_nw B10 FT9); (replace G := (by first | exact below_trans G B10 (Nat.le_refl _) | exact below_trans G.drew B10 (Nat.le_refl _) | exact below_trans (below_dN G _) B10 (Nat.le_refl _))); (have S8 := Lib.hid (show w7.heap.size ≤ w8.heap.size from B10.size))))
    clear B9
    clear B10
    clear FT9
    have xKX5_0 : w8.cell? ⟨w4.heap.size, 0, none⟩ = some (.int .i64 T4.p0) := KX5.at_ rfl
    have xKX5_1 : w8.cell? ⟨w4.heap.size, 1, none⟩ = some (.slice T4.A1 T4.n1 T4.c1) := KX5.at_ rfl
    have xKX5_2 : w8.cell? ⟨w4.heap.size, 2, none⟩ = some (.slice T4.A2 T4.n2 T4.c2) := KX5.at_ rfl
    have xKX5_3 : w8.cell? ⟨w4.heap.size, 3, none⟩ = some (.slice T4.A3 T4.n3 T4.c3) := KX5.at_ rfl
    have xKX5_4 : w8.cell? ⟨w4.heap.size, 4, none⟩ = some (.slice T4.A4 T4.n4 T4.c4) := KX5.at_ rfl
    have xKX5_5 : w8.cell? ⟨w4.heap.size, 5, none⟩ = some (.slice T4.A5 T4.n5 T4.c5) := KX5.at_ rfl
    have xKX5_6 : w8.cell? ⟨w4.heap.size, 6, none⟩ = some (.slice T4.A6 T4.n6 T4.c6) := KX5.at_ rfl
    have xKX5_7 : w8.cell? ⟨w4.heap.size, 7, none⟩ = some (.int .i64 T4.p7) := KX5.at_ rfl
    go_wp2_with fail
    refine Calls.mono (mark_browser T4 (1) w3.heap.size w4.heap.size _ (by have q1 := FT4.rd.cnt_le; rw [ET4.out] at q1; omega) (by rw [ET4.out]; omega) FT4 (by have := S0.out; have := S1.out; have := S2.out; have := S3.out; have := S4.out; have := SA6.out; have := S5.out; have := S6.out; have := S7.out; have := S8.out; omega)) ?_
    rintro e w9 ⟨rfl, B11⟩
    have CB11 : T4.cnt ≤ 8388608 := by have q1 := FT4.rd.cnt_le; rw [ET4.out] at q1; omega
    replace R0 := (R0).chg B11 (by have := S0.out; have := S1.out; have := S2.out; have := S3.out; have := S4.out; have := SA6.out; have := S5.out; have := S6.out; have := S7.out; have := S8.out; omega)
    replace KB0 := (KB0).chg B11 (by have := S0.out; have := S1.out; have := S2.out; have := S3.out; have := S4.out; have := SA6.out; have := S5.out; have := S6.out; have := S7.out; have := S8.out; omega)
    replace FP3_0 := (FP3_0).chg B11 (by have := S0.out; have := S1.out; have := S2.out; have := S3.out; have := S4.out; have := SA6.out; have := S5.out; have := S6.out; have := S7.out; have := S8.out; omega)
    replace KX5 := (KX5).chg B11 (by have := S0.out; have := S1.out; have := S2.out; have := S3.out; have := S4.out; have := SA6.out; have := S5.out; have := S6.out; have := S7.out; have := S8.out; omega)
    replace FP7_0 := (FP7_0).chg B11 (by have := S0.out; have := S1.out; have := S2.out; have := S3.out; have := S4.out; have := SA6.out; have := S5.out; have := S6.out; have := S7.out; have := S8.out; omega)
    replace G := G.trans (B11.below (.inl (by have := S0.out; have := S1.out; have := S2.out; have := S3.out; have := S4.out; have := SA6.out; have := S5.out; have := S6.out; have := S7.out; have := S8.out; omega)) (by have := S0.out; have := S1.out; have := S2.out; have := S3.out; have := S4.out; have := SA6.out; have := S5.out; have := S6.out; have := S7.out; have := S8.out; first | omega | (simp; omega)))
    have S9 := Lib.hid (show w8.heap.size + 0 ≤ w9.heap.size by have := B11.size; first | (simpa using this) | ((try simp at this); omega))
    clear FT4
    clear B11
    clear xKX5_0 xKX5_1 xKX5_2 xKX5_3 xKX5_4 xKX5_5 xKX5_6 xKX5_7
    go_wp2_with fail
    refine Calls.mono (eq_node_same (mReadT x0.dat a1 a2) P7_0 P3_0 ((mReadT x0.dat a1 a2).length) ((mReadT x0.dat a1 a2).length) pc7_0 pc3_0 _ _ _ _ _ (by omega) (by omega) FP7_0.rd FP3_0.rd) ?_
    rintro e w10 ⟨rfl, B12⟩
    replace R0 := (R0).new B12
    replace KB0 := (KB0).new B12
    replace FP3_0 := (FP3_0).new B12
    replace KX5 := (KX5).new B12
    replace FP7_0 := (FP7_0).new B12
    replace G := below_trans G B12 (Nat.le_refl _)
    have S10 := Lib.hid (show w9.heap.size + 0 ≤ w10.heap.size by have := B12.size; first | (simpa using this) | ((try simp at this); omega))
    clear B12
    go_wp2_with fail
    refine Calls.mono (mark_node _ P7_0 ((mReadT x0.dat a1 a2).length) pc7_0 _ _ (1) _ (by omega) (by omega) FP7_0) ?_
    rintro e w11 ⟨rfl, FM13, B13, E13⟩
    replace R0 := (R0).chg B13 (by have := S0.out; have := S1.out; have := S2.out; have := S3.out; have := S4.out; have := SA6.out; have := S5.out; have := S6.out; have := S7.out; have := S8.out; have := S9.out; have := S10.out; omega)
    replace KB0 := (KB0).chg B13 (by have := S0.out; have := S1.out; have := S2.out; have := S3.out; have := S4.out; have := SA6.out; have := S5.out; have := S6.out; have := S7.out; have := S8.out; have := S9.out; have := S10.out; omega)
    replace FP3_0 := (FP3_0).chg B13 (by have := S0.out; have := S1.out; have := S2.out; have := S3.out; have := S4.out; have := SA6.out; have := S5.out; have := S6.out; have := S7.out; have := S8.out; have := S9.out; have := S10.out; omega)
    replace KX5 := (KX5).chg B13 (by have := S0.out; have := S1.out; have := S2.out; have := S3.out; have := S4.out; have := SA6.out; have := S5.out; have := S6.out; have := S7.out; have := S8.out; have := S9.out; have := S10.out; omega)
    replace G := G.trans (B13.below (.inl (by have := S0.out; have := S1.out; have := S2.out; have := S3.out; have := S4.out; have := SA6.out; have := S5.out; have := S6.out; have := S7.out; have := S8.out; have := S9.out; have := S10.out; omega)) (by have := S0.out; have := S1.out; have := S2.out; have := S3.out; have := S4.out; have := SA6.out; have := S5.out; have := S6.out; have := S7.out; have := S8.out; have := S9.out; have := S10.out; first | omega | (simp; omega)))
    have S11 := Lib.hid (show w10.heap.size + 0 ≤ w11.heap.size by have := B13.size; first | (simpa using this) | ((try simp at this); omega))
    clear FP7_0
    clear E13
    clear B13
    go_wp2_with fail
    refine Calls.mono (held_node P7_0 ((mReadT x0.dat a1 a2).length) pc7_0 _ _ (1) _ (by omega) (by omega) FM13.rd) ?_
    rintro e w12 hq
    obtain ⟨rfl, B14⟩ := hq.says
    replace R0 := (R0).new B14
    replace KB0 := (KB0).new B14
    replace FP3_0 := (FP3_0).new B14
    replace KX5 := (KX5).new B14
    replace FM13 := (FM13).new B14
    replace G := below_trans G B14 (Nat.le_refl _)
    have S12 := Lib.hid (show w11.heap.size + 0 ≤ w12.heap.size by have := B14.size; first | (simpa using this) | ((try simp at this); omega))
    clear B14
    have xKB0_0 : w12.cell? ⟨w.heap.size, 0, none⟩ = some (.int .i64 x0.p0) := KB0.at_ rfl
    have xKB0_1 : w12.cell? ⟨w.heap.size, 1, none⟩ = some (.slice x0.A1 x0.n1 x0.c1) := KB0.at_ rfl
    have xKB0_2 : w12.cell? ⟨w.heap.size, 2, none⟩ = some (.slice x0.A2 x0.n2 x0.c2) := KB0.at_ rfl
    have xKB0_3 : w12.cell? ⟨w.heap.size, 3, none⟩ = some (.slice x0.A3 x0.n3 x0.c3) := KB0.at_ rfl
    have xKB0_4 : w12.cell? ⟨w.heap.size, 4, none⟩ = some (.slice x0.A4 x0.n4 x0.c4) := KB0.at_ rfl
    have xKB0_5 : w12.cell? ⟨w.heap.size, 5, none⟩ = some (.slice x0.A5 x0.n5 x0.c5) := KB0.at_ rfl
    have xKB0_6 : w12.cell? ⟨w.heap.size, 6, none⟩ = some (.slice x0.A6 x0.n6 x0.c6) := KB0.at_ rfl
    have xKB0_7 : w12.cell? ⟨w.heap.size, 7, none⟩ = some (.int .i64 x0.p7) := KB0.at_ rfl
    go_wp2_with fail
    refine Calls.mono (to_browser x0 _ _ _ (by omega) R0) ?_
    rintro e w13 ⟨T15, rfl, ET15, FT15, B15⟩
    replace ET15 := Lib.hid ET15
    replace R0 := (R0).new B15
    replace KB0 := (KB0).new B15
    replace FP3_0 := (FP3_0).new B15
    replace KX5 := (KX5).new B15
    replace FM13 := (FM13).new B15
    replace G := below_trans G B15 (Nat.le_refl _)
    have S13 := Lib.hid (show w12.heap.size + 0 ≤ w13.heap.size by have := B15.size; first | (simpa using this) | ((try simp at this); omega))
    clear B15
    clear xKB0_0 xKB0_1 xKB0_2 xKB0_3 xKB0_4 xKB0_5 xKB0_6 xKB0_7
    go_wp2_with fail
    refine Calls.mono (impl_ReadTabC T15 x0.dat _ _ a1 a2 _ ET15.out (by omega) H0.out FT15.rd FT15.caps Wf1.out Wf2.out) ?_
    rintro e w14 ⟨P16_0, pc16_0, rfl, FP16_0, B16⟩
    replace R0 := (R0).new B16
    replace KB0 := (KB0).new B16
    replace FP3_0 := (FP3_0).new B16
    replace KX5 := (KX5).new B16
    replace FM13 := (FM13).new B16
    replace FT15 := (FT15).new B16
    replace G := below_trans G B16 (Nat.le_refl _)
    have S14 := Lib.hid (show w13.heap.size + 0 ≤ w14.heap.size by have := B16.size; first | (simpa using this) | ((try simp at this); omega))
    clear B16
    go_wp2_with fail
    refine Calls.mono (eq_node_same (mReadT x0.dat a1 a2) P16_0 P3_0 ((mReadT x0.dat a1 a2).length) ((mReadT x0.dat a1 a2).length) pc16_0 pc3_0 _ _ _ _ _ (by omega) (by omega) FP16_0.rd FP3_0.rd) ?_
    rintro e w15 ⟨rfl, B17⟩
    replace R0 := (R0).new B17
    replace KB0 := (KB0).new B17
    replace FP3_0 := (FP3_0).new B17
    replace KX5 := (KX5).new B17
    replace FM13 := (FM13).new B17
    replace FT15 := (FT15).new B17
    replace FP16_0 := (FP16_0).new B17
    replace G := below_trans G B17 (Nat.le_refl _)
    have S15 := Lib.hid (show w14.heap.size + 0 ≤ w15.heap.size by have := B17.size; first | (simpa using this) | ((try simp at this); omega))
    clear B17
    go_wp2_with fail
    refine Calls.mono (held_node P7_0 ((mReadT x0.dat a1 a2).length) pc7_0 _ _ (1) _ (by omega) (by omega) FM13.rd) ?_
    rintro e w16 hq
    obtain ⟨rfl, B18⟩ := hq.says
    replace R0 := (R0).new B18
    replace KB0 := (KB0).new B18
    replace FP3_0 := (FP3_0).new B18
    replace KX5 := (KX5).new B18
    replace FM13 := (FM13).new B18
    replace FT15 := (FT15).new B18
    replace FP16_0 := (FP16_0).new B18
    replace G := below_trans G B18 (Nat.le_refl _)
    have S16 := Lib.hid (show w15.heap.size + 0 ≤ w16.heap.size by have := B18.size; first | (simpa using this) | ((try simp at this); omega))
    clear B18
    go_wp2_with fail
    go_ret
    exact ⟨rfl, G⟩
  · skip
    have G : Below w.heap.size w (w.alloc (.cells #[.int .i64 x0.p0, .slice x0.A1 x0.n1 x0.c1, .slice x0.A2 x0.n2 x0.c2, .slice x0.A3 x0.n3 x0.c3, .slice x0.A4 x0.n4 x0.c4, .slice x0.A5 x0.n5 x0.c5, .slice x0.A6 x0.n6 x0.c6, .int .i64 x0.p7] 29)) := (Below.refl _ _).alloc (by simp) _
    have S0 := Lib.hid (show (w.alloc (.cells #[.int .i64 x0.p0, .slice x0.A1 x0.n1 x0.c1, .slice x0.A2 x0.n2 x0.c2, .slice x0.A3 x0.n3 x0.c3, .slice x0.A4 x0.n4 x0.c4, .slice x0.A5 x0.n5 x0.c5, .slice x0.A6 x0.n6 x0.c6, .int .i64 x0.p7] 29)).heap.size = w.heap.size + 1 by simp)
    replace R0 := R0.alloc (.cells #[.int .i64 x0.p0, .slice x0.A1 x0.n1 x0.c1, .slice x0.A2 x0.n2 x0.c2, .slice x0.A3 x0.n3 x0.c3, .slice x0.A4 x0.n4 x0.c4, .slice x0.A5 x0.n5 x0.c5, .slice x0.A6 x0.n6 x0.c6, .int .i64 x0.p7] 29)
    have KB0 : BoxAt (w.alloc (.cells #[.int .i64 x0.p0, .slice x0.A1 x0.n1 x0.c1, .slice x0.A2 x0.n2 x0.c2, .slice x0.A3 x0.n3 x0.c3, .slice x0.A4 x0.n4 x0.c4, .slice x0.A5 x0.n5 x0.c5, .slice x0.A6 x0.n6 x0.c6, .int .i64 x0.p7] 29)) (w.heap.size) 29 #[.int .i64 x0.p0, .slice x0.A1 x0.n1 x0.c1, .slice x0.A2 x0.n2 x0.c2, .slice x0.A3 x0.n3 x0.c3, .slice x0.A4 x0.n4 x0.c4, .slice x0.A5 x0.n5 x0.c5, .slice x0.A6 x0.n6 x0.c6, .int .i64 x0.p7] := box_new _ _ _
    go_enter Tryz.func3, Tryz.ntmps3
    have xKB0_0 : (w.alloc (.cells #[.int .i64 x0.p0, .slice x0.A1 x0.n1 x0.c1, .slice x0.A2 x0.n2 x0.c2, .slice x0.A3 x0.n3 x0.c3, .slice x0.A4 x0.n4 x0.c4, .slice x0.A5 x0.n5 x0.c5, .slice x0.A6 x0.n6 x0.c6, .int .i64 x0.p7] 29)).cell? ⟨w.heap.size, 0, none⟩ = some (.int .i64 x0.p0) := KB0.at_ rfl
    have xKB0_1 : (w.alloc (.cells #[.int .i64 x0.p0, .slice x0.A1 x0.n1 x0.c1, .slice x0.A2 x0.n2 x0.c2, .slice x0.A3 x0.n3 x0.c3, .slice x0.A4 x0.n4 x0.c4, .slice x0.A5 x0.n5 x0.c5, .slice x0.A6 x0.n6 x0.c6, .int .i64 x0.p7] 29)).cell? ⟨w.heap.size, 1, none⟩ = some (.slice x0.A1 x0.n1 x0.c1) := KB0.at_ rfl
    have xKB0_2 : (w.alloc (.cells #[.int .i64 x0.p0, .slice x0.A1 x0.n1 x0.c1, .slice x0.A2 x0.n2 x0.c2, .slice x0.A3 x0.n3 x0.c3, .slice x0.A4 x0.n4 x0.c4, .slice x0.A5 x0.n5 x0.c5, .slice x0.A6 x0.n6 x0.c6, .int .i64 x0.p7] 29)).cell? ⟨w.heap.size, 2, none⟩ = some (.slice x0.A2 x0.n2 x0.c2) := KB0.at_ rfl
    have xKB0_3 : (w.alloc (.cells #[.int .i64 x0.p0, .slice x0.A1 x0.n1 x0.c1, .slice x0.A2 x0.n2 x0.c2, .slice x0.A3 x0.n3 x0.c3, .slice x0.A4 x0.n4 x0.c4, .slice x0.A5 x0.n5 x0.c5, .slice x0.A6 x0.n6 x0.c6, .int .i64 x0.p7] 29)).cell? ⟨w.heap.size, 3, none⟩ = some (.slice x0.A3 x0.n3 x0.c3) := KB0.at_ rfl
    have xKB0_4 : (w.alloc (.cells #[.int .i64 x0.p0, .slice x0.A1 x0.n1 x0.c1, .slice x0.A2 x0.n2 x0.c2, .slice x0.A3 x0.n3 x0.c3, .slice x0.A4 x0.n4 x0.c4, .slice x0.A5 x0.n5 x0.c5, .slice x0.A6 x0.n6 x0.c6, .int .i64 x0.p7] 29)).cell? ⟨w.heap.size, 4, none⟩ = some (.slice x0.A4 x0.n4 x0.c4) := KB0.at_ rfl
    have xKB0_5 : (w.alloc (.cells #[.int .i64 x0.p0, .slice x0.A1 x0.n1 x0.c1, .slice x0.A2 x0.n2 x0.c2, .slice x0.A3 x0.n3 x0.c3, .slice x0.A4 x0.n4 x0.c4, .slice x0.A5 x0.n5 x0.c5, .slice x0.A6 x0.n6 x0.c6, .int .i64 x0.p7] 29)).cell? ⟨w.heap.size, 5, none⟩ = some (.slice x0.A5 x0.n5 x0.c5) := KB0.at_ rfl
    have xKB0_6 : (w.alloc (.cells #[.int .i64 x0.p0, .slice x0.A1 x0.n1 x0.c1, .slice x0.A2 x0.n2 x0.c2, .slice x0.A3 x0.n3 x0.c3, .slice x0.A4 x0.n4 x0.c4, .slice x0.A5 x0.n5 x0.c5, .slice x0.A6 x0.n6 x0.c6, .int .i64 x0.p7] 29)).cell? ⟨w.heap.size, 6, none⟩ = some (.slice x0.A6 x0.n6 x0.c6) := KB0.at_ rfl
    have xKB0_7 : (w.alloc (.cells #[.int .i64 x0.p0, .slice x0.A1 x0.n1 x0.c1, .slice x0.A2 x0.n2 x0.c2, .slice x0.A3 x0.n3 x0.c3, .slice x0.A4 x0.n4 x0.c4, .slice x0.A5 x0.n5 x0.c5, .slice x0.A6 x0.n6 x0.c6, .int .i64 x0.p7] 29)).cell? ⟨w.heap.size, 7, none⟩ = some (.int .i64 x0.p7) := KB0.at_ rfl
    go_wp2_with fail
    refine Calls.mono (szno_browser x0 _ _ (1048576) _ R0 (by omega) (by omega) (by omega)) ?_
    rintro e w1 ⟨rfl, B19⟩
    clear xKB0_0 xKB0_1 xKB0_2 xKB0_3 xKB0_4 xKB0_5 xKB0_6 xKB0_7
    go_wp2_with fail
    go_ret
    exact ⟨rfl, below_trans G B19 (Nat.le_refl _)⟩

set_option maxRecDepth 100000 in
theorem lifted (os : Os) (started : os.Started) (H : Type) (enc : TypeId × Value → H) :
    ReturnsInHanded {} Tryz.checked os 3 .any (Rows.fnExactReadTabSpec.pre6 enc Tryz.prog Tryz.f3 Rows.fnExactReadTabRow.domain false) (Rows.fnExactReadTabSpec.post enc Tryz.prog Tryz.f3 false true false false) := by
  refine law_lifted Tryz.func3 (by kernel_rfl) rfl rfl (by kernel_rfl) os started
    (ChangeSpec.witness6 (enc := enc) (C := Tryz.checked) false ⟨#[], #[.agg #[.int .i64 0, .slice none 0 0, .slice none 0 0, .slice none 0 0, .slice none 0 0, .slice none 0 0, .slice none 0 0, .int .i64 0], .int .i64 0, .int .i64 0], []⟩ 8 (by kernel_rfl) (by kernel_rfl) (by kernel_rfl) (by kernel_rfl)) ?_
  intro W base args ds p hval hA hlt
  rw [Tryz.params3] at hA hval
  obtain ⟨v0, vs0, d0, ds0, p0, q0, hargs, rfl, rfl, h0, r0⟩ := trodAll_cons hA
  obtain ⟨v1, vs1, d1, ds1, p1, q1, rfl, rfl, rfl, h1, r1⟩ := trodAll_cons r0
  obtain ⟨v2, vs2, d2, ds2, p2, q2, rfl, rfl, rfl, h2, r2⟩ := trodAll_cons r1
  obtain ⟨rfl, rfl, rfl⟩ := trodAll_nil r2
  obtain rfl : args = #[v0, v1, v2] := by cases args; simp_all
  obtain ⟨x0, rfl, R0, H0⟩ := open_browser (hval 0 29 v0 rfl rfl) h0 (fun x hx => hlt x (by simp [hx]))
  obtain ⟨a1, rfl, rfl, rfl, wf1⟩ := open_int Tryz.underlying3 (hval 1 3 v1 rfl rfl) h1
  obtain ⟨a2, rfl, rfl, rfl, wf2⟩ := open_int Tryz.underlying3 (hval 2 3 v2 rfl rfl) h2
  exact ⟨⟨rfl, rfl, rfl⟩, walk x0 a1 a2 W R0 H0 wf1 wf2⟩

set_option maxRecDepth 100000 in
set_option maxHeartbeats 8000000 in
theorem closed : joinedFacts Tryz.pinned.checked.prog 3 Tryz.f3 Rows.fnExactReadTabSpec Rows.fnExactReadTabRow = true :=
  (and_i (and_i (and_i (and_i (and_i (and_i (and_i (and_i (and_i (and_i (and_i (and_i (and_i (and_i (and_i (and_i (and_i (and_i (and_i (and_i (and_i (and_i (and_i (and_i (and_i (and_i (and_i (and_i (and_i (and_i (and_i (by as_aux_lemma => kernel_rfl) seatLaid) sf_maps) (by as_aux_lemma => kernel_rfl)) (by as_aux_lemma => kernel_rfl)) (by as_aux_lemma => kernel_rfl)) (by as_aux_lemma => kernel_rfl)) (by as_aux_lemma => kernel_rfl)) (by as_aux_lemma => kernel_rfl)) (by as_aux_lemma => kernel_rfl)) (by as_aux_lemma => kernel_rfl)) (by as_aux_lemma => kernel_rfl)) (by as_aux_lemma => kernel_rfl)) (by as_aux_lemma => kernel_rfl)) (by as_aux_lemma => kernel_rfl)) (by as_aux_lemma => kernel_rfl)) (by as_aux_lemma => kernel_rfl)) (by as_aux_lemma => kernel_rfl)) (by as_aux_lemma => kernel_rfl)) (by as_aux_lemma => kernel_rfl)) (by as_aux_lemma => kernel_rfl)) (by as_aux_lemma => kernel_rfl)) sf_plain) (by as_aux_lemma => kernel_rfl)) sf_heard) sf_enter) sf_lifts) sf_make) (by as_aux_lemma => kernel_rfl)) (by as_aux_lemma => kernel_rfl)) (by as_aux_lemma => kernel_rfl)) (by as_aux_lemma => kernel_rfl))

theorem over : Rows.fnExactReadTabRow.holds Tryz.pinned (OpenSpec.ofChange Rows.fnExactReadTabSpec) :=
  OpenClaim.holds_of_wide 3 Tryz.f3 rfl rfl rfl rfl rfl rfl rfl ⟨rfl, rfl, rfl, rfl, rfl⟩ rfl rfl rfl rfl rfl (by kernel_rfl) Tryz.func3 closed
    (of_decide_eq_true (by kernel_rfl)) (by unfold Func.isWrapper; first | (rw [if_pos (by decide +kernel)]; kernel_rfl) | (rw [if_neg (by decide +kernel)]; exact ⟨rfl, rfl⟩))
    (fun os started H enc _ => lifted os started H enc)

theorem proved : Rows.FnExactReadTabSaid := over
#print axioms proved
end Go.Proofs.YtjgcgipglmhgeaaGreat.fnExactReadTab
