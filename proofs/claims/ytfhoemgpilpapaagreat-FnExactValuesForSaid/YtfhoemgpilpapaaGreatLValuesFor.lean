/- The law FnExactValuesFor answers true for every argument, and leaves each argument as it was. No condition. -/
import Derived.Deep.RegionHeld3
import Derived.Deep.DeepCutAuto
import Derived.Test.YtfhoemgpilpapaaGreatDBrowser
import Derived.Test.YtfhoemgpilpapaaGreatSlI
import Derived.Test.YtfhoemgpilpapaaGreatVals
namespace Go.Proofs.YtfhoemgpilpapaaGreat.fnExactValuesFor
open Go Go.ChangeShapes Go.WideShapes Go.ChangeAt Go.RowKit Go.Lib
open Go.ChangeMaps (open_string)
set_option linter.unusedVariables false
set_option linter.unusedSimpArgs false
set_option maxRecDepth 100000

set_option maxRecDepth 100000 in
set_option maxHeartbeats 20000000 in
theorem walk (x0 : DBrowser) (a1 : Int) (l2 : List Int) (A2 : Option Addr) (n2 c2 : Nat) (w : World) (R0 : x0.rd w 0 w.heap.size) (H0 : Hid x0.dat.ok) (wf1 : (Lit.int .i64 a1).wf = true) (hm2 : n2 ≤ maxLen) (R2 : Rd w 0 w.heap.size 1 A2 n2 (i64s l2)) (H2 : Hid (I64s l2)) :
    Calls Tryz.prog 5 #[.agg #[.int .i64 x0.p0, .slice x0.A1 x0.n1 x0.c1, .slice x0.A2 x0.n2 x0.c2, .slice x0.A3 x0.n3 x0.c3, .slice x0.A4 x0.n4 x0.c4, .slice x0.A5 x0.n5 x0.c5, .slice x0.A6 x0.n6 x0.c6, .int .i64 x0.p7], .int .i64 a1, .slice A2 n2 c2] w fun e w' => e = .returned (.bool true) ∧ Below w.heap.size w w' := by
  have hm2 : n2 ≤ 9223372036854775807 := hm2
  have Wf1 := Lib.hid wf1
  clear wf1
  by_cases hn2 : n2 ≤ 1048576
  · skip
    by_cases hz0 : x0.dat.sz ≤ 1048576
    · skip
      have hl0 : (mVals x0.dat a1 l2).length ≤ 1073741823 := by (rw [mVals_len]; decide)
      have hqn2 : n2 ≤ 17179869184 := by omega
      have G : Below w.heap.size w (w.alloc (.cells #[.int .i64 x0.p0, .slice x0.A1 x0.n1 x0.c1, .slice x0.A2 x0.n2 x0.c2, .slice x0.A3 x0.n3 x0.c3, .slice x0.A4 x0.n4 x0.c4, .slice x0.A5 x0.n5 x0.c5, .slice x0.A6 x0.n6 x0.c6, .int .i64 x0.p7] 29)) := (Below.refl _ _).alloc (by simp) _
      have S0 := Lib.hid (show (w.alloc (.cells #[.int .i64 x0.p0, .slice x0.A1 x0.n1 x0.c1, .slice x0.A2 x0.n2 x0.c2, .slice x0.A3 x0.n3 x0.c3, .slice x0.A4 x0.n4 x0.c4, .slice x0.A5 x0.n5 x0.c5, .slice x0.A6 x0.n6 x0.c6, .int .i64 x0.p7] 29)).heap.size = w.heap.size + 1 by simp)
      replace R0 := R0.alloc (.cells #[.int .i64 x0.p0, .slice x0.A1 x0.n1 x0.c1, .slice x0.A2 x0.n2 x0.c2, .slice x0.A3 x0.n3 x0.c3, .slice x0.A4 x0.n4 x0.c4, .slice x0.A5 x0.n5 x0.c5, .slice x0.A6 x0.n6 x0.c6, .int .i64 x0.p7] 29)
      replace R2 := R2.alloc (.cells #[.int .i64 x0.p0, .slice x0.A1 x0.n1 x0.c1, .slice x0.A2 x0.n2 x0.c2, .slice x0.A3 x0.n3 x0.c3, .slice x0.A4 x0.n4 x0.c4, .slice x0.A5 x0.n5 x0.c5, .slice x0.A6 x0.n6 x0.c6, .int .i64 x0.p7] 29)
      have KB0 : BoxAt (w.alloc (.cells #[.int .i64 x0.p0, .slice x0.A1 x0.n1 x0.c1, .slice x0.A2 x0.n2 x0.c2, .slice x0.A3 x0.n3 x0.c3, .slice x0.A4 x0.n4 x0.c4, .slice x0.A5 x0.n5 x0.c5, .slice x0.A6 x0.n6 x0.c6, .int .i64 x0.p7] 29)) (w.heap.size) 29 #[.int .i64 x0.p0, .slice x0.A1 x0.n1 x0.c1, .slice x0.A2 x0.n2 x0.c2, .slice x0.A3 x0.n3 x0.c3, .slice x0.A4 x0.n4 x0.c4, .slice x0.A5 x0.n5 x0.c5, .slice x0.A6 x0.n6 x0.c6, .int .i64 x0.p7] := box_new _ _ _
      go_enter Tryz.func5, Tryz.ntmps5
      have xKB0_0 : (w.alloc (.cells #[.int .i64 x0.p0, .slice x0.A1 x0.n1 x0.c1, .slice x0.A2 x0.n2 x0.c2, .slice x0.A3 x0.n3 x0.c3, .slice x0.A4 x0.n4 x0.c4, .slice x0.A5 x0.n5 x0.c5, .slice x0.A6 x0.n6 x0.c6, .int .i64 x0.p7] 29)).cell? ⟨w.heap.size, 0, none⟩ = some (.int .i64 x0.p0) := KB0.at_ rfl
      have xKB0_1 : (w.alloc (.cells #[.int .i64 x0.p0, .slice x0.A1 x0.n1 x0.c1, .slice x0.A2 x0.n2 x0.c2, .slice x0.A3 x0.n3 x0.c3, .slice x0.A4 x0.n4 x0.c4, .slice x0.A5 x0.n5 x0.c5, .slice x0.A6 x0.n6 x0.c6, .int .i64 x0.p7] 29)).cell? ⟨w.heap.size, 1, none⟩ = some (.slice x0.A1 x0.n1 x0.c1) := KB0.at_ rfl
      have xKB0_2 : (w.alloc (.cells #[.int .i64 x0.p0, .slice x0.A1 x0.n1 x0.c1, .slice x0.A2 x0.n2 x0.c2, .slice x0.A3 x0.n3 x0.c3, .slice x0.A4 x0.n4 x0.c4, .slice x0.A5 x0.n5 x0.c5, .slice x0.A6 x0.n6 x0.c6, .int .i64 x0.p7] 29)).cell? ⟨w.heap.size, 2, none⟩ = some (.slice x0.A2 x0.n2 x0.c2) := KB0.at_ rfl
      have xKB0_3 : (w.alloc (.cells #[.int .i64 x0.p0, .slice x0.A1 x0.n1 x0.c1, .slice x0.A2 x0.n2 x0.c2, .slice x0.A3 x0.n3 x0.c3, .slice x0.A4 x0.n4 x0.c4, .slice x0.A5 x0.n5 x0.c5, .slice x0.A6 x0.n6 x0.c6, .int .i64 x0.p7] 29)).cell? ⟨w.heap.size, 3, none⟩ = some (.slice x0.A3 x0.n3 x0.c3) := KB0.at_ rfl
      have xKB0_4 : (w.alloc (.cells #[.int .i64 x0.p0, .slice x0.A1 x0.n1 x0.c1, .slice x0.A2 x0.n2 x0.c2, .slice x0.A3 x0.n3 x0.c3, .slice x0.A4 x0.n4 x0.c4, .slice x0.A5 x0.n5 x0.c5, .slice x0.A6 x0.n6 x0.c6, .int .i64 x0.p7] 29)).cell? ⟨w.heap.size, 4, none⟩ = some (.slice x0.A4 x0.n4 x0.c4) := KB0.at_ rfl
      have xKB0_5 : (w.alloc (.cells #[.int .i64 x0.p0, .slice x0.A1 x0.n1 x0.c1, .slice x0.A2 x0.n2 x0.c2, .slice x0.A3 x0.n3 x0.c3, .slice x0.A4 x0.n4 x0.c4, .slice x0.A5 x0.n5 x0.c5, .slice x0.A6 x0.n6 x0.c6, .int .i64 x0.p7] 29)).cell? ⟨w.heap.size, 5, none⟩ = some (.slice x0.A5 x0.n5 x0.c5) := KB0.at_ rfl
      have xKB0_6 : (w.alloc (.cells #[.int .i64 x0.p0, .slice x0.A1 x0.n1 x0.c1, .slice x0.A2 x0.n2 x0.c2, .slice x0.A3 x0.n3 x0.c3, .slice x0.A4 x0.n4 x0.c4, .slice x0.A5 x0.n5 x0.c5, .slice x0.A6 x0.n6 x0.c6, .int .i64 x0.p7] 29)).cell? ⟨w.heap.size, 6, none⟩ = some (.slice x0.A6 x0.n6 x0.c6) := KB0.at_ rfl
      have xKB0_7 : (w.alloc (.cells #[.int .i64 x0.p0, .slice x0.A1 x0.n1 x0.c1, .slice x0.A2 x0.n2 x0.c2, .slice x0.A3 x0.n3 x0.c3, .slice x0.A4 x0.n4 x0.c4, .slice x0.A5 x0.n5 x0.c5, .slice x0.A6 x0.n6 x0.c6, .int .i64 x0.p7] 29)).cell? ⟨w.heap.size, 7, none⟩ = some (.int .i64 x0.p7) := KB0.at_ rfl
      go_wp2_with fail
      refine Calls.mono (sz_browser x0 _ _ (1048576) _ R0 (by omega) (by omega)) ?_
      rintro e w1 ⟨rfl, B1⟩
      replace R0 := (R0).new B1
      replace R2 := (R2).new B1
      replace KB0 := (KB0).new B1
      replace G := below_trans G B1 (Nat.le_refl _)
      have S1 := Lib.hid (show (w.alloc (.cells #[.int .i64 x0.p0, .slice x0.A1 x0.n1 x0.c1, .slice x0.A2 x0.n2 x0.c2, .slice x0.A3 x0.n3 x0.c3, .slice x0.A4 x0.n4 x0.c4, .slice x0.A5 x0.n5 x0.c5, .slice x0.A6 x0.n6 x0.c6, .int .i64 x0.p7] 29)).heap.size + 0 ≤ w1.heap.size by have := B1.size; first | (simpa using this) | ((try simp at this); omega))
      clear B1
      clear xKB0_0 xKB0_1 xKB0_2 xKB0_3 xKB0_4 xKB0_5 xKB0_6 xKB0_7
      have xKB0_0 : w1.cell? ⟨w.heap.size, 0, none⟩ = some (.int .i64 x0.p0) := KB0.at_ rfl
      have xKB0_1 : w1.cell? ⟨w.heap.size, 1, none⟩ = some (.slice x0.A1 x0.n1 x0.c1) := KB0.at_ rfl
      have xKB0_2 : w1.cell? ⟨w.heap.size, 2, none⟩ = some (.slice x0.A2 x0.n2 x0.c2) := KB0.at_ rfl
      have xKB0_3 : w1.cell? ⟨w.heap.size, 3, none⟩ = some (.slice x0.A3 x0.n3 x0.c3) := KB0.at_ rfl
      have xKB0_4 : w1.cell? ⟨w.heap.size, 4, none⟩ = some (.slice x0.A4 x0.n4 x0.c4) := KB0.at_ rfl
      have xKB0_5 : w1.cell? ⟨w.heap.size, 5, none⟩ = some (.slice x0.A5 x0.n5 x0.c5) := KB0.at_ rfl
      have xKB0_6 : w1.cell? ⟨w.heap.size, 6, none⟩ = some (.slice x0.A6 x0.n6 x0.c6) := KB0.at_ rfl
      have xKB0_7 : w1.cell? ⟨w.heap.size, 7, none⟩ = some (.int .i64 x0.p7) := KB0.at_ rfl
      go_wp2_with fail
      refine Calls.mono (to_browser x0 _ _ _ (by omega) R0) ?_
      rintro e w2 ⟨T2, rfl, ET2, FT2, B2⟩
      replace ET2 := Lib.hid ET2
      replace R0 := (R0).new B2
      replace R2 := (R2).new B2
      replace KB0 := (KB0).new B2
      replace G := below_trans G B2 (Nat.le_refl _)
      have S2 := Lib.hid (show w1.heap.size + 0 ≤ w2.heap.size by have := B2.size; first | (simpa using this) | ((try simp at this); omega))
      clear B2
      clear xKB0_0 xKB0_1 xKB0_2 xKB0_3 xKB0_4 xKB0_5 xKB0_6 xKB0_7
      go_wp2_with fail
      refine Calls.mono (to_int l2 A2 n2 c2 _ _ _ (Nat.le_trans hqn2 (by decide)) R2) ?_
      rintro e w3 ⟨T3, tc3, rfl, FT3, B3⟩
      replace R0 := (R0).new B3
      replace R2 := (R2).new B3
      replace KB0 := (KB0).new B3
      replace FT2 := (FT2).new B3
      replace G := below_trans G B3 (Nat.le_refl _)
      have S3 := Lib.hid (show w2.heap.size + 0 ≤ w3.heap.size by have := B3.size; first | (simpa using this) | ((try simp at this); omega))
      clear B3
      go_wp2_with fail
      refine Calls.mono (spec_ValuesFor T2 x0.dat _ _ a1 l2 T3 n2 tc3 _ _ _ ET2.out (by omega) H0.out FT2.rd FT2.caps (by omega) FT3.rd FT3.cap H2) ?_
      rintro e w4 ⟨P4_0, pc4_0, rfl, FP4_0, B4⟩
      replace R0 := (R0).new B4
      replace R2 := (R2).new B4
      replace KB0 := (KB0).new B4
      replace FT2 := (FT2).new B4
      replace FT3 := (FT3).new B4
      replace G := below_trans G B4 (Nat.le_refl _)
      have S4 := Lib.hid (show w3.heap.size + 0 ≤ w4.heap.size by have := B4.size; first | (simpa using this) | ((try simp at this); omega))
      clear B4
      clear FT2
      clear FT3
      have xKB0_0 : w4.cell? ⟨w.heap.size, 0, none⟩ = some (.int .i64 x0.p0) := KB0.at_ rfl
      have xKB0_1 : w4.cell? ⟨w.heap.size, 1, none⟩ = some (.slice x0.A1 x0.n1 x0.c1) := KB0.at_ rfl
      have xKB0_2 : w4.cell? ⟨w.heap.size, 2, none⟩ = some (.slice x0.A2 x0.n2 x0.c2) := KB0.at_ rfl
      have xKB0_3 : w4.cell? ⟨w.heap.size, 3, none⟩ = some (.slice x0.A3 x0.n3 x0.c3) := KB0.at_ rfl
      have xKB0_4 : w4.cell? ⟨w.heap.size, 4, none⟩ = some (.slice x0.A4 x0.n4 x0.c4) := KB0.at_ rfl
      have xKB0_5 : w4.cell? ⟨w.heap.size, 5, none⟩ = some (.slice x0.A5 x0.n5 x0.c5) := KB0.at_ rfl
      have xKB0_6 : w4.cell? ⟨w.heap.size, 6, none⟩ = some (.slice x0.A6 x0.n6 x0.c6) := KB0.at_ rfl
      have xKB0_7 : w4.cell? ⟨w.heap.size, 7, none⟩ = some (.int .i64 x0.p7) := KB0.at_ rfl
      go_wp2_with fail
      refine Calls.mono (to_browser x0 _ _ _ (by omega) R0) ?_
      rintro e w5 ⟨T5, rfl, ET5, FT5, B5⟩
      replace ET5 := Lib.hid ET5
      replace R0 := (R0).new B5
      replace R2 := (R2).new B5
      replace KB0 := (KB0).new B5
      replace FP4_0 := (FP4_0).new B5
      replace G := below_trans G B5 (Nat.le_refl _)
      have S5 := Lib.hid (show w4.heap.size + 0 ≤ w5.heap.size by have := B5.size; first | (simpa using this) | ((try simp at this); omega))
      clear B5
      clear xKB0_0 xKB0_1 xKB0_2 xKB0_3 xKB0_4 xKB0_5 xKB0_6 xKB0_7
      have SA7 := Lib.hid (show (w5.alloc (.cells #[.int .i64 T5.p0, .slice T5.A1 T5.n1 T5.c1, .slice T5.A2 T5.n2 T5.c2, .slice T5.A3 T5.n3 T5.c3, .slice T5.A4 T5.n4 T5.c4, .slice T5.A5 T5.n5 T5.c5, .slice T5.A6 T5.n6 T5.c6, .int .i64 T5.p7] 42)).heap.size = w5.heap.size + 1 by simp)
      replace R0 := R0.alloc (.cells #[.int .i64 T5.p0, .slice T5.A1 T5.n1 T5.c1, .slice T5.A2 T5.n2 T5.c2, .slice T5.A3 T5.n3 T5.c3, .slice T5.A4 T5.n4 T5.c4, .slice T5.A5 T5.n5 T5.c5, .slice T5.A6 T5.n6 T5.c6, .int .i64 T5.p7] 42)
      replace R2 := R2.alloc (.cells #[.int .i64 T5.p0, .slice T5.A1 T5.n1 T5.c1, .slice T5.A2 T5.n2 T5.c2, .slice T5.A3 T5.n3 T5.c3, .slice T5.A4 T5.n4 T5.c4, .slice T5.A5 T5.n5 T5.c5, .slice T5.A6 T5.n6 T5.c6, .int .i64 T5.p7] 42)
      replace KB0 := KB0.alloc_ (.cells #[.int .i64 T5.p0, .slice T5.A1 T5.n1 T5.c1, .slice T5.A2 T5.n2 T5.c2, .slice T5.A3 T5.n3 T5.c3, .slice T5.A4 T5.n4 T5.c4, .slice T5.A5 T5.n5 T5.c5, .slice T5.A6 T5.n6 T5.c6, .int .i64 T5.p7] 42)
      replace FP4_0 := FP4_0.alloc (.cells #[.int .i64 T5.p0, .slice T5.A1 T5.n1 T5.c1, .slice T5.A2 T5.n2 T5.c2, .slice T5.A3 T5.n3 T5.c3, .slice T5.A4 T5.n4 T5.c4, .slice T5.A5 T5.n5 T5.c5, .slice T5.A6 T5.n6 T5.c6, .int .i64 T5.p7] 42)
      replace FT5 := FT5.alloc (.cells #[.int .i64 T5.p0, .slice T5.A1 T5.n1 T5.c1, .slice T5.A2 T5.n2 T5.c2, .slice T5.A3 T5.n3 T5.c3, .slice T5.A4 T5.n4 T5.c4, .slice T5.A5 T5.n5 T5.c5, .slice T5.A6 T5.n6 T5.c6, .int .i64 T5.p7] 42)
      have KX6 : BoxAt (w5.alloc (.cells #[.int .i64 T5.p0, .slice T5.A1 T5.n1 T5.c1, .slice T5.A2 T5.n2 T5.c2, .slice T5.A3 T5.n3 T5.c3, .slice T5.A4 T5.n4 T5.c4, .slice T5.A5 T5.n5 T5.c5, .slice T5.A6 T5.n6 T5.c6, .int .i64 T5.p7] 42)) (w5.heap.size) 42 #[.int .i64 T5.p0, .slice T5.A1 T5.n1 T5.c1, .slice T5.A2 T5.n2 T5.c2, .slice T5.A3 T5.n3 T5.c3, .slice T5.A4 T5.n4 T5.c4, .slice T5.A5 T5.n5 T5.c5, .slice T5.A6 T5.n6 T5.c6, .int .i64 T5.p7] := box_new _ _ _
      replace G := G.alloc (by have := S0.out; have := S1.out; have := S2.out; have := S3.out; have := S4.out; have := S5.out; have := SA7.out; first | omega | (simp; omega)) (.cells #[.int .i64 T5.p0, .slice T5.A1 T5.n1 T5.c1, .slice T5.A2 T5.n2 T5.c2, .slice T5.A3 T5.n3 T5.c3, .slice T5.A4 T5.n4 T5.c4, .slice T5.A5 T5.n5 T5.c5, .slice T5.A6 T5.n6 T5.c6, .int .i64 T5.p7] 42)
      go_wp2_with fail
      refine Calls.mono (to_int l2 A2 n2 c2 _ _ _ (Nat.le_trans hqn2 (by decide)) R2) ?_
      rintro e w6 ⟨T8, tc8, rfl, FT8, B8⟩
      replace R0 := (R0).new B8
      replace R2 := (R2).new B8
      replace KB0 := (KB0).new B8
      replace FP4_0 := (FP4_0).new B8
      replace FT5 := (FT5).new B8
      replace KX6 := (KX6).new B8
      replace G := below_trans G B8 (Nat.le_refl _)
      have S6 := Lib.hid (show (w5.alloc (.cells #[.int .i64 T5.p0, .slice T5.A1 T5.n1 T5.c1, .slice T5.A2 T5.n2 T5.c2, .slice T5.A3 T5.n3 T5.c3, .slice T5.A4 T5.n4 T5.c4, .slice T5.A5 T5.n5 T5.c5, .slice T5.A6 T5.n6 T5.c6, .int .i64 T5.p7] 42)).heap.size + 0 ≤ w6.heap.size by have := B8.size; first | (simpa using this) | ((try simp at this); omega))
      clear B8
      have xKX6_0 : w6.cell? ⟨w5.heap.size, 0, none⟩ = some (.int .i64 T5.p0) := KX6.at_ rfl
      have xKX6_1 : w6.cell? ⟨w5.heap.size, 1, none⟩ = some (.slice T5.A1 T5.n1 T5.c1) := KX6.at_ rfl
      have xKX6_2 : w6.cell? ⟨w5.heap.size, 2, none⟩ = some (.slice T5.A2 T5.n2 T5.c2) := KX6.at_ rfl
      have xKX6_3 : w6.cell? ⟨w5.heap.size, 3, none⟩ = some (.slice T5.A3 T5.n3 T5.c3) := KX6.at_ rfl
      have xKX6_4 : w6.cell? ⟨w5.heap.size, 4, none⟩ = some (.slice T5.A4 T5.n4 T5.c4) := KX6.at_ rfl
      have xKX6_5 : w6.cell? ⟨w5.heap.size, 5, none⟩ = some (.slice T5.A5 T5.n5 T5.c5) := KX6.at_ rfl
      have xKX6_6 : w6.cell? ⟨w5.heap.size, 6, none⟩ = some (.slice T5.A6 T5.n6 T5.c6) := KX6.at_ rfl
      have xKX6_7 : w6.cell? ⟨w5.heap.size, 7, none⟩ = some (.int .i64 T5.p7) := KX6.at_ rfl
      go_wp2_with fail
      refine Calls.mono (impl_ValuesForC T5 x0.dat _ _ a1 l2 T8 n2 tc8 _ _ _ ET5.out (by omega) H0.out FT5.rd FT5.caps (by omega) FT8.rd FT8.cap H2) ?_
      rintro e w7 ⟨P9_0, pc9_0, rfl, FP9_0, B9⟩
      replace R0 := (R0).new B9
      replace R2 := (R2).new B9
      replace KB0 := (KB0).new B9
      replace FP4_0 := (FP4_0).new B9
      replace FT5 := (FT5).new B9
      replace KX6 := (KX6).new B9
      replace FT8 := (FT8).new B9
      replace G := below_trans G B9 (Nat.le_refl _)
      have S7 := Lib.hid (show w6.heap.size + 0 ≤ w7.heap.size by have := B9.size; first | (simpa using this) | ((try simp at this); omega))
      clear B9
      clear xKX6_0 xKX6_1 xKX6_2 xKX6_3 xKX6_4 xKX6_5 xKX6_6 xKX6_7
      go_wp2_with fail
      refine Calls.mono (eq_int_same (mVals x0.dat a1 l2) P9_0 P4_0 ((mVals x0.dat a1 l2).length) ((mVals x0.dat a1 l2).length) pc9_0 pc4_0 _ _ _ _ _ (by omega) (by omega) FP9_0.rd FP4_0.rd) ?_
      rintro e w8 hq
      obtain ⟨rfl, B10⟩ := hq.says
      replace R0 := (R0).new B10
      replace R2 := (R2).new B10
      replace KB0 := (KB0).new B10
      replace FP4_0 := (FP4_0).new B10
      replace FT5 := (FT5).new B10
      replace KX6 := (KX6).new B10
      replace FT8 := (FT8).new B10
      replace FP9_0 := (FP9_0).new B10
      replace G := below_trans G B10 (Nat.le_refl _)
      have S8 := Lib.hid (show w7.heap.size + 0 ≤ w8.heap.size by have := B10.size; first | (simpa using this) | ((try simp at this); omega))
      clear B10
      go_wp2_with fail
      replace G := G.drew
      replace R0 := R0.drw
      replace R2 := R2.drw
      replace KB0 := KB0.drw
      replace FP4_0 := FP4_0.drw
      replace FT5 := FT5.drw
      replace KX6 := KX6.drw
      replace FT8 := FT8.drw
      replace FP9_0 := FP9_0.drw
      go_region_held3 (fun w' => w'.cell? ⟨w5.heap.size, 0, none⟩ = some (.int .i64 T5.p0) ∧ w'.cell? ⟨w5.heap.size, 1, none⟩ = some (.slice T5.A1 T5.n1 T5.c1) ∧ w'.cell? ⟨w5.heap.size, 2, none⟩ = some (.slice T5.A2 T5.n2 T5.c2) ∧ w'.cell? ⟨w5.heap.size, 3, none⟩ = some (.slice T5.A3 T5.n3 T5.c3) ∧ w'.cell? ⟨w5.heap.size, 4, none⟩ = some (.slice T5.A4 T5.n4 T5.c4) ∧ w'.cell? ⟨w5.heap.size, 5, none⟩ = some (.slice T5.A5 T5.n5 T5.c5) ∧ w'.cell? ⟨w5.heap.size, 6, none⟩ = some (.slice T5.A6 T5.n6 T5.c6) ∧ w'.cell? ⟨w5.heap.size, 7, none⟩ = some (.int .i64 T5.p7) ∧ w'.cell? ⟨w.heap.size, 0, none⟩ = some (.int .i64 x0.p0) ∧ w'.cell? ⟨w.heap.size, 1, none⟩ = some (.slice x0.A1 x0.n1 x0.c1) ∧ w'.cell? ⟨w.heap.size, 2, none⟩ = some (.slice x0.A2 x0.n2 x0.c2) ∧ w'.cell? ⟨w.heap.size, 3, none⟩ = some (.slice x0.A3 x0.n3 x0.c3) ∧ w'.cell? ⟨w.heap.size, 4, none⟩ = some (.slice x0.A4 x0.n4 x0.c4) ∧ w'.cell? ⟨w.heap.size, 5, none⟩ = some (.slice x0.A5 x0.n5 x0.c5) ∧ w'.cell? ⟨w.heap.size, 6, none⟩ = some (.slice x0.A6 x0.n6 x0.c6) ∧ w'.cell? ⟨w.heap.size, 7, none⟩ = some (.int .i64 x0.p7))
        (exact ⟨KX6.at_ rfl, KX6.at_ rfl, KX6.at_ rfl, KX6.at_ rfl, KX6.at_ rfl, KX6.at_ rfl, KX6.at_ rfl, KX6.at_ rfl, KB0.at_ rfl, KB0.at_ rfl, KB0.at_ rfl, KB0.at_ rfl, KB0.at_ rfl, KB0.at_ rfl, KB0.at_ rfl, KB0.at_ rfl⟩)
        (first
          | (go_at_call 9; (fail_if_success (have hx := B11)); refine Calls.mono (to_browser x0 _ _ _ (by omega) R0) ?_; rintro e w9 ⟨T11, rfl, ET11, FT11, B11⟩; (replace ET11 := Lib.hid ET11); (replace R0 := DBrowser.rd_nw B11 R0); (replace R2 := rd_nw B11 R2); (replace KB0 := box_nw B11 KB0); (replace FP4_0 := fr_nw B11 FP4_0); (replace FT5 := DBrowser.fr_nw B11 FT5); (replace KX6 := box_nw B11 KX6); (replace FT8 := fr_nw B11 FT8); (replace FP9_0 := fr_nw B11 FP9_0); (replace G := (by first | exact below_trans G B11 (Nat.le_refl _) | exact below_trans G.drew B11 (Nat.le_refl _) | exact below_trans (below_dN G _) B11 (Nat.le_refl _))); (have S9 := Lib.hid (show w8.heap.size ≤ w9.heap.size from B11.size)))
          | (go_at_call 13; (fail_if_success (have hx := B12)); refine Calls.mono (eq_browser_same T5 T11 _ _ _ _ _ (Eq.trans ET11.out (Eq.symm ET5.out)) (by rw [ET5.out]; omega) FT5.rd FT11.rd) ?_; rintro e w10 ⟨rfl, B12⟩; (replace R0 := DBrowser.rd_nw B12 R0); (replace R2 := rd_nw B12 R2); (replace KB0 := box_nw B12 KB0); (replace FP4_0 := fr_nw B12 FP4_0); (replace FT5 := DBrowser.fr_nw B12 FT5); (replace KX6 := box_nw B12 KX6); (replace FT8 := fr_nw B12 FT8); (replace FP9_0 := fr_nw B12 FP9_0); (replace FT11 := DBrowser.fr_nw B12 FT11); (replace G := (by first | exact below_trans G B12 (Nat.le_refl _) | exact below_trans G.drew B12 (Nat.le_refl _) | exact below_trans (below_dN G _) B12 (Nat.le_refl _))); (have S10 := Lib.hid (show w9.heap.size ≤ w10.heap.size from B12.size))))
      clear B11
      clear B12
      clear FT11
      go_wp2_with fail
      refine Calls.mono (to_int l2 A2 n2 c2 _ _ _ (Nat.le_trans hqn2 (by decide)) R2) ?_
      rintro e w11 ⟨T13, tc13, rfl, FT13, B13⟩
      replace R0 := (R0).new B13
      replace R2 := (R2).new B13
      replace KB0 := (KB0).new B13
      replace FP4_0 := (FP4_0).new B13
      replace FT5 := (FT5).new B13
      replace KX6 := (KX6).new B13
      replace FT8 := (FT8).new B13
      replace FP9_0 := (FP9_0).new B13
      replace G := below_trans G B13 (Nat.le_refl _)
      have S11 := Lib.hid (show w10.heap.size + 0 ≤ w11.heap.size by have := B13.size; first | (simpa using this) | ((try simp at this); omega))
      clear B13
      go_wp2_with fail
      refine Calls.mono (eq_int_same l2 T8 T13 n2 n2 tc8 tc13 _ _ _ _ _ (by omega) (by omega) FT8.rd FT13.rd) ?_
      rintro e w12 hq
      obtain ⟨rfl, B14⟩ := hq.says
      replace R0 := (R0).new B14
      replace R2 := (R2).new B14
      replace KB0 := (KB0).new B14
      replace FP4_0 := (FP4_0).new B14
      replace FT5 := (FT5).new B14
      replace KX6 := (KX6).new B14
      replace FT8 := (FT8).new B14
      replace FP9_0 := (FP9_0).new B14
      replace FT13 := (FT13).new B14
      replace G := below_trans G B14 (Nat.le_refl _)
      have S12 := Lib.hid (show w11.heap.size + 0 ≤ w12.heap.size by have := B14.size; first | (simpa using this) | ((try simp at this); omega))
      clear B14
      clear FT13
      have xKX6_0 : w12.cell? ⟨w5.heap.size, 0, none⟩ = some (.int .i64 T5.p0) := KX6.at_ rfl
      have xKX6_1 : w12.cell? ⟨w5.heap.size, 1, none⟩ = some (.slice T5.A1 T5.n1 T5.c1) := KX6.at_ rfl
      have xKX6_2 : w12.cell? ⟨w5.heap.size, 2, none⟩ = some (.slice T5.A2 T5.n2 T5.c2) := KX6.at_ rfl
      have xKX6_3 : w12.cell? ⟨w5.heap.size, 3, none⟩ = some (.slice T5.A3 T5.n3 T5.c3) := KX6.at_ rfl
      have xKX6_4 : w12.cell? ⟨w5.heap.size, 4, none⟩ = some (.slice T5.A4 T5.n4 T5.c4) := KX6.at_ rfl
      have xKX6_5 : w12.cell? ⟨w5.heap.size, 5, none⟩ = some (.slice T5.A5 T5.n5 T5.c5) := KX6.at_ rfl
      have xKX6_6 : w12.cell? ⟨w5.heap.size, 6, none⟩ = some (.slice T5.A6 T5.n6 T5.c6) := KX6.at_ rfl
      have xKX6_7 : w12.cell? ⟨w5.heap.size, 7, none⟩ = some (.int .i64 T5.p7) := KX6.at_ rfl
      go_wp2_with fail
      refine Calls.mono (mark_browser T5 (1) w4.heap.size w5.heap.size _ (by have q1 := FT5.rd.cnt_le; rw [ET5.out] at q1; omega) (by rw [ET5.out]; omega) FT5 (by have := S0.out; have := S1.out; have := S2.out; have := S3.out; have := S4.out; have := S5.out; have := SA7.out; have := S6.out; have := S7.out; have := S8.out; have := S9.out; have := S10.out; have := S11.out; have := S12.out; omega)) ?_
      rintro e w13 ⟨rfl, B15⟩
      have CB15 : T5.cnt ≤ 8388608 := by have q1 := FT5.rd.cnt_le; rw [ET5.out] at q1; omega
      replace R0 := (R0).chg B15 (by have := S0.out; have := S1.out; have := S2.out; have := S3.out; have := S4.out; have := S5.out; have := SA7.out; have := S6.out; have := S7.out; have := S8.out; have := S9.out; have := S10.out; have := S11.out; have := S12.out; omega)
      replace R2 := (R2).chg B15 (by have := S0.out; have := S1.out; have := S2.out; have := S3.out; have := S4.out; have := S5.out; have := SA7.out; have := S6.out; have := S7.out; have := S8.out; have := S9.out; have := S10.out; have := S11.out; have := S12.out; omega)
      replace KB0 := (KB0).chg B15 (by have := S0.out; have := S1.out; have := S2.out; have := S3.out; have := S4.out; have := S5.out; have := SA7.out; have := S6.out; have := S7.out; have := S8.out; have := S9.out; have := S10.out; have := S11.out; have := S12.out; omega)
      replace FP4_0 := (FP4_0).chg B15 (by have := S0.out; have := S1.out; have := S2.out; have := S3.out; have := S4.out; have := S5.out; have := SA7.out; have := S6.out; have := S7.out; have := S8.out; have := S9.out; have := S10.out; have := S11.out; have := S12.out; omega)
      replace KX6 := (KX6).chg B15 (by have := S0.out; have := S1.out; have := S2.out; have := S3.out; have := S4.out; have := S5.out; have := SA7.out; have := S6.out; have := S7.out; have := S8.out; have := S9.out; have := S10.out; have := S11.out; have := S12.out; omega)
      replace FT8 := (FT8).chg B15 (by have := S0.out; have := S1.out; have := S2.out; have := S3.out; have := S4.out; have := S5.out; have := SA7.out; have := S6.out; have := S7.out; have := S8.out; have := S9.out; have := S10.out; have := S11.out; have := S12.out; omega)
      replace FP9_0 := (FP9_0).chg B15 (by have := S0.out; have := S1.out; have := S2.out; have := S3.out; have := S4.out; have := S5.out; have := SA7.out; have := S6.out; have := S7.out; have := S8.out; have := S9.out; have := S10.out; have := S11.out; have := S12.out; omega)
      replace G := G.trans (B15.below (.inl (by have := S0.out; have := S1.out; have := S2.out; have := S3.out; have := S4.out; have := S5.out; have := SA7.out; have := S6.out; have := S7.out; have := S8.out; have := S9.out; have := S10.out; have := S11.out; have := S12.out; omega)) (by have := S0.out; have := S1.out; have := S2.out; have := S3.out; have := S4.out; have := S5.out; have := SA7.out; have := S6.out; have := S7.out; have := S8.out; have := S9.out; have := S10.out; have := S11.out; have := S12.out; first | omega | (simp; omega)))
      have S13 := Lib.hid (show w12.heap.size + 0 ≤ w13.heap.size by have := B15.size; first | (simpa using this) | ((try simp at this); omega))
      clear FT5
      clear B15
      clear xKX6_0 xKX6_1 xKX6_2 xKX6_3 xKX6_4 xKX6_5 xKX6_6 xKX6_7
      go_wp2_with fail
      refine Calls.mono (mark_int _ T8 n2 tc8 _ _ (1 + T5.cnt) _ (by omega) (by omega) FT8) ?_
      rintro e w14 ⟨rfl, FM16, B16, E16⟩
      replace R0 := (R0).chg B16 (by have := S0.out; have := S1.out; have := S2.out; have := S3.out; have := S4.out; have := S5.out; have := SA7.out; have := S6.out; have := S7.out; have := S8.out; have := S9.out; have := S10.out; have := S11.out; have := S12.out; have := S13.out; omega)
      replace R2 := (R2).chg B16 (by have := S0.out; have := S1.out; have := S2.out; have := S3.out; have := S4.out; have := S5.out; have := SA7.out; have := S6.out; have := S7.out; have := S8.out; have := S9.out; have := S10.out; have := S11.out; have := S12.out; have := S13.out; omega)
      replace KB0 := (KB0).chg B16 (by have := S0.out; have := S1.out; have := S2.out; have := S3.out; have := S4.out; have := S5.out; have := SA7.out; have := S6.out; have := S7.out; have := S8.out; have := S9.out; have := S10.out; have := S11.out; have := S12.out; have := S13.out; omega)
      replace FP4_0 := (FP4_0).chg B16 (by have := S0.out; have := S1.out; have := S2.out; have := S3.out; have := S4.out; have := S5.out; have := SA7.out; have := S6.out; have := S7.out; have := S8.out; have := S9.out; have := S10.out; have := S11.out; have := S12.out; have := S13.out; omega)
      replace KX6 := (KX6).chg B16 (by have := S0.out; have := S1.out; have := S2.out; have := S3.out; have := S4.out; have := S5.out; have := SA7.out; have := S6.out; have := S7.out; have := S8.out; have := S9.out; have := S10.out; have := S11.out; have := S12.out; have := S13.out; omega)
      replace FP9_0 := (FP9_0).chg B16 (by have := S0.out; have := S1.out; have := S2.out; have := S3.out; have := S4.out; have := S5.out; have := SA7.out; have := S6.out; have := S7.out; have := S8.out; have := S9.out; have := S10.out; have := S11.out; have := S12.out; have := S13.out; omega)
      replace G := G.trans (B16.below (.inl (by have := S0.out; have := S1.out; have := S2.out; have := S3.out; have := S4.out; have := S5.out; have := SA7.out; have := S6.out; have := S7.out; have := S8.out; have := S9.out; have := S10.out; have := S11.out; have := S12.out; have := S13.out; omega)) (by have := S0.out; have := S1.out; have := S2.out; have := S3.out; have := S4.out; have := S5.out; have := SA7.out; have := S6.out; have := S7.out; have := S8.out; have := S9.out; have := S10.out; have := S11.out; have := S12.out; have := S13.out; first | omega | (simp; omega)))
      have S14 := Lib.hid (show w13.heap.size + 0 ≤ w14.heap.size by have := B16.size; first | (simpa using this) | ((try simp at this); omega))
      clear FT8
      clear E16
      clear B16
      go_wp2_with fail
      refine Calls.mono (eq_int_same (mVals x0.dat a1 l2) P9_0 P4_0 ((mVals x0.dat a1 l2).length) ((mVals x0.dat a1 l2).length) pc9_0 pc4_0 _ _ _ _ _ (by omega) (by omega) FP9_0.rd FP4_0.rd) ?_
      rintro e w15 hq
      obtain ⟨rfl, B17⟩ := hq.says
      replace R0 := (R0).new B17
      replace R2 := (R2).new B17
      replace KB0 := (KB0).new B17
      replace FP4_0 := (FP4_0).new B17
      replace KX6 := (KX6).new B17
      replace FP9_0 := (FP9_0).new B17
      replace FM16 := (FM16).new B17
      replace G := below_trans G B17 (Nat.le_refl _)
      have S15 := Lib.hid (show w14.heap.size + 0 ≤ w15.heap.size by have := B17.size; first | (simpa using this) | ((try simp at this); omega))
      clear B17
      go_wp2_with fail
      refine Calls.mono (mark_int _ P9_0 ((mVals x0.dat a1 l2).length) pc9_0 _ _ (1) _ (by omega) (by omega) FP9_0) ?_
      rintro e w16 ⟨rfl, FM18, B18, E18⟩
      replace R0 := (R0).chg B18 (by have := S0.out; have := S1.out; have := S2.out; have := S3.out; have := S4.out; have := S5.out; have := SA7.out; have := S6.out; have := S7.out; have := S8.out; have := S9.out; have := S10.out; have := S11.out; have := S12.out; have := S13.out; have := S14.out; have := S15.out; omega)
      replace R2 := (R2).chg B18 (by have := S0.out; have := S1.out; have := S2.out; have := S3.out; have := S4.out; have := S5.out; have := SA7.out; have := S6.out; have := S7.out; have := S8.out; have := S9.out; have := S10.out; have := S11.out; have := S12.out; have := S13.out; have := S14.out; have := S15.out; omega)
      replace KB0 := (KB0).chg B18 (by have := S0.out; have := S1.out; have := S2.out; have := S3.out; have := S4.out; have := S5.out; have := SA7.out; have := S6.out; have := S7.out; have := S8.out; have := S9.out; have := S10.out; have := S11.out; have := S12.out; have := S13.out; have := S14.out; have := S15.out; omega)
      replace FP4_0 := (FP4_0).chg B18 (by have := S0.out; have := S1.out; have := S2.out; have := S3.out; have := S4.out; have := S5.out; have := SA7.out; have := S6.out; have := S7.out; have := S8.out; have := S9.out; have := S10.out; have := S11.out; have := S12.out; have := S13.out; have := S14.out; have := S15.out; omega)
      replace KX6 := (KX6).chg B18 (by have := S0.out; have := S1.out; have := S2.out; have := S3.out; have := S4.out; have := S5.out; have := SA7.out; have := S6.out; have := S7.out; have := S8.out; have := S9.out; have := S10.out; have := S11.out; have := S12.out; have := S13.out; have := S14.out; have := S15.out; omega)
      replace FM16 := (FM16).chg B18 (by have := S0.out; have := S1.out; have := S2.out; have := S3.out; have := S4.out; have := S5.out; have := SA7.out; have := S6.out; have := S7.out; have := S8.out; have := S9.out; have := S10.out; have := S11.out; have := S12.out; have := S13.out; have := S14.out; have := S15.out; omega)
      replace G := G.trans (B18.below (.inl (by have := S0.out; have := S1.out; have := S2.out; have := S3.out; have := S4.out; have := S5.out; have := SA7.out; have := S6.out; have := S7.out; have := S8.out; have := S9.out; have := S10.out; have := S11.out; have := S12.out; have := S13.out; have := S14.out; have := S15.out; omega)) (by have := S0.out; have := S1.out; have := S2.out; have := S3.out; have := S4.out; have := S5.out; have := SA7.out; have := S6.out; have := S7.out; have := S8.out; have := S9.out; have := S10.out; have := S11.out; have := S12.out; have := S13.out; have := S14.out; have := S15.out; first | omega | (simp; omega)))
      have S16 := Lib.hid (show w15.heap.size + 0 ≤ w16.heap.size by have := B18.size; first | (simpa using this) | ((try simp at this); omega))
      clear FP9_0
      clear E18
      clear B18
      go_wp2_with fail
      refine Calls.mono (held_int P9_0 ((mVals x0.dat a1 l2).length) pc9_0 _ _ (1) _ (by omega) (by omega) FM18.rd) ?_
      rintro e w17 hq
      obtain ⟨rfl, B19⟩ := hq.says
      replace R0 := (R0).new B19
      replace R2 := (R2).new B19
      replace KB0 := (KB0).new B19
      replace FP4_0 := (FP4_0).new B19
      replace KX6 := (KX6).new B19
      replace FM16 := (FM16).new B19
      replace FM18 := (FM18).new B19
      replace G := below_trans G B19 (Nat.le_refl _)
      have S17 := Lib.hid (show w16.heap.size + 0 ≤ w17.heap.size by have := B19.size; first | (simpa using this) | ((try simp at this); omega))
      clear B19
      have xKB0_0 : w17.cell? ⟨w.heap.size, 0, none⟩ = some (.int .i64 x0.p0) := KB0.at_ rfl
      have xKB0_1 : w17.cell? ⟨w.heap.size, 1, none⟩ = some (.slice x0.A1 x0.n1 x0.c1) := KB0.at_ rfl
      have xKB0_2 : w17.cell? ⟨w.heap.size, 2, none⟩ = some (.slice x0.A2 x0.n2 x0.c2) := KB0.at_ rfl
      have xKB0_3 : w17.cell? ⟨w.heap.size, 3, none⟩ = some (.slice x0.A3 x0.n3 x0.c3) := KB0.at_ rfl
      have xKB0_4 : w17.cell? ⟨w.heap.size, 4, none⟩ = some (.slice x0.A4 x0.n4 x0.c4) := KB0.at_ rfl
      have xKB0_5 : w17.cell? ⟨w.heap.size, 5, none⟩ = some (.slice x0.A5 x0.n5 x0.c5) := KB0.at_ rfl
      have xKB0_6 : w17.cell? ⟨w.heap.size, 6, none⟩ = some (.slice x0.A6 x0.n6 x0.c6) := KB0.at_ rfl
      have xKB0_7 : w17.cell? ⟨w.heap.size, 7, none⟩ = some (.int .i64 x0.p7) := KB0.at_ rfl
      go_wp2_with fail
      refine Calls.mono (to_browser x0 _ _ _ (by omega) R0) ?_
      rintro e w18 ⟨T20, rfl, ET20, FT20, B20⟩
      replace ET20 := Lib.hid ET20
      replace R0 := (R0).new B20
      replace R2 := (R2).new B20
      replace KB0 := (KB0).new B20
      replace FP4_0 := (FP4_0).new B20
      replace KX6 := (KX6).new B20
      replace FM16 := (FM16).new B20
      replace FM18 := (FM18).new B20
      replace G := below_trans G B20 (Nat.le_refl _)
      have S18 := Lib.hid (show w17.heap.size + 0 ≤ w18.heap.size by have := B20.size; first | (simpa using this) | ((try simp at this); omega))
      clear B20
      clear xKB0_0 xKB0_1 xKB0_2 xKB0_3 xKB0_4 xKB0_5 xKB0_6 xKB0_7
      go_wp2_with fail
      refine Calls.mono (to_int l2 A2 n2 c2 _ _ _ (Nat.le_trans hqn2 (by decide)) R2) ?_
      rintro e w19 ⟨T21, tc21, rfl, FT21, B21⟩
      replace R0 := (R0).new B21
      replace R2 := (R2).new B21
      replace KB0 := (KB0).new B21
      replace FP4_0 := (FP4_0).new B21
      replace KX6 := (KX6).new B21
      replace FM16 := (FM16).new B21
      replace FM18 := (FM18).new B21
      replace FT20 := (FT20).new B21
      replace G := below_trans G B21 (Nat.le_refl _)
      have S19 := Lib.hid (show w18.heap.size + 0 ≤ w19.heap.size by have := B21.size; first | (simpa using this) | ((try simp at this); omega))
      clear B21
      go_wp2_with fail
      refine Calls.mono (impl_ValuesForC T20 x0.dat _ _ a1 l2 T21 n2 tc21 _ _ _ ET20.out (by omega) H0.out FT20.rd FT20.caps (by omega) FT21.rd FT21.cap H2) ?_
      rintro e w20 ⟨P22_0, pc22_0, rfl, FP22_0, B22⟩
      replace R0 := (R0).new B22
      replace R2 := (R2).new B22
      replace KB0 := (KB0).new B22
      replace FP4_0 := (FP4_0).new B22
      replace KX6 := (KX6).new B22
      replace FM16 := (FM16).new B22
      replace FM18 := (FM18).new B22
      replace FT20 := (FT20).new B22
      replace FT21 := (FT21).new B22
      replace G := below_trans G B22 (Nat.le_refl _)
      have S20 := Lib.hid (show w19.heap.size + 0 ≤ w20.heap.size by have := B22.size; first | (simpa using this) | ((try simp at this); omega))
      clear B22
      go_wp2_with fail
      refine Calls.mono (eq_int_same (mVals x0.dat a1 l2) P22_0 P4_0 ((mVals x0.dat a1 l2).length) ((mVals x0.dat a1 l2).length) pc22_0 pc4_0 _ _ _ _ _ (by omega) (by omega) FP22_0.rd FP4_0.rd) ?_
      rintro e w21 hq
      obtain ⟨rfl, B23⟩ := hq.says
      replace R0 := (R0).new B23
      replace R2 := (R2).new B23
      replace KB0 := (KB0).new B23
      replace FP4_0 := (FP4_0).new B23
      replace KX6 := (KX6).new B23
      replace FM16 := (FM16).new B23
      replace FM18 := (FM18).new B23
      replace FT20 := (FT20).new B23
      replace FT21 := (FT21).new B23
      replace FP22_0 := (FP22_0).new B23
      replace G := below_trans G B23 (Nat.le_refl _)
      have S21 := Lib.hid (show w20.heap.size + 0 ≤ w21.heap.size by have := B23.size; first | (simpa using this) | ((try simp at this); omega))
      clear B23
      go_wp2_with fail
      refine Calls.mono (held_int P9_0 ((mVals x0.dat a1 l2).length) pc9_0 _ _ (1) _ (by omega) (by omega) FM18.rd) ?_
      rintro e w22 hq
      obtain ⟨rfl, B24⟩ := hq.says
      replace R0 := (R0).new B24
      replace R2 := (R2).new B24
      replace KB0 := (KB0).new B24
      replace FP4_0 := (FP4_0).new B24
      replace KX6 := (KX6).new B24
      replace FM16 := (FM16).new B24
      replace FM18 := (FM18).new B24
      replace FT20 := (FT20).new B24
      replace FT21 := (FT21).new B24
      replace FP22_0 := (FP22_0).new B24
      replace G := below_trans G B24 (Nat.le_refl _)
      have S22 := Lib.hid (show w21.heap.size + 0 ≤ w22.heap.size by have := B24.size; first | (simpa using this) | ((try simp at this); omega))
      clear B24
      go_wp2_with fail
      go_ret
      exact ⟨rfl, G⟩
    · skip
      have G : Below w.heap.size w (w.alloc (.cells #[.int .i64 x0.p0, .slice x0.A1 x0.n1 x0.c1, .slice x0.A2 x0.n2 x0.c2, .slice x0.A3 x0.n3 x0.c3, .slice x0.A4 x0.n4 x0.c4, .slice x0.A5 x0.n5 x0.c5, .slice x0.A6 x0.n6 x0.c6, .int .i64 x0.p7] 29)) := (Below.refl _ _).alloc (by simp) _
      have S0 := Lib.hid (show (w.alloc (.cells #[.int .i64 x0.p0, .slice x0.A1 x0.n1 x0.c1, .slice x0.A2 x0.n2 x0.c2, .slice x0.A3 x0.n3 x0.c3, .slice x0.A4 x0.n4 x0.c4, .slice x0.A5 x0.n5 x0.c5, .slice x0.A6 x0.n6 x0.c6, .int .i64 x0.p7] 29)).heap.size = w.heap.size + 1 by simp)
      replace R0 := R0.alloc (.cells #[.int .i64 x0.p0, .slice x0.A1 x0.n1 x0.c1, .slice x0.A2 x0.n2 x0.c2, .slice x0.A3 x0.n3 x0.c3, .slice x0.A4 x0.n4 x0.c4, .slice x0.A5 x0.n5 x0.c5, .slice x0.A6 x0.n6 x0.c6, .int .i64 x0.p7] 29)
      replace R2 := R2.alloc (.cells #[.int .i64 x0.p0, .slice x0.A1 x0.n1 x0.c1, .slice x0.A2 x0.n2 x0.c2, .slice x0.A3 x0.n3 x0.c3, .slice x0.A4 x0.n4 x0.c4, .slice x0.A5 x0.n5 x0.c5, .slice x0.A6 x0.n6 x0.c6, .int .i64 x0.p7] 29)
      have KB0 : BoxAt (w.alloc (.cells #[.int .i64 x0.p0, .slice x0.A1 x0.n1 x0.c1, .slice x0.A2 x0.n2 x0.c2, .slice x0.A3 x0.n3 x0.c3, .slice x0.A4 x0.n4 x0.c4, .slice x0.A5 x0.n5 x0.c5, .slice x0.A6 x0.n6 x0.c6, .int .i64 x0.p7] 29)) (w.heap.size) 29 #[.int .i64 x0.p0, .slice x0.A1 x0.n1 x0.c1, .slice x0.A2 x0.n2 x0.c2, .slice x0.A3 x0.n3 x0.c3, .slice x0.A4 x0.n4 x0.c4, .slice x0.A5 x0.n5 x0.c5, .slice x0.A6 x0.n6 x0.c6, .int .i64 x0.p7] := box_new _ _ _
      go_enter Tryz.func5, Tryz.ntmps5
      have xKB0_0 : (w.alloc (.cells #[.int .i64 x0.p0, .slice x0.A1 x0.n1 x0.c1, .slice x0.A2 x0.n2 x0.c2, .slice x0.A3 x0.n3 x0.c3, .slice x0.A4 x0.n4 x0.c4, .slice x0.A5 x0.n5 x0.c5, .slice x0.A6 x0.n6 x0.c6, .int .i64 x0.p7] 29)).cell? ⟨w.heap.size, 0, none⟩ = some (.int .i64 x0.p0) := KB0.at_ rfl
      have xKB0_1 : (w.alloc (.cells #[.int .i64 x0.p0, .slice x0.A1 x0.n1 x0.c1, .slice x0.A2 x0.n2 x0.c2, .slice x0.A3 x0.n3 x0.c3, .slice x0.A4 x0.n4 x0.c4, .slice x0.A5 x0.n5 x0.c5, .slice x0.A6 x0.n6 x0.c6, .int .i64 x0.p7] 29)).cell? ⟨w.heap.size, 1, none⟩ = some (.slice x0.A1 x0.n1 x0.c1) := KB0.at_ rfl
      have xKB0_2 : (w.alloc (.cells #[.int .i64 x0.p0, .slice x0.A1 x0.n1 x0.c1, .slice x0.A2 x0.n2 x0.c2, .slice x0.A3 x0.n3 x0.c3, .slice x0.A4 x0.n4 x0.c4, .slice x0.A5 x0.n5 x0.c5, .slice x0.A6 x0.n6 x0.c6, .int .i64 x0.p7] 29)).cell? ⟨w.heap.size, 2, none⟩ = some (.slice x0.A2 x0.n2 x0.c2) := KB0.at_ rfl
      have xKB0_3 : (w.alloc (.cells #[.int .i64 x0.p0, .slice x0.A1 x0.n1 x0.c1, .slice x0.A2 x0.n2 x0.c2, .slice x0.A3 x0.n3 x0.c3, .slice x0.A4 x0.n4 x0.c4, .slice x0.A5 x0.n5 x0.c5, .slice x0.A6 x0.n6 x0.c6, .int .i64 x0.p7] 29)).cell? ⟨w.heap.size, 3, none⟩ = some (.slice x0.A3 x0.n3 x0.c3) := KB0.at_ rfl
      have xKB0_4 : (w.alloc (.cells #[.int .i64 x0.p0, .slice x0.A1 x0.n1 x0.c1, .slice x0.A2 x0.n2 x0.c2, .slice x0.A3 x0.n3 x0.c3, .slice x0.A4 x0.n4 x0.c4, .slice x0.A5 x0.n5 x0.c5, .slice x0.A6 x0.n6 x0.c6, .int .i64 x0.p7] 29)).cell? ⟨w.heap.size, 4, none⟩ = some (.slice x0.A4 x0.n4 x0.c4) := KB0.at_ rfl
      have xKB0_5 : (w.alloc (.cells #[.int .i64 x0.p0, .slice x0.A1 x0.n1 x0.c1, .slice x0.A2 x0.n2 x0.c2, .slice x0.A3 x0.n3 x0.c3, .slice x0.A4 x0.n4 x0.c4, .slice x0.A5 x0.n5 x0.c5, .slice x0.A6 x0.n6 x0.c6, .int .i64 x0.p7] 29)).cell? ⟨w.heap.size, 5, none⟩ = some (.slice x0.A5 x0.n5 x0.c5) := KB0.at_ rfl
      have xKB0_6 : (w.alloc (.cells #[.int .i64 x0.p0, .slice x0.A1 x0.n1 x0.c1, .slice x0.A2 x0.n2 x0.c2, .slice x0.A3 x0.n3 x0.c3, .slice x0.A4 x0.n4 x0.c4, .slice x0.A5 x0.n5 x0.c5, .slice x0.A6 x0.n6 x0.c6, .int .i64 x0.p7] 29)).cell? ⟨w.heap.size, 6, none⟩ = some (.slice x0.A6 x0.n6 x0.c6) := KB0.at_ rfl
      have xKB0_7 : (w.alloc (.cells #[.int .i64 x0.p0, .slice x0.A1 x0.n1 x0.c1, .slice x0.A2 x0.n2 x0.c2, .slice x0.A3 x0.n3 x0.c3, .slice x0.A4 x0.n4 x0.c4, .slice x0.A5 x0.n5 x0.c5, .slice x0.A6 x0.n6 x0.c6, .int .i64 x0.p7] 29)).cell? ⟨w.heap.size, 7, none⟩ = some (.int .i64 x0.p7) := KB0.at_ rfl
      go_wp2_with fail
      refine Calls.mono (szno_browser x0 _ _ (1048576) _ R0 (by omega) (by omega) (by omega)) ?_
      rintro e w1 ⟨rfl, B25⟩
      clear xKB0_0 xKB0_1 xKB0_2 xKB0_3 xKB0_4 xKB0_5 xKB0_6 xKB0_7
      go_wp2_with fail
      go_ret
      exact ⟨rfl, below_trans G B25 (Nat.le_refl _)⟩
  · go_enter Tryz.func5, Tryz.ntmps5
    go_wp2_with fail
    go_ret
    exact ⟨rfl, by repeat (first | exact Below.refl _ _ | (refine Below.alloc ?_ (by simp <;> omega) _))⟩

set_option maxRecDepth 100000 in
theorem lifted (os : Os) (started : os.Started) (H : Type) (enc : TypeId × Value → H) :
    ReturnsInHanded {} Tryz.checked os 5 .any (Rows.fnExactValuesForSpec.pre6 enc Tryz.prog Tryz.f5 Rows.fnExactValuesForRow.domain false) (Rows.fnExactValuesForSpec.post enc Tryz.prog Tryz.f5 false true false false) := by
  refine law_lifted Tryz.func5 (by kernel_rfl) rfl rfl (by kernel_rfl) os started
    (ChangeSpec.witness6 (enc := enc) (C := Tryz.checked) false ⟨#[], #[.agg #[.int .i64 0, .slice none 0 0, .slice none 0 0, .slice none 0 0, .slice none 0 0, .slice none 0 0, .slice none 0 0, .int .i64 0], .int .i64 0, .slice none 0 0], []⟩ 8 (by kernel_rfl) (by kernel_rfl) (by kernel_rfl) (by kernel_rfl)) ?_
  intro W base args ds p hval hA hlt
  rw [Tryz.params5] at hA hval
  obtain ⟨v0, vs0, d0, ds0, p0, q0, hargs, rfl, rfl, h0, r0⟩ := trodAll_cons hA
  obtain ⟨v1, vs1, d1, ds1, p1, q1, rfl, rfl, rfl, h1, r1⟩ := trodAll_cons r0
  obtain ⟨v2, vs2, d2, ds2, p2, q2, rfl, rfl, rfl, h2, r2⟩ := trodAll_cons r1
  obtain ⟨rfl, rfl, rfl⟩ := trodAll_nil r2
  obtain rfl : args = #[v0, v1, v2] := by cases args; simp_all
  obtain ⟨x0, rfl, R0, H0⟩ := open_browser (hval 0 29 v0 rfl rfl) h0 (fun x hx => hlt x (by simp [hx]))
  obtain ⟨a1, rfl, rfl, rfl, wf1⟩ := open_int Tryz.underlying3 (hval 1 3 v1 rfl rfl) h1
  obtain ⟨A2, n2, c2, l2, rfl, m2, R2, H2⟩ := open_int_list (hval 2 33 v2 rfl rfl) h2 (fun x hx => hlt x (by simp [hx]))
  exact ⟨⟨rfl, rfl, rfl⟩, walk x0 a1 l2 A2 n2 c2 W R0 H0 wf1 m2 R2 H2⟩

theorem over : Rows.fnExactValuesForRow.holds Tryz.pinned (OpenSpec.ofChange Rows.fnExactValuesForSpec) :=
  OpenClaim.holds_of_wide 5 Tryz.f5 rfl rfl rfl rfl rfl rfl rfl ⟨rfl, rfl, rfl, rfl, rfl⟩ rfl rfl rfl rfl rfl (by kernel_rfl) Tryz.func5 (by kernel_rfl)
    (of_decide_eq_true (by kernel_rfl)) (by unfold Func.isWrapper; first | (rw [if_pos (by decide +kernel)]; kernel_rfl) | (rw [if_neg (by decide +kernel)]; exact ⟨rfl, rfl⟩))
    (fun os started H enc _ => lifted os started H enc)

theorem proved : Rows.FnExactValuesForSaid := over
#print axioms proved
end Go.Proofs.YtfhoemgpilpapaaGreat.fnExactValuesFor
