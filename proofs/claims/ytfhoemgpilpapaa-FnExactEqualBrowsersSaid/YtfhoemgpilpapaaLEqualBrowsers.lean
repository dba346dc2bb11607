/- The law FnExactEqualBrowsers answers true for every argument, and leaves each argument as it was. No condition. -/
import Derived.Deep.RegionHeld3
import Derived.Deep.DeepCutAuto
import Derived.Test.YtfhoemgpilpapaaDBrowser
import Derived.Test.YtfhoemgpilpapaaEqbS
namespace Go.Proofs.Ytfhoemgpilpapaa.fnExactEqualBrowsers
open Go Go.ChangeShapes Go.WideShapes Go.ChangeAt Go.RowKit Go.Lib
open Go.ChangeMaps (open_string)
set_option linter.unusedVariables false
set_option linter.unusedSimpArgs false
set_option maxRecDepth 100000

set_option maxRecDepth 100000 in
set_option maxHeartbeats 20000000 in
theorem walk (x0 : DBrowser) (x1 : DBrowser) (w : World) (R0 : x0.rd w 0 w.heap.size) (H0 : Hid x0.dat.ok) (R1 : x1.rd w 0 w.heap.size) (H1 : Hid x1.dat.ok) :
    Calls Try.prog 10 #[.agg #[.int .i64 x0.p0, .slice x0.A1 x0.n1 x0.c1, .slice x0.A2 x0.n2 x0.c2, .slice x0.A3 x0.n3 x0.c3, .slice x0.A4 x0.n4 x0.c4, .slice x0.A5 x0.n5 x0.c5, .slice x0.A6 x0.n6 x0.c6, .int .i64 x0.p7], .agg #[.int .i64 x1.p0, .slice x1.A1 x1.n1 x1.c1, .slice x1.A2 x1.n2 x1.c2, .slice x1.A3 x1.n3 x1.c3, .slice x1.A4 x1.n4 x1.c4, .slice x1.A5 x1.n5 x1.c5, .slice x1.A6 x1.n6 x1.c6, .int .i64 x1.p7]] w fun e w' => e = .returned (.bool true) ∧ Below w.heap.size w w' := by
  by_cases hz0 : x0.dat.sz ≤ 1048576
  · skip
    by_cases hz1 : x0.dat.sz + x1.dat.sz ≤ 1048576
    · skip
      have G : Below w.heap.size w ((w.alloc (.cells #[.int .i64 x0.p0, .slice x0.A1 x0.n1 x0.c1, .slice x0.A2 x0.n2 x0.c2, .slice x0.A3 x0.n3 x0.c3, .slice x0.A4 x0.n4 x0.c4, .slice x0.A5 x0.n5 x0.c5, .slice x0.A6 x0.n6 x0.c6, .int .i64 x0.p7] 29)).alloc (.cells #[.int .i64 x1.p0, .slice x1.A1 x1.n1 x1.c1, .slice x1.A2 x1.n2 x1.c2, .slice x1.A3 x1.n3 x1.c3, .slice x1.A4 x1.n4 x1.c4, .slice x1.A5 x1.n5 x1.c5, .slice x1.A6 x1.n6 x1.c6, .int .i64 x1.p7] 29)) := ((Below.refl _ _).alloc (by simp) _).alloc (by simp) _
      have S0 := Lib.hid (show ((w.alloc (.cells #[.int .i64 x0.p0, .slice x0.A1 x0.n1 x0.c1, .slice x0.A2 x0.n2 x0.c2, .slice x0.A3 x0.n3 x0.c3, .slice x0.A4 x0.n4 x0.c4, .slice x0.A5 x0.n5 x0.c5, .slice x0.A6 x0.n6 x0.c6, .int .i64 x0.p7] 29)).alloc (.cells #[.int .i64 x1.p0, .slice x1.A1 x1.n1 x1.c1, .slice x1.A2 x1.n2 x1.c2, .slice x1.A3 x1.n3 x1.c3, .slice x1.A4 x1.n4 x1.c4, .slice x1.A5 x1.n5 x1.c5, .slice x1.A6 x1.n6 x1.c6, .int .i64 x1.p7] 29)).heap.size = w.heap.size + 2 by simp)
      replace R0 := R0.alloc (.cells #[.int .i64 x0.p0, .slice x0.A1 x0.n1 x0.c1, .slice x0.A2 x0.n2 x0.c2, .slice x0.A3 x0.n3 x0.c3, .slice x0.A4 x0.n4 x0.c4, .slice x0.A5 x0.n5 x0.c5, .slice x0.A6 x0.n6 x0.c6, .int .i64 x0.p7] 29)
      replace R1 := R1.alloc (.cells #[.int .i64 x0.p0, .slice x0.A1 x0.n1 x0.c1, .slice x0.A2 x0.n2 x0.c2, .slice x0.A3 x0.n3 x0.c3, .slice x0.A4 x0.n4 x0.c4, .slice x0.A5 x0.n5 x0.c5, .slice x0.A6 x0.n6 x0.c6, .int .i64 x0.p7] 29)
      have KB0 : BoxAt (w.alloc (.cells #[.int .i64 x0.p0, .slice x0.A1 x0.n1 x0.c1, .slice x0.A2 x0.n2 x0.c2, .slice x0.A3 x0.n3 x0.c3, .slice x0.A4 x0.n4 x0.c4, .slice x0.A5 x0.n5 x0.c5, .slice x0.A6 x0.n6 x0.c6, .int .i64 x0.p7] 29)) (w.heap.size) 29 #[.int .i64 x0.p0, .slice x0.A1 x0.n1 x0.c1, .slice x0.A2 x0.n2 x0.c2, .slice x0.A3 x0.n3 x0.c3, .slice x0.A4 x0.n4 x0.c4, .slice x0.A5 x0.n5 x0.c5, .slice x0.A6 x0.n6 x0.c6, .int .i64 x0.p7] := box_new _ _ _
      replace R0 := R0.alloc (.cells #[.int .i64 x1.p0, .slice x1.A1 x1.n1 x1.c1, .slice x1.A2 x1.n2 x1.c2, .slice x1.A3 x1.n3 x1.c3, .slice x1.A4 x1.n4 x1.c4, .slice x1.A5 x1.n5 x1.c5, .slice x1.A6 x1.n6 x1.c6, .int .i64 x1.p7] 29)
      replace R1 := R1.alloc (.cells #[.int .i64 x1.p0, .slice x1.A1 x1.n1 x1.c1, .slice x1.A2 x1.n2 x1.c2, .slice x1.A3 x1.n3 x1.c3, .slice x1.A4 x1.n4 x1.c4, .slice x1.A5 x1.n5 x1.c5, .slice x1.A6 x1.n6 x1.c6, .int .i64 x1.p7] 29)
      replace KB0 := KB0.alloc_ (.cells #[.int .i64 x1.p0, .slice x1.A1 x1.n1 x1.c1, .slice x1.A2 x1.n2 x1.c2, .slice x1.A3 x1.n3 x1.c3, .slice x1.A4 x1.n4 x1.c4, .slice x1.A5 x1.n5 x1.c5, .slice x1.A6 x1.n6 x1.c6, .int .i64 x1.p7] 29)
      have KB1 : BoxAt ((w.alloc (.cells #[.int .i64 x0.p0, .slice x0.A1 x0.n1 x0.c1, .slice x0.A2 x0.n2 x0.c2, .slice x0.A3 x0.n3 x0.c3, .slice x0.A4 x0.n4 x0.c4, .slice x0.A5 x0.n5 x0.c5, .slice x0.A6 x0.n6 x0.c6, .int .i64 x0.p7] 29)).alloc (.cells #[.int .i64 x1.p0, .slice x1.A1 x1.n1 x1.c1, .slice x1.A2 x1.n2 x1.c2, .slice x1.A3 x1.n3 x1.c3, .slice x1.A4 x1.n4 x1.c4, .slice x1.A5 x1.n5 x1.c5, .slice x1.A6 x1.n6 x1.c6, .int .i64 x1.p7] 29)) (w.heap.size + 1) 29 #[.int .i64 x1.p0, .slice x1.A1 x1.n1 x1.c1, .slice x1.A2 x1.n2 x1.c2, .slice x1.A3 x1.n3 x1.c3, .slice x1.A4 x1.n4 x1.c4, .slice x1.A5 x1.n5 x1.c5, .slice x1.A6 x1.n6 x1.c6, .int .i64 x1.p7] := by simpa using box_new (w.alloc (.cells #[.int .i64 x0.p0, .slice x0.A1 x0.n1 x0.c1, .slice x0.A2 x0.n2 x0.c2, .slice x0.A3 x0.n3 x0.c3, .slice x0.A4 x0.n4 x0.c4, .slice x0.A5 x0.n5 x0.c5, .slice x0.A6 x0.n6 x0.c6, .int .i64 x0.p7] 29)) 29 #[.int .i64 x1.p0, .slice x1.A1 x1.n1 x1.c1, .slice x1.A2 x1.n2 x1.c2, .slice x1.A3 x1.n3 x1.c3, .slice x1.A4 x1.n4 x1.c4, .slice x1.A5 x1.n5 x1.c5, .slice x1.A6 x1.n6 x1.c6, .int .i64 x1.p7]
      go_enter Try.func10, Try.ntmps10
      have xKB0_0 : ((w.alloc (.cells #[.int .i64 x0.p0, .slice x0.A1 x0.n1 x0.c1, .slice x0.A2 x0.n2 x0.c2, .slice x0.A3 x0.n3 x0.c3, .slice x0.A4 x0.n4 x0.c4, .slice x0.A5 x0.n5 x0.c5, .slice x0.A6 x0.n6 x0.c6, .int .i64 x0.p7] 29)).alloc (.cells #[.int .i64 x1.p0, .slice x1.A1 x1.n1 x1.c1, .slice x1.A2 x1.n2 x1.c2, .slice x1.A3 x1.n3 x1.c3, .slice x1.A4 x1.n4 x1.c4, .slice x1.A5 x1.n5 x1.c5, .slice x1.A6 x1.n6 x1.c6, .int .i64 x1.p7] 29)).cell? ⟨w.heap.size, 0, none⟩ = some (.int .i64 x0.p0) := KB0.at_ rfl
      have xKB0_1 : ((w.alloc (.cells #[.int .i64 x0.p0, .slice x0.A1 x0.n1 x0.c1, .slice x0.A2 x0.n2 x0.c2, .slice x0.A3 x0.n3 x0.c3, .slice x0.A4 x0.n4 x0.c4, .slice x0.A5 x0.n5 x0.c5, .slice x0.A6 x0.n6 x0.c6, .int .i64 x0.p7] 29)).alloc (.cells #[.int .i64 x1.p0, .slice x1.A1 x1.n1 x1.c1, .slice x1.A2 x1.n2 x1.c2, .slice x1.A3 x1.n3 x1.c3, .slice x1.A4 x1.n4 x1.c4, .slice x1.A5 x1.n5 x1.c5, .slice x1.A6 x1.n6 x1.c6, .int .i64 x1.p7] 29)).cell? ⟨w.heap.size, 1, none⟩ = some (.slice x0.A1 x0.n1 x0.c1) := KB0.at_ rfl
      have xKB0_2 : ((w.alloc (.cells #[.int .i64 x0.p0, .slice x0.A1 x0.n1 x0.c1, .slice x0.A2 x0.n2 x0.c2, .slice x0.A3 x0.n3 x0.c3, .slice x0.A4 x0.n4 x0.c4, .slice x0.A5 x0.n5 x0.c5, .slice x0.A6 x0.n6 x0.c6, .int .i64 x0.p7] 29)).alloc (.cells #[.int .i64 x1.p0, .slice x1.A1 x1.n1 x1.c1, .slice x1.A2 x1.n2 x1.c2, .slice x1.A3 x1.n3 x1.c3, .slice x1.A4 x1.n4 x1.c4, .slice x1.A5 x1.n5 x1.c5, .slice x1.A6 x1.n6 x1.c6, .int .i64 x1.p7] 29)).cell? ⟨w.heap.size, 2, none⟩ = some (.slice x0.A2 x0.n2 x0.c2) := KB0.at_ rfl
      have xKB0_3 : ((w.alloc (.cells #[.int .i64 x0.p0, .slice x0.A1 x0.n1 x0.c1, .slice x0.A2 x0.n2 x0.c2, .slice x0.A3 x0.n3 x0.c3, .slice x0.A4 x0.n4 x0.c4, .slice x0.A5 x0.n5 x0.c5, .slice x0.A6 x0.n6 x0.c6, .int .i64 x0.p7] 29)).alloc (.cells #[.int .i64 x1.p0, .slice x1.A1 x1.n1 x1.c1, .slice x1.A2 x1.n2 x1.c2, .slice x1.A3 x1.n3 x1.c3, .slice x1.A4 x1.n4 x1.c4, .slice x1.A5 x1.n5 x1.c5, .slice x1.A6 x1.n6 x1.c6, .int .i64 x1.p7] 29)).cell? ⟨w.heap.size, 3, none⟩ = some (.slice x0.A3 x0.n3 x0.c3) := KB0.at_ rfl
      have xKB0_4 : ((w.alloc (.cells #[.int .i64 x0.p0, .slice x0.A1 x0.n1 x0.c1, .slice x0.A2 x0.n2 x0.c2, .slice x0.A3 x0.n3 x0.c3, .slice x0.A4 x0.n4 x0.c4, .slice x0.A5 x0.n5 x0.c5, .slice x0.A6 x0.n6 x0.c6, .int .i64 x0.p7] 29)).alloc (.cells #[.int .i64 x1.p0, .slice x1.A1 x1.n1 x1.c1, .slice x1.A2 x1.n2 x1.c2, .slice x1.A3 x1.n3 x1.c3, .slice x1.A4 x1.n4 x1.c4, .slice x1.A5 x1.n5 x1.c5, .slice x1.A6 x1.n6 x1.c6, .int .i64 x1.p7] 29)).cell? ⟨w.heap.size, 4, none⟩ = some (.slice x0.A4 x0.n4 x0.c4) := KB0.at_ rfl
      have xKB0_5 : ((w.alloc (.cells #[.int .i64 x0.p0, .slice x0.A1 x0.n1 x0.c1, .slice x0.A2 x0.n2 x0.c2, .slice x0.A3 x0.n3 x0.c3, .slice x0.A4 x0.n4 x0.c4, .slice x0.A5 x0.n5 x0.c5, .slice x0.A6 x0.n6 x0.c6, .int .i64 x0.p7] 29)).alloc (.cells #[.int .i64 x1.p0, .slice x1.A1 x1.n1 x1.c1, .slice x1.A2 x1.n2 x1.c2, .slice x1.A3 x1.n3 x1.c3, .slice x1.A4 x1.n4 x1.c4, .slice x1.A5 x1.n5 x1.c5, .slice x1.A6 x1.n6 x1.c6, .int .i64 x1.p7] 29)).cell? ⟨w.heap.size, 5, none⟩ = some (.slice x0.A5 x0.n5 x0.c5) := KB0.at_ rfl
      have xKB0_6 : ((w.alloc (.cells #[.int .i64 x0.p0, .slice x0.A1 x0.n1 x0.c1, .slice x0.A2 x0.n2 x0.c2, .slice x0.A3 x0.n3 x0.c3, .slice x0.A4 x0.n4 x0.c4, .slice x0.A5 x0.n5 x0.c5, .slice x0.A6 x0.n6 x0.c6, .int .i64 x0.p7] 29)).alloc (.cells #[.int .i64 x1.p0, .slice x1.A1 x1.n1 x1.c1, .slice x1.A2 x1.n2 x1.c2, .slice x1.A3 x1.n3 x1.c3, .slice x1.A4 x1.n4 x1.c4, .slice x1.A5 x1.n5 x1.c5, .slice x1.A6 x1.n6 x1.c6, .int .i64 x1.p7] 29)).cell? ⟨w.heap.size, 6, none⟩ = some (.slice x0.A6 x0.n6 x0.c6) := KB0.at_ rfl
      have xKB0_7 : ((w.alloc (.cells #[.int .i64 x0.p0, .slice x0.A1 x0.n1 x0.c1, .slice x0.A2 x0.n2 x0.c2, .slice x0.A3 x0.n3 x0.c3, .slice x0.A4 x0.n4 x0.c4, .slice x0.A5 x0.n5 x0.c5, .slice x0.A6 x0.n6 x0.c6, .int .i64 x0.p7] 29)).alloc (.cells #[.int .i64 x1.p0, .slice x1.A1 x1.n1 x1.c1, .slice x1.A2 x1.n2 x1.c2, .slice x1.A3 x1.n3 x1.c3, .slice x1.A4 x1.n4 x1.c4, .slice x1.A5 x1.n5 x1.c5, .slice x1.A6 x1.n6 x1.c6, .int .i64 x1.p7] 29)).cell? ⟨w.heap.size, 7, none⟩ = some (.int .i64 x0.p7) := KB0.at_ rfl
      go_wp2_with fail
      refine Calls.mono (sz_browser x0 _ _ (1048576) _ R0 (by omega) (by omega)) ?_
      rintro e w1 ⟨rfl, B1⟩
      replace R0 := (R0).new B1
      replace R1 := (R1).new B1
      replace KB0 := (KB0).new B1
      replace KB1 := (KB1).new B1
      replace G := below_trans G B1 (Nat.le_refl _)
      have S1 := Lib.hid (show ((w.alloc (.cells #[.int .i64 x0.p0, .slice x0.A1 x0.n1 x0.c1, .slice x0.A2 x0.n2 x0.c2, .slice x0.A3 x0.n3 x0.c3, .slice x0.A4 x0.n4 x0.c4, .slice x0.A5 x0.n5 x0.c5, .slice x0.A6 x0.n6 x0.c6, .int .i64 x0.p7] 29)).alloc (.cells #[.int .i64 x1.p0, .slice x1.A1 x1.n1 x1.c1, .slice x1.A2 x1.n2 x1.c2, .slice x1.A3 x1.n3 x1.c3, .slice x1.A4 x1.n4 x1.c4, .slice x1.A5 x1.n5 x1.c5, .slice x1.A6 x1.n6 x1.c6, .int .i64 x1.p7] 29)).heap.size + 0 ≤ w1.heap.size by have := B1.size; first | (simpa using this) | ((try simp at this); omega))
      clear B1
      clear xKB0_0 xKB0_1 xKB0_2 xKB0_3 xKB0_4 xKB0_5 xKB0_6 xKB0_7
      have xKB1_0 : w1.cell? ⟨w.heap.size + 1, 0, none⟩ = some (.int .i64 x1.p0) := KB1.at_ rfl
      have xKB1_1 : w1.cell? ⟨w.heap.size + 1, 1, none⟩ = some (.slice x1.A1 x1.n1 x1.c1) := KB1.at_ rfl
      have xKB1_2 : w1.cell? ⟨w.heap.size + 1, 2, none⟩ = some (.slice x1.A2 x1.n2 x1.c2) := KB1.at_ rfl
      have xKB1_3 : w1.cell? ⟨w.heap.size + 1, 3, none⟩ = some (.slice x1.A3 x1.n3 x1.c3) := KB1.at_ rfl
      have xKB1_4 : w1.cell? ⟨w.heap.size + 1, 4, none⟩ = some (.slice x1.A4 x1.n4 x1.c4) := KB1.at_ rfl
      have xKB1_5 : w1.cell? ⟨w.heap.size + 1, 5, none⟩ = some (.slice x1.A5 x1.n5 x1.c5) := KB1.at_ rfl
      have xKB1_6 : w1.cell? ⟨w.heap.size + 1, 6, none⟩ = some (.slice x1.A6 x1.n6 x1.c6) := KB1.at_ rfl
      have xKB1_7 : w1.cell? ⟨w.heap.size + 1, 7, none⟩ = some (.int .i64 x1.p7) := KB1.at_ rfl
      go_wp2_with fail
      refine Calls.mono (sz_browser x1 _ _ (1048576 - (x0.dat.sz : Int)) _ R1 (by omega) (by omega)) ?_
      rintro e w2 ⟨rfl, B2⟩
      replace R0 := (R0).new B2
      replace R1 := (R1).new B2
      replace KB0 := (KB0).new B2
      replace KB1 := (KB1).new B2
      replace G := below_trans G B2 (Nat.le_refl _)
      have S2 := Lib.hid (show w1.heap.size + 0 ≤ w2.heap.size by have := B2.size; first | (simpa using this) | ((try simp at this); omega))
      clear B2
      clear xKB1_0 xKB1_1 xKB1_2 xKB1_3 xKB1_4 xKB1_5 xKB1_6 xKB1_7
      go_wp2_with fail
      replace G := G.drew
      replace R0 := R0.drw
      replace R1 := R1.drw
      replace KB0 := KB0.drw
      replace KB1 := KB1.drw
      go_region_held3 (fun w' => w'.cell? ⟨w.heap.size, 0, none⟩ = some (.int .i64 x0.p0) ∧ w'.cell? ⟨w.heap.size, 1, none⟩ = some (.slice x0.A1 x0.n1 x0.c1) ∧ w'.cell? ⟨w.heap.size, 2, none⟩ = some (.slice x0.A2 x0.n2 x0.c2) ∧ w'.cell? ⟨w.heap.size, 3, none⟩ = some (.slice x0.A3 x0.n3 x0.c3) ∧ w'.cell? ⟨w.heap.size, 4, none⟩ = some (.slice x0.A4 x0.n4 x0.c4) ∧ w'.cell? ⟨w.heap.size, 5, none⟩ = some (.slice x0.A5 x0.n5 x0.c5) ∧ w'.cell? ⟨w.heap.size, 6, none⟩ = some (.slice x0.A6 x0.n6 x0.c6) ∧ w'.cell? ⟨w.heap.size, 7, none⟩ = some (.int .i64 x0.p7) ∧ w'.cell? ⟨w.heap.size + 1, 0, none⟩ = some (.int .i64 x1.p0) ∧ w'.cell? ⟨w.heap.size + 1, 1, none⟩ = some (.slice x1.A1 x1.n1 x1.c1) ∧ w'.cell? ⟨w.heap.size + 1, 2, none⟩ = some (.slice x1.A2 x1.n2 x1.c2) ∧ w'.cell? ⟨w.heap.size + 1, 3, none⟩ = some (.slice x1.A3 x1.n3 x1.c3) ∧ w'.cell? ⟨w.heap.size + 1, 4, none⟩ = some (.slice x1.A4 x1.n4 x1.c4) ∧ w'.cell? ⟨w.heap.size + 1, 5, none⟩ = some (.slice x1.A5 x1.n5 x1.c5) ∧ w'.cell? ⟨w.heap.size + 1, 6, none⟩ = some (.slice x1.A6 x1.n6 x1.c6) ∧ w'.cell? ⟨w.heap.size + 1, 7, none⟩ = some (.int .i64 x1.p7))
        (exact ⟨KB0.at_ rfl, KB0.at_ rfl, KB0.at_ rfl, KB0.at_ rfl, KB0.at_ rfl, KB0.at_ rfl, KB0.at_ rfl, KB0.at_ rfl, KB1.at_ rfl, KB1.at_ rfl, KB1.at_ rfl, KB1.at_ rfl, KB1.at_ rfl, KB1.at_ rfl, KB1.at_ rfl, KB1.at_ rfl⟩)
        (first
          | (go_at_call 13; (fail_if_success (have hx := B3)); refine Calls.mono (to_browser x0 _ _ _ (by omega) R0) ?_; rintro e w3 ⟨T3, rfl, ET3, FT3, B3⟩; (replace ET3 := Lib.hid ET3); (replace R0 := DBrowser.rd_nw B3 R0); (replace R1 := DBrowser.rd_nw B3 R1); (replace KB0 := box_nw B3 KB0); (replace KB1 := box_nw B3 KB1); (replace G := (by first | exact below_trans G B3 (Nat.le_refl _) | exact below_trans G.drew B3 (Nat.le_refl _) | exact below_trans (below_dN G _) B3 (Nat.le_refl _))); (have S3 := Lib.hid (show w2.heap.size ≤ w3.heap.size from B3.size)))
          | (go_at_call 13; (fail_if_success (have hx := B4)); refine Calls.mono (to_browser x1 _ _ _ (by omega) R1) ?_; rintro e w4 ⟨T4, rfl, ET4, FT4, B4⟩; (replace ET4 := Lib.hid ET4); (replace R0 := DBrowser.rd_nw B4 R0); (replace R1 := DBrowser.rd_nw B4 R1); (replace KB0 := box_nw B4 KB0); (replace KB1 := box_nw B4 KB1); (replace FT3 := DBrowser.fr_nw B4 FT3); (replace G := (by first | exact below_trans G B4 (Nat.le_refl _) | exact below_trans G.drew B4 (Nat.le_refl _) | exact below_trans (below_dN G _) B4 (Nat.le_refl _))); (have S4 := Lib.hid (show w3.heap.size ≤ w4.heap.size from B4.size)))
          | (go_at_call 36; (fail_if_success (have hx := B5)); refine Calls.mono (spec_EqualBrowsers T3 x0.dat _ _ T4 x1.dat _ _ _ ET3.out (by omega) H0.out FT3.rd ET4.out (by omega) H1.out FT4.rd) ?_; rintro e w5 ⟨rfl, B5⟩; (replace R0 := DBrowser.rd_nw B5 R0); (replace R1 := DBrowser.rd_nw B5 R1); (replace KB0 := box_nw B5 KB0); (replace KB1 := box_nw B5 KB1); (replace FT3 := DBrowser.fr_nw B5 FT3); (replace FT4 := DBrowser.fr_nw B5 FT4); (replace G := (by first | exact below_trans G B5 (Nat.le_refl _) | exact below_trans G.drew B5 (Nat.le_refl _) | exact below_trans (below_dN G _) B5 (Nat.le_refl _))); (have S5 := Lib.hid (show w4.heap.size ≤ w5.heap.size from B5.size))))
      clear B3
      clear B4
      clear B5
      clear FT3
      clear FT4
      have xKB0_0 : w5.cell? ⟨w.heap.size, 0, none⟩ = some (.int .i64 x0.p0) := KB0.at_ rfl
      have xKB0_1 : w5.cell? ⟨w.heap.size, 1, none⟩ = some (.slice x0.A1 x0.n1 x0.c1) := KB0.at_ rfl
      have xKB0_2 : w5.cell? ⟨w.heap.size, 2, none⟩ = some (.slice x0.A2 x0.n2 x0.c2) := KB0.at_ rfl
      have xKB0_3 : w5.cell? ⟨w.heap.size, 3, none⟩ = some (.slice x0.A3 x0.n3 x0.c3) := KB0.at_ rfl
      have xKB0_4 : w5.cell? ⟨w.heap.size, 4, none⟩ = some (.slice x0.A4 x0.n4 x0.c4) := KB0.at_ rfl
      have xKB0_5 : w5.cell? ⟨w.heap.size, 5, none⟩ = some (.slice x0.A5 x0.n5 x0.c5) := KB0.at_ rfl
      have xKB0_6 : w5.cell? ⟨w.heap.size, 6, none⟩ = some (.slice x0.A6 x0.n6 x0.c6) := KB0.at_ rfl
      have xKB0_7 : w5.cell? ⟨w.heap.size, 7, none⟩ = some (.int .i64 x0.p7) := KB0.at_ rfl
      go_wp2_with fail
      refine Calls.mono (to_browser x0 _ _ _ (by omega) R0) ?_
      rintro e w6 ⟨T6, rfl, ET6, FT6, B6⟩
      replace ET6 := Lib.hid ET6
      replace R0 := (R0).new B6
      replace R1 := (R1).new B6
      replace KB0 := (KB0).new B6
      replace KB1 := (KB1).new B6
      replace G := below_trans G B6 (Nat.le_refl _)
      have S6 := Lib.hid (show w5.heap.size + 0 ≤ w6.heap.size by have := B6.size; first | (simpa using this) | ((try simp at this); omega))
      clear B6
      clear xKB0_0 xKB0_1 xKB0_2 xKB0_3 xKB0_4 xKB0_5 xKB0_6 xKB0_7
      have SA8 := Lib.hid (show (w6.alloc (.cells #[.int .i64 T6.p0, .slice T6.A1 T6.n1 T6.c1, .slice T6.A2 T6.n2 T6.c2, .slice T6.A3 T6.n3 T6.c3, .slice T6.A4 T6.n4 T6.c4, .slice T6.A5 T6.n5 T6.c5, .slice T6.A6 T6.n6 T6.c6, .int .i64 T6.p7] 40)).heap.size = w6.heap.size + 1 by simp)
      replace R0 := R0.alloc (.cells #[.int .i64 T6.p0, .slice T6.A1 T6.n1 T6.c1, .slice T6.A2 T6.n2 T6.c2, .slice T6.A3 T6.n3 T6.c3, .slice T6.A4 T6.n4 T6.c4, .slice T6.A5 T6.n5 T6.c5, .slice T6.A6 T6.n6 T6.c6, .int .i64 T6.p7] 40)
      replace R1 := R1.alloc (.cells #[.int .i64 T6.p0, .slice T6.A1 T6.n1 T6.c1, .slice T6.A2 T6.n2 T6.c2, .slice T6.A3 T6.n3 T6.c3, .slice T6.A4 T6.n4 T6.c4, .slice T6.A5 T6.n5 T6.c5, .slice T6.A6 T6.n6 T6.c6, .int .i64 T6.p7] 40)
      replace KB0 := KB0.alloc_ (.cells #[.int .i64 T6.p0, .slice T6.A1 T6.n1 T6.c1, .slice T6.A2 T6.n2 T6.c2, .slice T6.A3 T6.n3 T6.c3, .slice T6.A4 T6.n4 T6.c4, .slice T6.A5 T6.n5 T6.c5, .slice T6.A6 T6.n6 T6.c6, .int .i64 T6.p7] 40)
      replace KB1 := KB1.alloc_ (.cells #[.int .i64 T6.p0, .slice T6.A1 T6.n1 T6.c1, .slice T6.A2 T6.n2 T6.c2, .slice T6.A3 T6.n3 T6.c3, .slice T6.A4 T6.n4 T6.c4, .slice T6.A5 T6.n5 T6.c5, .slice T6.A6 T6.n6 T6.c6, .int .i64 T6.p7] 40)
      replace FT6 := FT6.alloc (.cells #[.int .i64 T6.p0, .slice T6.A1 T6.n1 T6.c1, .slice T6.A2 T6.n2 T6.c2, .slice T6.A3 T6.n3 T6.c3, .slice T6.A4 T6.n4 T6.c4, .slice T6.A5 T6.n5 T6.c5, .slice T6.A6 T6.n6 T6.c6, .int .i64 T6.p7] 40)
      have KX7 : BoxAt (w6.alloc (.cells #[.int .i64 T6.p0, .slice T6.A1 T6.n1 T6.c1, .slice T6.A2 T6.n2 T6.c2, .slice T6.A3 T6.n3 T6.c3, .slice T6.A4 T6.n4 T6.c4, .slice T6.A5 T6.n5 T6.c5, .slice T6.A6 T6.n6 T6.c6, .int .i64 T6.p7] 40)) (w6.heap.size) 40 #[.int .i64 T6.p0, .slice T6.A1 T6.n1 T6.c1, .slice T6.A2 T6.n2 T6.c2, .slice T6.A3 T6.n3 T6.c3, .slice T6.A4 T6.n4 T6.c4, .slice T6.A5 T6.n5 T6.c5, .slice T6.A6 T6.n6 T6.c6, .int .i64 T6.p7] := box_new _ _ _
      replace G := G.alloc (by have := S0.out; have := S1.out; have := S2.out; have := S3.out; have := S4.out; have := S5.out; have := S6.out; have := SA8.out; first | omega | (simp; omega)) (.cells #[.int .i64 T6.p0, .slice T6.A1 T6.n1 T6.c1, .slice T6.A2 T6.n2 T6.c2, .slice T6.A3 T6.n3 T6.c3, .slice T6.A4 T6.n4 T6.c4, .slice T6.A5 T6.n5 T6.c5, .slice T6.A6 T6.n6 T6.c6, .int .i64 T6.p7] 40)
      have xKB1_0 : (w6.alloc (.cells #[.int .i64 T6.p0, .slice T6.A1 T6.n1 T6.c1, .slice T6.A2 T6.n2 T6.c2, .slice T6.A3 T6.n3 T6.c3, .slice T6.A4 T6.n4 T6.c4, .slice T6.A5 T6.n5 T6.c5, .slice T6.A6 T6.n6 T6.c6, .int .i64 T6.p7] 40)).cell? ⟨w.heap.size + 1, 0, none⟩ = some (.int .i64 x1.p0) := KB1.at_ rfl
      have xKB1_1 : (w6.alloc (.cells #[.int .i64 T6.p0, .slice T6.A1 T6.n1 T6.c1, .slice T6.A2 T6.n2 T6.c2, .slice T6.A3 T6.n3 T6.c3, .slice T6.A4 T6.n4 T6.c4, .slice T6.A5 T6.n5 T6.c5, .slice T6.A6 T6.n6 T6.c6, .int .i64 T6.p7] 40)).cell? ⟨w.heap.size + 1, 1, none⟩ = some (.slice x1.A1 x1.n1 x1.c1) := KB1.at_ rfl
      have xKB1_2 : (w6.alloc (.cells #[.int .i64 T6.p0, .slice T6.A1 T6.n1 T6.c1, .slice T6.A2 T6.n2 T6.c2, .slice T6.A3 T6.n3 T6.c3, .slice T6.A4 T6.n4 T6.c4, .slice T6.A5 T6.n5 T6.c5, .slice T6.A6 T6.n6 T6.c6, .int .i64 T6.p7] 40)).cell? ⟨w.heap.size + 1, 2, none⟩ = some (.slice x1.A2 x1.n2 x1.c2) := KB1.at_ rfl
      have xKB1_3 : (w6.alloc (.cells #[.int .i64 T6.p0, .slice T6.A1 T6.n1 T6.c1, .slice T6.A2 T6.n2 T6.c2, .slice T6.A3 T6.n3 T6.c3, .slice T6.A4 T6.n4 T6.c4, .slice T6.A5 T6.n5 T6.c5, .slice T6.A6 T6.n6 T6.c6, .int .i64 T6.p7] 40)).cell? ⟨w.heap.size + 1, 3, none⟩ = some (.slice x1.A3 x1.n3 x1.c3) := KB1.at_ rfl
      have xKB1_4 : (w6.alloc (.cells #[.int .i64 T6.p0, .slice T6.A1 T6.n1 T6.c1, .slice T6.A2 T6.n2 T6.c2, .slice T6.A3 T6.n3 T6.c3, .slice T6.A4 T6.n4 T6.c4, .slice T6.A5 T6.n5 T6.c5, .slice T6.A6 T6.n6 T6.c6, .int .i64 T6.p7] 40)).cell? ⟨w.heap.size + 1, 4, none⟩ = some (.slice x1.A4 x1.n4 x1.c4) := KB1.at_ rfl
      have xKB1_5 : (w6.alloc (.cells #[.int .i64 T6.p0, .slice T6.A1 T6.n1 T6.c1, .slice T6.A2 T6.n2 T6.c2, .slice T6.A3 T6.n3 T6.c3, .slice T6.A4 T6.n4 T6.c4, .slice T6.A5 T6.n5 T6.c5, .slice T6.A6 T6.n6 T6.c6, .int .i64 T6.p7] 40)).cell? ⟨w.heap.size + 1, 5, none⟩ = some (.slice x1.A5 x1.n5 x1.c5) := KB1.at_ rfl
      have xKB1_6 : (w6.alloc (.cells #[.int .i64 T6.p0, .slice T6.A1 T6.n1 T6.c1, .slice T6.A2 T6.n2 T6.c2, .slice T6.A3 T6.n3 T6.c3, .slice T6.A4 T6.n4 T6.c4, .slice T6.A5 T6.n5 T6.c5, .slice T6.A6 T6.n6 T6.c6, .int .i64 T6.p7] 40)).cell? ⟨w.heap.size + 1, 6, none⟩ = some (.slice x1.A6 x1.n6 x1.c6) := KB1.at_ rfl
      have xKB1_7 : (w6.alloc (.cells #[.int .i64 T6.p0, .slice T6.A1 T6.n1 T6.c1, .slice T6.A2 T6.n2 T6.c2, .slice T6.A3 T6.n3 T6.c3, .slice T6.A4 T6.n4 T6.c4, .slice T6.A5 T6.n5 T6.c5, .slice T6.A6 T6.n6 T6.c6, .int .i64 T6.p7] 40)).cell? ⟨w.heap.size + 1, 7, none⟩ = some (.int .i64 x1.p7) := KB1.at_ rfl
      go_wp2_with fail
      refine Calls.mono (to_browser x1 _ _ _ (by omega) R1) ?_
      rintro e w7 ⟨T9, rfl, ET9, FT9, B9⟩
      replace ET9 := Lib.hid ET9
      replace R0 := (R0).new B9
      replace R1 := (R1).new B9
      replace KB0 := (KB0).new B9
      replace KB1 := (KB1).new B9
      replace FT6 := (FT6).new B9
      replace KX7 := (KX7).new B9
      replace G := below_trans G B9 (Nat.le_refl _)
      have S7 := Lib.hid (show (w6.alloc (.cells #[.int .i64 T6.p0, .slice T6.A1 T6.n1 T6.c1, .slice T6.A2 T6.n2 T6.c2, .slice T6.A3 T6.n3 T6.c3, .slice T6.A4 T6.n4 T6.c4, .slice T6.A5 T6.n5 T6.c5, .slice T6.A6 T6.n6 T6.c6, .int .i64 T6.p7] 40)).heap.size + 0 ≤ w7.heap.size by have := B9.size; first | (simpa using this) | ((try simp at this); omega))
      clear B9
      clear xKB1_0 xKB1_1 xKB1_2 xKB1_3 xKB1_4 xKB1_5 xKB1_6 xKB1_7
      have SA11 := Lib.hid (show (w7.alloc (.cells #[.int .i64 T9.p0, .slice T9.A1 T9.n1 T9.c1, .slice T9.A2 T9.n2 T9.c2, .slice T9.A3 T9.n3 T9.c3, .slice T9.A4 T9.n4 T9.c4, .slice T9.A5 T9.n5 T9.c5, .slice T9.A6 T9.n6 T9.c6, .int .i64 T9.p7] 40)).heap.size = w7.heap.size + 1 by simp)
      replace R0 := R0.alloc (.cells #[.int .i64 T9.p0, .slice T9.A1 T9.n1 T9.c1, .slice T9.A2 T9.n2 T9.c2, .slice T9.A3 T9.n3 T9.c3, .slice T9.A4 T9.n4 T9.c4, .slice T9.A5 T9.n5 T9.c5, .slice T9.A6 T9.n6 T9.c6, .int .i64 T9.p7] 40)
      replace R1 := R1.alloc (.cells #[.int .i64 T9.p0, .slice T9.A1 T9.n1 T9.c1, .slice T9.A2 T9.n2 T9.c2, .slice T9.A3 T9.n3 T9.c3, .slice T9.A4 T9.n4 T9.c4, .slice T9.A5 T9.n5 T9.c5, .slice T9.A6 T9.n6 T9.c6, .int .i64 T9.p7] 40)
      replace KB0 := KB0.alloc_ (.cells #[.int .i64 T9.p0, .slice T9.A1 T9.n1 T9.c1, .slice T9.A2 T9.n2 T9.c2, .slice T9.A3 T9.n3 T9.c3, .slice T9.A4 T9.n4 T9.c4, .slice T9.A5 T9.n5 T9.c5, .slice T9.A6 T9.n6 T9.c6, .int .i64 T9.p7] 40)
      replace KB1 := KB1.alloc_ (.cells #[.int .i64 T9.p0, .slice T9.A1 T9.n1 T9.c1, .slice T9.A2 T9.n2 T9.c2, .slice T9.A3 T9.n3 T9.c3, .slice T9.A4 T9.n4 T9.c4, .slice T9.A5 T9.n5 T9.c5, .slice T9.A6 T9.n6 T9.c6, .int .i64 T9.p7] 40)
      replace FT6 := FT6.alloc (.cells #[.int .i64 T9.p0, .slice T9.A1 T9.n1 T9.c1, .slice T9.A2 T9.n2 T9.c2, .slice T9.A3 T9.n3 T9.c3, .slice T9.A4 T9.n4 T9.c4, .slice T9.A5 T9.n5 T9.c5, .slice T9.A6 T9.n6 T9.c6, .int .i64 T9.p7] 40)
      replace KX7 := KX7.alloc_ (.cells #[.int .i64 T9.p0, .slice T9.A1 T9.n1 T9.c1, .slice T9.A2 T9.n2 T9.c2, .slice T9.A3 T9.n3 T9.c3, .slice T9.A4 T9.n4 T9.c4, .slice T9.A5 T9.n5 T9.c5, .slice T9.A6 T9.n6 T9.c6, .int .i64 T9.p7] 40)
      replace FT9 := FT9.alloc (.cells #[.int .i64 T9.p0, .slice T9.A1 T9.n1 T9.c1, .slice T9.A2 T9.n2 T9.c2, .slice T9.A3 T9.n3 T9.c3, .slice T9.A4 T9.n4 T9.c4, .slice T9.A5 T9.n5 T9.c5, .slice T9.A6 T9.n6 T9.c6, .int .i64 T9.p7] 40)
      have KX10 : BoxAt (w7.alloc (.cells #[.int .i64 T9.p0, .slice T9.A1 T9.n1 T9.c1, .slice T9.A2 T9.n2 T9.c2, .slice T9.A3 T9.n3 T9.c3, .slice T9.A4 T9.n4 T9.c4, .slice T9.A5 T9.n5 T9.c5, .slice T9.A6 T9.n6 T9.c6, .int .i64 T9.p7] 40)) (w7.heap.size) 40 #[.int .i64 T9.p0, .slice T9.A1 T9.n1 T9.c1, .slice T9.A2 T9.n2 T9.c2, .slice T9.A3 T9.n3 T9.c3, .slice T9.A4 T9.n4 T9.c4, .slice T9.A5 T9.n5 T9.c5, .slice T9.A6 T9.n6 T9.c6, .int .i64 T9.p7] := box_new _ _ _
      replace G := G.alloc (by have := S0.out; have := S1.out; have := S2.out; have := S3.out; have := S4.out; have := S5.out; have := S6.out; have := SA8.out; have := S7.out; have := SA11.out; first | omega | (simp; omega)) (.cells #[.int .i64 T9.p0, .slice T9.A1 T9.n1 T9.c1, .slice T9.A2 T9.n2 T9.c2, .slice T9.A3 T9.n3 T9.c3, .slice T9.A4 T9.n4 T9.c4, .slice T9.A5 T9.n5 T9.c5, .slice T9.A6 T9.n6 T9.c6, .int .i64 T9.p7] 40)
      have xKX7_0 : (w7.alloc (.cells #[.int .i64 T9.p0, .slice T9.A1 T9.n1 T9.c1, .slice T9.A2 T9.n2 T9.c2, .slice T9.A3 T9.n3 T9.c3, .slice T9.A4 T9.n4 T9.c4, .slice T9.A5 T9.n5 T9.c5, .slice T9.A6 T9.n6 T9.c6, .int .i64 T9.p7] 40)).cell? ⟨w6.heap.size, 0, none⟩ = some (.int .i64 T6.p0) := KX7.at_ rfl
      have xKX7_1 : (w7.alloc (.cells #[.int .i64 T9.p0, .slice T9.A1 T9.n1 T9.c1, .slice T9.A2 T9.n2 T9.c2, .slice T9.A3 T9.n3 T9.c3, .slice T9.A4 T9.n4 T9.c4, .slice T9.A5 T9.n5 T9.c5, .slice T9.A6 T9.n6 T9.c6, .int .i64 T9.p7] 40)).cell? ⟨w6.heap.size, 1, none⟩ = some (.slice T6.A1 T6.n1 T6.c1) := KX7.at_ rfl
      have xKX7_2 : (w7.alloc (.cells #[.int .i64 T9.p0, .slice T9.A1 T9.n1 T9.c1, .slice T9.A2 T9.n2 T9.c2, .slice T9.A3 T9.n3 T9.c3, .slice T9.A4 T9.n4 T9.c4, .slice T9.A5 T9.n5 T9.c5, .slice T9.A6 T9.n6 T9.c6, .int .i64 T9.p7] 40)).cell? ⟨w6.heap.size, 2, none⟩ = some (.slice T6.A2 T6.n2 T6.c2) := KX7.at_ rfl
      have xKX7_3 : (w7.alloc (.cells #[.int .i64 T9.p0, .slice T9.A1 T9.n1 T9.c1, .slice T9.A2 T9.n2 T9.c2, .slice T9.A3 T9.n3 T9.c3, .slice T9.A4 T9.n4 T9.c4, .slice T9.A5 T9.n5 T9.c5, .slice T9.A6 T9.n6 T9.c6, .int .i64 T9.p7] 40)).cell? ⟨w6.heap.size, 3, none⟩ = some (.slice T6.A3 T6.n3 T6.c3) := KX7.at_ rfl
      have xKX7_4 : (w7.alloc (.cells #[.int .i64 T9.p0, .slice T9.A1 T9.n1 T9.c1, .slice T9.A2 T9.n2 T9.c2, .slice T9.A3 T9.n3 T9.c3, .slice T9.A4 T9.n4 T9.c4, .slice T9.A5 T9.n5 T9.c5, .slice T9.A6 T9.n6 T9.c6, .int .i64 T9.p7] 40)).cell? ⟨w6.heap.size, 4, none⟩ = some (.slice T6.A4 T6.n4 T6.c4) := KX7.at_ rfl
      have xKX7_5 : (w7.alloc (.cells #[.int .i64 T9.p0, .slice T9.A1 T9.n1 T9.c1, .slice T9.A2 T9.n2 T9.c2, .slice T9.A3 T9.n3 T9.c3, .slice T9.A4 T9.n4 T9.c4, .slice T9.A5 T9.n5 T9.c5, .slice T9.A6 T9.n6 T9.c6, .int .i64 T9.p7] 40)).cell? ⟨w6.heap.size, 5, none⟩ = some (.slice T6.A5 T6.n5 T6.c5) := KX7.at_ rfl
      have xKX7_6 : (w7.alloc (.cells #[.int .i64 T9.p0, .slice T9.A1 T9.n1 T9.c1, .slice T9.A2 T9.n2 T9.c2, .slice T9.A3 T9.n3 T9.c3, .slice T9.A4 T9.n4 T9.c4, .slice T9.A5 T9.n5 T9.c5, .slice T9.A6 T9.n6 T9.c6, .int .i64 T9.p7] 40)).cell? ⟨w6.heap.size, 6, none⟩ = some (.slice T6.A6 T6.n6 T6.c6) := KX7.at_ rfl
      have xKX7_7 : (w7.alloc (.cells #[.int .i64 T9.p0, .slice T9.A1 T9.n1 T9.c1, .slice T9.A2 T9.n2 T9.c2, .slice T9.A3 T9.n3 T9.c3, .slice T9.A4 T9.n4 T9.c4, .slice T9.A5 T9.n5 T9.c5, .slice T9.A6 T9.n6 T9.c6, .int .i64 T9.p7] 40)).cell? ⟨w6.heap.size, 7, none⟩ = some (.int .i64 T6.p7) := KX7.at_ rfl
      have xKX10_0 : (w7.alloc (.cells #[.int .i64 T9.p0, .slice T9.A1 T9.n1 T9.c1, .slice T9.A2 T9.n2 T9.c2, .slice T9.A3 T9.n3 T9.c3, .slice T9.A4 T9.n4 T9.c4, .slice T9.A5 T9.n5 T9.c5, .slice T9.A6 T9.n6 T9.c6, .int .i64 T9.p7] 40)).cell? ⟨w7.heap.size, 0, none⟩ = some (.int .i64 T9.p0) := KX10.at_ rfl
      have xKX10_1 : (w7.alloc (.cells #[.int .i64 T9.p0, .slice T9.A1 T9.n1 T9.c1, .slice T9.A2 T9.n2 T9.c2, .slice T9.A3 T9.n3 T9.c3, .slice T9.A4 T9.n4 T9.c4, .slice T9.A5 T9.n5 T9.c5, .slice T9.A6 T9.n6 T9.c6, .int .i64 T9.p7] 40)).cell? ⟨w7.heap.size, 1, none⟩ = some (.slice T9.A1 T9.n1 T9.c1) := KX10.at_ rfl
      have xKX10_2 : (w7.alloc (.cells #[.int .i64 T9.p0, .slice T9.A1 T9.n1 T9.c1, .slice T9.A2 T9.n2 T9.c2, .slice T9.A3 T9.n3 T9.c3, .slice T9.A4 T9.n4 T9.c4, .slice T9.A5 T9.n5 T9.c5, .slice T9.A6 T9.n6 T9.c6, .int .i64 T9.p7] 40)).cell? ⟨w7.heap.size, 2, none⟩ = some (.slice T9.A2 T9.n2 T9.c2) := KX10.at_ rfl
      have xKX10_3 : (w7.alloc (.cells #[.int .i64 T9.p0, .slice T9.A1 T9.n1 T9.c1, .slice T9.A2 T9.n2 T9.c2, .slice T9.A3 T9.n3 T9.c3, .slice T9.A4 T9.n4 T9.c4, .slice T9.A5 T9.n5 T9.c5, .slice T9.A6 T9.n6 T9.c6, .int .i64 T9.p7] 40)).cell? ⟨w7.heap.size, 3, none⟩ = some (.slice T9.A3 T9.n3 T9.c3) := KX10.at_ rfl
      have xKX10_4 : (w7.alloc (.cells #[.int .i64 T9.p0, .slice T9.A1 T9.n1 T9.c1, .slice T9.A2 T9.n2 T9.c2, .slice T9.A3 T9.n3 T9.c3, .slice T9.A4 T9.n4 T9.c4, .slice T9.A5 T9.n5 T9.c5, .slice T9.A6 T9.n6 T9.c6, .int .i64 T9.p7] 40)).cell? ⟨w7.heap.size, 4, none⟩ = some (.slice T9.A4 T9.n4 T9.c4) := KX10.at_ rfl
      have xKX10_5 : (w7.alloc (.cells #[.int .i64 T9.p0, .slice T9.A1 T9.n1 T9.c1, .slice T9.A2 T9.n2 T9.c2, .slice T9.A3 T9.n3 T9.c3, .slice T9.A4 T9.n4 T9.c4, .slice T9.A5 T9.n5 T9.c5, .slice T9.A6 T9.n6 T9.c6, .int .i64 T9.p7] 40)).cell? ⟨w7.heap.size, 5, none⟩ = some (.slice T9.A5 T9.n5 T9.c5) := KX10.at_ rfl
      have xKX10_6 : (w7.alloc (.cells #[.int .i64 T9.p0, .slice T9.A1 T9.n1 T9.c1, .slice T9.A2 T9.n2 T9.c2, .slice T9.A3 T9.n3 T9.c3, .slice T9.A4 T9.n4 T9.c4, .slice T9.A5 T9.n5 T9.c5, .slice T9.A6 T9.n6 T9.c6, .int .i64 T9.p7] 40)).cell? ⟨w7.heap.size, 6, none⟩ = some (.slice T9.A6 T9.n6 T9.c6) := KX10.at_ rfl
      have xKX10_7 : (w7.alloc (.cells #[.int .i64 T9.p0, .slice T9.A1 T9.n1 T9.c1, .slice T9.A2 T9.n2 T9.c2, .slice T9.A3 T9.n3 T9.c3, .slice T9.A4 T9.n4 T9.c4, .slice T9.A5 T9.n5 T9.c5, .slice T9.A6 T9.n6 T9.c6, .int .i64 T9.p7] 40)).cell? ⟨w7.heap.size, 7, none⟩ = some (.int .i64 T9.p7) := KX10.at_ rfl
      go_wp2_with fail
      refine Calls.mono (impl_EqualBrowsers T6 x0.dat _ _ T9 x1.dat _ _ _ ET6.out (by omega) H0.out FT6.rd ET9.out (by omega) H1.out FT9.rd) ?_
      rintro e w8 ⟨rfl, B12⟩
      replace R0 := (R0).new B12
      replace R1 := (R1).new B12
      replace KB0 := (KB0).new B12
      replace KB1 := (KB1).new B12
      replace FT6 := (FT6).new B12
      replace KX7 := (KX7).new B12
      replace FT9 := (FT9).new B12
      replace KX10 := (KX10).new B12
      replace G := below_trans G B12 (Nat.le_refl _)
      have S8 := Lib.hid (show (w7.alloc (.cells #[.int .i64 T9.p0, .slice T9.A1 T9.n1 T9.c1, .slice T9.A2 T9.n2 T9.c2, .slice T9.A3 T9.n3 T9.c3, .slice T9.A4 T9.n4 T9.c4, .slice T9.A5 T9.n5 T9.c5, .slice T9.A6 T9.n6 T9.c6, .int .i64 T9.p7] 40)).heap.size + 0 ≤ w8.heap.size by have := B12.size; first | (simpa using this) | ((try simp at this); omega))
      clear B12
      clear xKX7_0 xKX7_1 xKX7_2 xKX7_3 xKX7_4 xKX7_5 xKX7_6 xKX7_7 xKX10_0 xKX10_1 xKX10_2 xKX10_3 xKX10_4 xKX10_5 xKX10_6 xKX10_7
      go_wp2_with fail
      replace G := G.drew
      replace R0 := R0.drw
      replace R1 := R1.drw
      replace KB0 := KB0.drw
      replace KB1 := KB1.drw
      replace FT6 := FT6.drw
      replace KX7 := KX7.drw
      replace FT9 := FT9.drw
      replace KX10 := KX10.drw
      go_region_held3 (fun w' => w'.cell? ⟨w6.heap.size, 0, none⟩ = some (.int .i64 T6.p0) ∧ w'.cell? ⟨w6.heap.size, 1, none⟩ = some (.slice T6.A1 T6.n1 T6.c1) ∧ w'.cell? ⟨w6.heap.size, 2, none⟩ = some (.slice T6.A2 T6.n2 T6.c2) ∧ w'.cell? ⟨w6.heap.size, 3, none⟩ = some (.slice T6.A3 T6.n3 T6.c3) ∧ w'.cell? ⟨w6.heap.size, 4, none⟩ = some (.slice T6.A4 T6.n4 T6.c4) ∧ w'.cell? ⟨w6.heap.size, 5, none⟩ = some (.slice T6.A5 T6.n5 T6.c5) ∧ w'.cell? ⟨w6.heap.size, 6, none⟩ = some (.slice T6.A6 T6.n6 T6.c6) ∧ w'.cell? ⟨w6.heap.size, 7, none⟩ = some (.int .i64 T6.p7) ∧ w'.cell? ⟨w.heap.size, 0, none⟩ = some (.int .i64 x0.p0) ∧ w'.cell? ⟨w.heap.size, 1, none⟩ = some (.slice x0.A1 x0.n1 x0.c1) ∧ w'.cell? ⟨w.heap.size, 2, none⟩ = some (.slice x0.A2 x0.n2 x0.c2) ∧ w'.cell? ⟨w.heap.size, 3, none⟩ = some (.slice x0.A3 x0.n3 x0.c3) ∧ w'.cell? ⟨w.heap.size, 4, none⟩ = some (.slice x0.A4 x0.n4 x0.c4) ∧ w'.cell? ⟨w.heap.size, 5, none⟩ = some (.slice x0.A5 x0.n5 x0.c5) ∧ w'.cell? ⟨w.heap.size, 6, none⟩ = some (.slice x0.A6 x0.n6 x0.c6) ∧ w'.cell? ⟨w.heap.size, 7, none⟩ = some (.int .i64 x0.p7))
        (exact ⟨KX7.at_ rfl, KX7.at_ rfl, KX7.at_ rfl, KX7.at_ rfl, KX7.at_ rfl, KX7.at_ rfl, KX7.at_ rfl, KX7.at_ rfl, KB0.at_ rfl, KB0.at_ rfl, KB0.at_ rfl, KB0.at_ rfl, KB0.at_ rfl, KB0.at_ rfl, KB0.at_ rfl, KB0.at_ rfl⟩)
        (first
          | (go_at_call 13; (fail_if_success (have hx := B13)); refine Calls.mono (to_browser x0 _ _ _ (by omega) R0) ?_; rintro e w9 ⟨T13, rfl, ET13, FT13, B13⟩; (replace ET13 := Lib.hid ET13); (replace R0 := DBrowser.rd_nw B13 R0); (replace R1 := DBrowser.rd_nw B13 R1); (replace KB0 := box_nw B13 KB0); (replace KB1 := box_nw B13 KB1); (replace FT6 := DBrowser.fr_nw B13 FT6); (replace KX7 := box_nw B13 KX7); (replace FT9 := DBrowser.fr_nw B13 FT9); (replace KX10 := box_nw B13 KX10); (replace G := (by first | exact below_trans G B13 (Nat.le_refl _) | exact below_trans G.drew B13 (Nat.le_refl _) | exact below_trans (below_dN G _) B13 (Nat.le_refl _))); (have S9 := Lib.hid (show w8.heap.size ≤ w9.heap.size from B13.size)))
          | (go_at_call 16; (fail_if_success (have hx := B14)); refine Calls.mono (eq_browser_same T6 T13 _ _ _ _ _ (Eq.trans ET13.out (Eq.symm ET6.out)) (by rw [ET6.out]; omega) FT6.rd FT13.rd) ?_; rintro e w10 ⟨rfl, B14⟩; (replace R0 := DBrowser.rd_nw B14 R0); (replace R1 := DBrowser.rd_nw B14 R1); (replace KB0 := box_nw B14 KB0); (replace KB1 := box_nw B14 KB1); (replace FT6 := DBrowser.fr_nw B14 FT6); (replace KX7 := box_nw B14 KX7); (replace FT9 := DBrowser.fr_nw B14 FT9); (replace KX10 := box_nw B14 KX10); (replace FT13 := DBrowser.fr_nw B14 FT13); (replace G := (by first | exact below_trans G B14 (Nat.le_refl _) | exact below_trans G.drew B14 (Nat.le_refl _) | exact below_trans (below_dN G _) B14 (Nat.le_refl _))); (have S10 := Lib.hid (show w9.heap.size ≤ w10.heap.size from B14.size))))
      clear B13
      clear B14
      clear FT13
      go_wp2_with fail
      replace G := G.drew
      replace R0 := R0.drw
      replace R1 := R1.drw
      replace KB0 := KB0.drw
      replace KB1 := KB1.drw
      replace FT6 := FT6.drw
      replace KX7 := KX7.drw
      replace FT9 := FT9.drw
      replace KX10 := KX10.drw
      go_region_held3 (fun w' => w'.cell? ⟨w7.heap.size, 0, none⟩ = some (.int .i64 T9.p0) ∧ w'.cell? ⟨w7.heap.size, 1, none⟩ = some (.slice T9.A1 T9.n1 T9.c1) ∧ w'.cell? ⟨w7.heap.size, 2, none⟩ = some (.slice T9.A2 T9.n2 T9.c2) ∧ w'.cell? ⟨w7.heap.size, 3, none⟩ = some (.slice T9.A3 T9.n3 T9.c3) ∧ w'.cell? ⟨w7.heap.size, 4, none⟩ = some (.slice T9.A4 T9.n4 T9.c4) ∧ w'.cell? ⟨w7.heap.size, 5, none⟩ = some (.slice T9.A5 T9.n5 T9.c5) ∧ w'.cell? ⟨w7.heap.size, 6, none⟩ = some (.slice T9.A6 T9.n6 T9.c6) ∧ w'.cell? ⟨w7.heap.size, 7, none⟩ = some (.int .i64 T9.p7) ∧ w'.cell? ⟨w.heap.size + 1, 0, none⟩ = some (.int .i64 x1.p0) ∧ w'.cell? ⟨w.heap.size + 1, 1, none⟩ = some (.slice x1.A1 x1.n1 x1.c1) ∧ w'.cell? ⟨w.heap.size + 1, 2, none⟩ = some (.slice x1.A2 x1.n2 x1.c2) ∧ w'.cell? ⟨w.heap.size + 1, 3, none⟩ = some (.slice x1.A3 x1.n3 x1.c3) ∧ w'.cell? ⟨w.heap.size + 1, 4, none⟩ = some (.slice x1.A4 x1.n4 x1.c4) ∧ w'.cell? ⟨w.heap.size + 1, 5, none⟩ = some (.slice x1.A5 x1.n5 x1.c5) ∧ w'.cell? ⟨w.heap.size + 1, 6, none⟩ = some (.slice x1.A6 x1.n6 x1.c6) ∧ w'.cell? ⟨w.heap.size + 1, 7, none⟩ = some (.int .i64 x1.p7))
        (exact ⟨KX10.at_ rfl, KX10.at_ rfl, KX10.at_ rfl, KX10.at_ rfl, KX10.at_ rfl, KX10.at_ rfl, KX10.at_ rfl, KX10.at_ rfl, KB1.at_ rfl, KB1.at_ rfl, KB1.at_ rfl, KB1.at_ rfl, KB1.at_ rfl, KB1.at_ rfl, KB1.at_ rfl, KB1.at_ rfl⟩)
        (first
          | (go_at_call 13; (fail_if_success (have hx := B15)); refine Calls.mono (to_browser x1 _ _ _ (by omega) R1) ?_; rintro e w11 ⟨T15, rfl, ET15, FT15, B15⟩; (replace ET15 := Lib.hid ET15); (replace R0 := DBrowser.rd_nw B15 R0); (replace R1 := DBrowser.rd_nw B15 R1); (replace KB0 := box_nw B15 KB0); (replace KB1 := box_nw B15 KB1); (replace FT6 := DBrowser.fr_nw B15 FT6); (replace KX7 := box_nw B15 KX7); (replace FT9 := DBrowser.fr_nw B15 FT9); (replace KX10 := box_nw B15 KX10); (replace G := (by first | exact below_trans G B15 (Nat.le_refl _) | exact below_trans G.drew B15 (Nat.le_refl _) | exact below_trans (below_dN G _) B15 (Nat.le_refl _))); (have S11 := Lib.hid (show w10.heap.size ≤ w11.heap.size from B15.size)))
          | (go_at_call 16; (fail_if_success (have hx := B16)); refine Calls.mono (eq_browser_same T9 T15 _ _ _ _ _ (Eq.trans ET15.out (Eq.symm ET9.out)) (by rw [ET9.out]; omega) FT9.rd FT15.rd) ?_; rintro e w12 ⟨rfl, B16⟩; (replace R0 := DBrowser.rd_nw B16 R0); (replace R1 := DBrowser.rd_nw B16 R1); (replace KB0 := box_nw B16 KB0); (replace KB1 := box_nw B16 KB1); (replace FT6 := DBrowser.fr_nw B16 FT6); (replace KX7 := box_nw B16 KX7); (replace FT9 := DBrowser.fr_nw B16 FT9); (replace KX10 := box_nw B16 KX10); (replace FT15 := DBrowser.fr_nw B16 FT15); (replace G := (by first | exact below_trans G B16 (Nat.le_refl _) | exact below_trans G.drew B16 (Nat.le_refl _) | exact below_trans (below_dN G _) B16 (Nat.le_refl _))); (have S12 := Lib.hid (show w11.heap.size ≤ w12.heap.size from B16.size))))
      clear B15
      clear B16
      clear FT15
      go_wp2_with fail
      go_ret
      exact ⟨rfl, G⟩
    · skip
      have G : Below w.heap.size w ((w.alloc (.cells #[.int .i64 x0.p0, .slice x0.A1 x0.n1 x0.c1, .slice x0.A2 x0.n2 x0.c2, .slice x0.A3 x0.n3 x0.c3, .slice x0.A4 x0.n4 x0.c4, .slice x0.A5 x0.n5 x0.c5, .slice x0.A6 x0.n6 x0.c6, .int .i64 x0.p7] 29)).alloc (.cells #[.int .i64 x1.p0, .slice x1.A1 x1.n1 x1.c1, .slice x1.A2 x1.n2 x1.c2, .slice x1.A3 x1.n3 x1.c3, .slice x1.A4 x1.n4 x1.c4, .slice x1.A5 x1.n5 x1.c5, .slice x1.A6 x1.n6 x1.c6, .int .i64 x1.p7] 29)) := ((Below.refl _ _).alloc (by simp) _).alloc (by simp) _
      have S0 := Lib.hid (show ((w.alloc (.cells #[.int .i64 x0.p0, .slice x0.A1 x0.n1 x0.c1, .slice x0.A2 x0.n2 x0.c2, .slice x0.A3 x0.n3 x0.c3, .slice x0.A4 x0.n4 x0.c4, .slice x0.A5 x0.n5 x0.c5, .slice x0.A6 x0.n6 x0.c6, .int .i64 x0.p7] 29)).alloc (.cells #[.int .i64 x1.p0, .slice x1.A1 x1.n1 x1.c1, .slice x1.A2 x1.n2 x1.c2, .slice x1.A3 x1.n3 x1.c3, .slice x1.A4 x1.n4 x1.c4, .slice x1.A5 x1.n5 x1.c5, .slice x1.A6 x1.n6 x1.c6, .int .i64 x1.p7] 29)).heap.size = w.heap.size + 2 by simp)
      replace R0 := R0.alloc (.cells #[.int .i64 x0.p0, .slice x0.A1 x0.n1 x0.c1, .slice x0.A2 x0.n2 x0.c2, .slice x0.A3 x0.n3 x0.c3, .slice x0.A4 x0.n4 x0.c4, .slice x0.A5 x0.n5 x0.c5, .slice x0.A6 x0.n6 x0.c6, .int .i64 x0.p7] 29)
      replace R1 := R1.alloc (.cells #[.int .i64 x0.p0, .slice x0.A1 x0.n1 x0.c1, .slice x0.A2 x0.n2 x0.c2, .slice x0.A3 x0.n3 x0.c3, .slice x0.A4 x0.n4 x0.c4, .slice x0.A5 x0.n5 x0.c5, .slice x0.A6 x0.n6 x0.c6, .int .i64 x0.p7] 29)
      have KB0 : BoxAt (w.alloc (.cells #[.int .i64 x0.p0, .slice x0.A1 x0.n1 x0.c1, .slice x0.A2 x0.n2 x0.c2, .slice x0.A3 x0.n3 x0.c3, .slice x0.A4 x0.n4 x0.c4, .slice x0.A5 x0.n5 x0.c5, .slice x0.A6 x0.n6 x0.c6, .int .i64 x0.p7] 29)) (w.heap.size) 29 #[.int .i64 x0.p0, .slice x0.A1 x0.n1 x0.c1, .slice x0.A2 x0.n2 x0.c2, .slice x0.A3 x0.n3 x0.c3, .slice x0.A4 x0.n4 x0.c4, .slice x0.A5 x0.n5 x0.c5, .slice x0.A6 x0.n6 x0.c6, .int .i64 x0.p7] := box_new _ _ _
      replace R0 := R0.alloc (.cells #[.int .i64 x1.p0, .slice x1.A1 x1.n1 x1.c1, .slice x1.A2 x1.n2 x1.c2, .slice x1.A3 x1.n3 x1.c3, .slice x1.A4 x1.n4 x1.c4, .slice x1.A5 x1.n5 x1.c5, .slice x1.A6 x1.n6 x1.c6, .int .i64 x1.p7] 29)
      replace R1 := R1.alloc (.cells #[.int .i64 x1.p0, .slice x1.A1 x1.n1 x1.c1, .slice x1.A2 x1.n2 x1.c2, .slice x1.A3 x1.n3 x1.c3, .slice x1.A4 x1.n4 x1.c4, .slice x1.A5 x1.n5 x1.c5, .slice x1.A6 x1.n6 x1.c6, .int .i64 x1.p7] 29)
      replace KB0 := KB0.alloc_ (.cells #[.int .i64 x1.p0, .slice x1.A1 x1.n1 x1.c1, .slice x1.A2 x1.n2 x1.c2, .slice x1.A3 x1.n3 x1.c3, .slice x1.A4 x1.n4 x1.c4, .slice x1.A5 x1.n5 x1.c5, .slice x1.A6 x1.n6 x1.c6, .int .i64 x1.p7] 29)
      have KB1 : BoxAt ((w.alloc (.cells #[.int .i64 x0.p0, .slice x0.A1 x0.n1 x0.c1, .slice x0.A2 x0.n2 x0.c2, .slice x0.A3 x0.n3 x0.c3, .slice x0.A4 x0.n4 x0.c4, .slice x0.A5 x0.n5 x0.c5, .slice x0.A6 x0.n6 x0.c6, .int .i64 x0.p7] 29)).alloc (.cells #[.int .i64 x1.p0, .slice x1.A1 x1.n1 x1.c1, .slice x1.A2 x1.n2 x1.c2, .slice x1.A3 x1.n3 x1.c3, .slice x1.A4 x1.n4 x1.c4, .slice x1.A5 x1.n5 x1.c5, .slice x1.A6 x1.n6 x1.c6, .int .i64 x1.p7] 29)) (w.heap.size + 1) 29 #[.int .i64 x1.p0, .slice x1.A1 x1.n1 x1.c1, .slice x1.A2 x1.n2 x1.c2, .slice x1.A3 x1.n3 x1.c3, .slice x1.A4 x1.n4 x1.c4, .slice x1.A5 x1.n5 x1.c5, .slice x1.A6 x1.n6 x1.c6, .int .i64 x1.p7] := by simpa using box_new (w.alloc (.cells #[.int .i64 x0.p0, .slice x0.A1 x0.n1 x0.c1, .slice x0.A2 x0.n2 x0.c2, .slice x0.A3 x0.n3 x0.c3, .slice x0.A4 x0.n4 x0.c4, .slice x0.A5 x0.n5 x0.c5, .slice x0.A6 x0.n6 x0.c6, .int .i64 x0.p7] 29)) 29 #[.int .i64 x1.p0, .slice x1.A1 x1.n1 x1.c1, .slice x1.A2 x1.n2 x1.c2, .slice x1.A3 x1.n3 x1.c3, .slice x1.A4 x1.n4 x1.c4, .slice x1.A5 x1.n5 x1.c5, .slice x1.A6 x1.n6 x1.c6, .int .i64 x1.p7]
      go_enter Try.func10, Try.ntmps10
      have xKB0_0 : ((w.alloc (.cells #[.int .i64 x0.p0, .slice x0.A1 x0.n1 x0.c1, .slice x0.A2 x0.n2 x0.c2, .slice x0.A3 x0.n3 x0.c3, .slice x0.A4 x0.n4 x0.c4, .slice x0.A5 x0.n5 x0.c5, .slice x0.A6 x0.n6 x0.c6, .int .i64 x0.p7] 29)).alloc (.cells #[.int .i64 x1.p0, .slice x1.A1 x1.n1 x1.c1, .slice x1.A2 x1.n2 x1.c2, .slice x1.A3 x1.n3 x1.c3, .slice x1.A4 x1.n4 x1.c4, .slice x1.A5 x1.n5 x1.c5, .slice x1.A6 x1.n6 x1.c6, .int .i64 x1.p7] 29)).cell? ⟨w.heap.size, 0, none⟩ = some (.int .i64 x0.p0) := KB0.at_ rfl
      have xKB0_1 : ((w.alloc (.cells #[.int .i64 x0.p0, .slice x0.A1 x0.n1 x0.c1, .slice x0.A2 x0.n2 x0.c2, .slice x0.A3 x0.n3 x0.c3, .slice x0.A4 x0.n4 x0.c4, .slice x0.A5 x0.n5 x0.c5, .slice x0.A6 x0.n6 x0.c6, .int .i64 x0.p7] 29)).alloc (.cells #[.int .i64 x1.p0, .slice x1.A1 x1.n1 x1.c1, .slice x1.A2 x1.n2 x1.c2, .slice x1.A3 x1.n3 x1.c3, .slice x1.A4 x1.n4 x1.c4, .slice x1.A5 x1.n5 x1.c5, .slice x1.A6 x1.n6 x1.c6, .int .i64 x1.p7] 29)).cell? ⟨w.heap.size, 1, none⟩ = some (.slice x0.A1 x0.n1 x0.c1) := KB0.at_ rfl
      have xKB0_2 : ((w.alloc (.cells #[.int .i64 x0.p0, .slice x0.A1 x0.n1 x0.c1, .slice x0.A2 x0.n2 x0.c2, .slice x0.A3 x0.n3 x0.c3, .slice x0.A4 x0.n4 x0.c4, .slice x0.A5 x0.n5 x0.c5, .slice x0.A6 x0.n6 x0.c6, .int .i64 x0.p7] 29)).alloc (.cells #[.int .i64 x1.p0, .slice x1.A1 x1.n1 x1.c1, .slice x1.A2 x1.n2 x1.c2, .slice x1.A3 x1.n3 x1.c3, .slice x1.A4 x1.n4 x1.c4, .slice x1.A5 x1.n5 x1.c5, .slice x1.A6 x1.n6 x1.c6, .int .i64 x1.p7] 29)).cell? ⟨w.heap.size, 2, none⟩ = some (.slice x0.A2 x0.n2 x0.c2) := KB0.at_ rfl
      have xKB0_3 : ((w.alloc (.cells #[.int .i64 x0.p0, .slice x0.A1 x0.n1 x0.c1, .slice x0.A2 x0.n2 x0.c2, .slice x0.A3 x0.n3 x0.c3, .slice x0.A4 x0.n4 x0.c4, .slice x0.A5 x0.n5 x0.c5, .slice x0.A6 x0.n6 x0.c6, .int .i64 x0.p7] 29)).alloc (.cells #[.int .i64 x1.p0, .slice x1.A1 x1.n1 x1.c1, .slice x1.A2 x1.n2 x1.c2, .slice x1.A3 x1.n3 x1.c3, .slice x1.A4 x1.n4 x1.c4, .slice x1.A5 x1.n5 x1.c5, .slice x1.A6 x1.n6 x1.c6, .int .i64 x1.p7] 29)).cell? ⟨w.heap.size, 3, none⟩ = some (.slice x0.A3 x0.n3 x0.c3) := KB0.at_ rfl
      have xKB0_4 : ((w.alloc (.cells #[.int .i64 x0.p0, .slice x0.A1 x0.n1 x0.c1, .slice x0.A2 x0.n2 x0.c2, .slice x0.A3 x0.n3 x0.c3, .slice x0.A4 x0.n4 x0.c4, .slice x0.A5 x0.n5 x0.c5, .slice x0.A6 x0.n6 x0.c6, .int .i64 x0.p7] 29)).alloc (.cells #[.int .i64 x1.p0, .slice x1.A1 x1.n1 x1.c1, .slice x1.A2 x1.n2 x1.c2, .slice x1.A3 x1.n3 x1.c3, .slice x1.A4 x1.n4 x1.c4, .slice x1.A5 x1.n5 x1.c5, .slice x1.A6 x1.n6 x1.c6, .int .i64 x1.p7] 29)).cell? ⟨w.heap.size, 4, none⟩ = some (.slice x0.A4 x0.n4 x0.c4) := KB0.at_ rfl
      have xKB0_5 : ((w.alloc (.cells #[.int .i64 x0.p0, .slice x0.A1 x0.n1 x0.c1, .slice x0.A2 x0.n2 x0.c2, .slice x0.A3 x0.n3 x0.c3, .slice x0.A4 x0.n4 x0.c4, .slice x0.A5 x0.n5 x0.c5, .slice x0.A6 x0.n6 x0.c6, .int .i64 x0.p7] 29)).alloc (.cells #[.int .i64 x1.p0, .slice x1.A1 x1.n1 x1.c1, .slice x1.A2 x1.n2 x1.c2, .slice x1.A3 x1.n3 x1.c3, .slice x1.A4 x1.n4 x1.c4, .slice x1.A5 x1.n5 x1.c5, .slice x1.A6 x1.n6 x1.c6, .int .i64 x1.p7] 29)).cell? ⟨w.heap.size, 5, none⟩ = some (.slice x0.A5 x0.n5 x0.c5) := KB0.at_ rfl
      have xKB0_6 : ((w.alloc (.cells #[.int .i64 x0.p0, .slice x0.A1 x0.n1 x0.c1, .slice x0.A2 x0.n2 x0.c2, .slice x0.A3 x0.n3 x0.c3, .slice x0.A4 x0.n4 x0.c4, .slice x0.A5 x0.n5 x0.c5, .slice x0.A6 x0.n6 x0.c6, .int .i64 x0.p7] 29)).alloc (.cells #[.int .i64 x1.p0, .slice x1.A1 x1.n1 x1.c1, .slice x1.A2 x1.n2 x1.c2, .slice x1.A3 x1.n3 x1.c3, .slice x1.A4 x1.n4 x1.c4, .slice x1.A5 x1.n5 x1.c5, .slice x1.A6 x1.n6 x1.c6, .int .i64 x1.p7] 29)).cell? ⟨w.heap.size, 6, none⟩ = some (.slice x0.A6 x0.n6 x0.c6) := KB0.at_ rfl
      have xKB0_7 : ((w.alloc (.cells #[.int .i64 x0.p0, .slice x0.A1 x0.n1 x0.c1, .slice x0.A2 x0.n2 x0.c2, .slice x0.A3 x0.n3 x0.c3, .slice x0.A4 x0.n4 x0.c4, .slice x0.A5 x0.n5 x0.c5, .slice x0.A6 x0.n6 x0.c6, .int .i64 x0.p7] 29)).alloc (.cells #[.int .i64 x1.p0, .slice x1.A1 x1.n1 x1.c1, .slice x1.A2 x1.n2 x1.c2, .slice x1.A3 x1.n3 x1.c3, .slice x1.A4 x1.n4 x1.c4, .slice x1.A5 x1.n5 x1.c5, .slice x1.A6 x1.n6 x1.c6, .int .i64 x1.p7] 29)).cell? ⟨w.heap.size, 7, none⟩ = some (.int .i64 x0.p7) := KB0.at_ rfl
      go_wp2_with fail
      refine Calls.mono (sz_browser x0 _ _ (1048576) _ R0 (by omega) (by omega)) ?_
      rintro e w1 ⟨rfl, B17⟩
      replace R0 := (R0).new B17
      replace R1 := (R1).new B17
      replace KB0 := (KB0).new B17
      replace KB1 := (KB1).new B17
      replace G := below_trans G B17 (Nat.le_refl _)
      have S1 := Lib.hid (show ((w.alloc (.cells #[.int .i64 x0.p0, .slice x0.A1 x0.n1 x0.c1, .slice x0.A2 x0.n2 x0.c2, .slice x0.A3 x0.n3 x0.c3, .slice x0.A4 x0.n4 x0.c4, .slice x0.A5 x0.n5 x0.c5, .slice x0.A6 x0.n6 x0.c6, .int .i64 x0.p7] 29)).alloc (.cells #[.int .i64 x1.p0, .slice x1.A1 x1.n1 x1.c1, .slice x1.A2 x1.n2 x1.c2, .slice x1.A3 x1.n3 x1.c3, .slice x1.A4 x1.n4 x1.c4, .slice x1.A5 x1.n5 x1.c5, .slice x1.A6 x1.n6 x1.c6, .int .i64 x1.p7] 29)).heap.size + 0 ≤ w1.heap.size by have := B17.size; first | (simpa using this) | ((try simp at this); omega))
      clear B17
      clear xKB0_0 xKB0_1 xKB0_2 xKB0_3 xKB0_4 xKB0_5 xKB0_6 xKB0_7
      have xKB1_0 : w1.cell? ⟨w.heap.size + 1, 0, none⟩ = some (.int .i64 x1.p0) := KB1.at_ rfl
      have xKB1_1 : w1.cell? ⟨w.heap.size + 1, 1, none⟩ = some (.slice x1.A1 x1.n1 x1.c1) := KB1.at_ rfl
      have xKB1_2 : w1.cell? ⟨w.heap.size + 1, 2, none⟩ = some (.slice x1.A2 x1.n2 x1.c2) := KB1.at_ rfl
      have xKB1_3 : w1.cell? ⟨w.heap.size + 1, 3, none⟩ = some (.slice x1.A3 x1.n3 x1.c3) := KB1.at_ rfl
      have xKB1_4 : w1.cell? ⟨w.heap.size + 1, 4, none⟩ = some (.slice x1.A4 x1.n4 x1.c4) := KB1.at_ rfl
      have xKB1_5 : w1.cell? ⟨w.heap.size + 1, 5, none⟩ = some (.slice x1.A5 x1.n5 x1.c5) := KB1.at_ rfl
      have xKB1_6 : w1.cell? ⟨w.heap.size + 1, 6, none⟩ = some (.slice x1.A6 x1.n6 x1.c6) := KB1.at_ rfl
      have xKB1_7 : w1.cell? ⟨w.heap.size + 1, 7, none⟩ = some (.int .i64 x1.p7) := KB1.at_ rfl
      go_wp2_with fail
      refine Calls.mono (szno_browser x1 _ _ (1048576 - (x0.dat.sz : Int)) _ R1 (by omega) (by omega) (by omega)) ?_
      rintro e w2 ⟨rfl, B18⟩
      clear xKB1_0 xKB1_1 xKB1_2 xKB1_3 xKB1_4 xKB1_5 xKB1_6 xKB1_7
      go_wp2_with fail
      go_ret
      exact ⟨rfl, below_trans G B18 (Nat.le_refl _)⟩
  · skip
    have G : Below w.heap.size w ((w.alloc (.cells #[.int .i64 x0.p0, .slice x0.A1 x0.n1 x0.c1, .slice x0.A2 x0.n2 x0.c2, .slice x0.A3 x0.n3 x0.c3, .slice x0.A4 x0.n4 x0.c4, .slice x0.A5 x0.n5 x0.c5, .slice x0.A6 x0.n6 x0.c6, .int .i64 x0.p7] 29)).alloc (.cells #[.int .i64 x1.p0, .slice x1.A1 x1.n1 x1.c1, .slice x1.A2 x1.n2 x1.c2, .slice x1.A3 x1.n3 x1.c3, .slice x1.A4 x1.n4 x1.c4, .slice x1.A5 x1.n5 x1.c5, .slice x1.A6 x1.n6 x1.c6, .int .i64 x1.p7] 29)) := ((Below.refl _ _).alloc (by simp) _).alloc (by simp) _
    have S0 := Lib.hid (show ((w.alloc (.cells #[.int .i64 x0.p0, .slice x0.A1 x0.n1 x0.c1, .slice x0.A2 x0.n2 x0.c2, .slice x0.A3 x0.n3 x0.c3, .slice x0.A4 x0.n4 x0.c4, .slice x0.A5 x0.n5 x0.c5, .slice x0.A6 x0.n6 x0.c6, .int .i64 x0.p7] 29)).alloc (.cells #[.int .i64 x1.p0, .slice x1.A1 x1.n1 x1.c1, .slice x1.A2 x1.n2 x1.c2, .slice x1.A3 x1.n3 x1.c3, .slice x1.A4 x1.n4 x1.c4, .slice x1.A5 x1.n5 x1.c5, .slice x1.A6 x1.n6 x1.c6, .int .i64 x1.p7] 29)).heap.size = w.heap.size + 2 by simp)
    replace R0 := R0.alloc (.cells #[.int .i64 x0.p0, .slice x0.A1 x0.n1 x0.c1, .slice x0.A2 x0.n2 x0.c2, .slice x0.A3 x0.n3 x0.c3, .slice x0.A4 x0.n4 x0.c4, .slice x0.A5 x0.n5 x0.c5, .slice x0.A6 x0.n6 x0.c6, .int .i64 x0.p7] 29)
    replace R1 := R1.alloc (.cells #[.int .i64 x0.p0, .slice x0.A1 x0.n1 x0.c1, .slice x0.A2 x0.n2 x0.c2, .slice x0.A3 x0.n3 x0.c3, .slice x0.A4 x0.n4 x0.c4, .slice x0.A5 x0.n5 x0.c5, .slice x0.A6 x0.n6 x0.c6, .int .i64 x0.p7] 29)
    have KB0 : BoxAt (w.alloc (.cells #[.int .i64 x0.p0, .slice x0.A1 x0.n1 x0.c1, .slice x0.A2 x0.n2 x0.c2, .slice x0.A3 x0.n3 x0.c3, .slice x0.A4 x0.n4 x0.c4, .slice x0.A5 x0.n5 x0.c5, .slice x0.A6 x0.n6 x0.c6, .int .i64 x0.p7] 29)) (w.heap.size) 29 #[.int .i64 x0.p0, .slice x0.A1 x0.n1 x0.c1, .slice x0.A2 x0.n2 x0.c2, .slice x0.A3 x0.n3 x0.c3, .slice x0.A4 x0.n4 x0.c4, .slice x0.A5 x0.n5 x0.c5, .slice x0.A6 x0.n6 x0.c6, .int .i64 x0.p7] := box_new _ _ _
    replace R0 := R0.alloc (.cells #[.int .i64 x1.p0, .slice x1.A1 x1.n1 x1.c1, .slice x1.A2 x1.n2 x1.c2, .slice x1.A3 x1.n3 x1.c3, .slice x1.A4 x1.n4 x1.c4, .slice x1.A5 x1.n5 x1.c5, .slice x1.A6 x1.n6 x1.c6, .int .i64 x1.p7] 29)
    replace R1 := R1.alloc (.cells #[.int .i64 x1.p0, .slice x1.A1 x1.n1 x1.c1, .slice x1.A2 x1.n2 x1.c2, .slice x1.A3 x1.n3 x1.c3, .slice x1.A4 x1.n4 x1.c4, .slice x1.A5 x1.n5 x1.c5, .slice x1.A6 x1.n6 x1.c6, .int .i64 x1.p7] 29)
    replace KB0 := KB0.alloc_ (.cells #[.int .i64 x1.p0, .slice x1.A1 x1.n1 x1.c1, .slice x1.A2 x1.n2 x1.c2, .slice x1.A3 x1.n3 x1.c3, .slice x1.A4 x1.n4 x1.c4, .slice x1.A5 x1.n5 x1.c5, .slice x1.A6 x1.n6 x1.c6, .int .i64 x1.p7] 29)
    have KB1 : BoxAt ((w.alloc (.cells #[.int .i64 x0.p0, .slice x0.A1 x0.n1 x0.c1, .slice x0.A2 x0.n2 x0.c2, .slice x0.A3 x0.n3 x0.c3, .slice x0.A4 x0.n4 x0.c4, .slice x0.A5 x0.n5 x0.c5, .slice x0.A6 x0.n6 x0.c6, .int .i64 x0.p7] 29)).alloc (.cells #[.int .i64 x1.p0, .slice x1.A1 x1.n1 x1.c1, .slice x1.A2 x1.n2 x1.c2, .slice x1.A3 x1.n3 x1.c3, .slice x1.A4 x1.n4 x1.c4, .slice x1.A5 x1.n5 x1.c5, .slice x1.A6 x1.n6 x1.c6, .int .i64 x1.p7] 29)) (w.heap.size + 1) 29 #[.int .i64 x1.p0, .slice x1.A1 x1.n1 x1.c1, .slice x1.A2 x1.n2 x1.c2, .slice x1.A3 x1.n3 x1.c3, .slice x1.A4 x1.n4 x1.c4, .slice x1.A5 x1.n5 x1.c5, .slice x1.A6 x1.n6 x1.c6, .int .i64 x1.p7] := by simpa using box_new (w.alloc (.cells #[.int .i64 x0.p0, .slice x0.A1 x0.n1 x0.c1, .slice x0.A2 x0.n2 x0.c2, .slice x0.A3 x0.n3 x0.c3, .slice x0.A4 x0.n4 x0.c4, .slice x0.A5 x0.n5 x0.c5, .slice x0.A6 x0.n6 x0.c6, .int .i64 x0.p7] 29)) 29 #[.int .i64 x1.p0, .slice x1.A1 x1.n1 x1.c1, .slice x1.A2 x1.n2 x1.c2, .slice x1.A3 x1.n3 x1.c3, .slice x1.A4 x1.n4 x1.c4, .slice x1.A5 x1.n5 x1.c5, .slice x1.A6 x1.n6 x1.c6, .int .i64 x1.p7]
    go_enter Try.func10, Try.ntmps10
    have xKB0_0 : ((w.alloc (.cells #[.int .i64 x0.p0, .slice x0.A1 x0.n1 x0.c1, .slice x0.A2 x0.n2 x0.c2, .slice x0.A3 x0.n3 x0.c3, .slice x0.A4 x0.n4 x0.c4, .slice x0.A5 x0.n5 x0.c5, .slice x0.A6 x0.n6 x0.c6, .int .i64 x0.p7] 29)).alloc (.cells #[.int .i64 x1.p0, .slice x1.A1 x1.n1 x1.c1, .slice x1.A2 x1.n2 x1.c2, .slice x1.A3 x1.n3 x1.c3, .slice x1.A4 x1.n4 x1.c4, .slice x1.A5 x1.n5 x1.c5, .slice x1.A6 x1.n6 x1.c6, .int .i64 x1.p7] 29)).cell? ⟨w.heap.size, 0, none⟩ = some (.int .i64 x0.p0) := KB0.at_ rfl
    have xKB0_1 : ((w.alloc (.cells #[.int .i64 x0.p0, .slice x0.A1 x0.n1 x0.c1, .slice x0.A2 x0.n2 x0.c2, .slice x0.A3 x0.n3 x0.c3, .slice x0.A4 x0.n4 x0.c4, .slice x0.A5 x0.n5 x0.c5, .slice x0.A6 x0.n6 x0.c6, .int .i64 x0.p7] 29)).alloc (.cells #[.int .i64 x1.p0, .slice x1.A1 x1.n1 x1.c1, .slice x1.A2 x1.n2 x1.c2, .slice x1.A3 x1.n3 x1.c3, .slice x1.A4 x1.n4 x1.c4, .slice x1.A5 x1.n5 x1.c5, .slice x1.A6 x1.n6 x1.c6, .int .i64 x1.p7] 29)).cell? ⟨w.heap.size, 1, none⟩ = some (.slice x0.A1 x0.n1 x0.c1) := KB0.at_ rfl
    have xKB0_2 : ((w.alloc (.cells #[.int .i64 x0.p0, .slice x0.A1 x0.n1 x0.c1, .slice x0.A2 x0.n2 x0.c2, .slice x0.A3 x0.n3 x0.c3, .slice x0.A4 x0.n4 x0.c4, .slice x0.A5 x0.n5 x0.c5, .slice x0.A6 x0.n6 x0.c6, .int .i64 x0.p7] 29)).alloc (.cells #[.int .i64 x1.p0, .slice x1.A1 x1.n1 x1.c1, .slice x1.A2 x1.n2 x1.c2, .slice x1.A3 x1.n3 x1.c3, .slice x1.A4 x1.n4 x1.c4, .slice x1.A5 x1.n5 x1.c5, .slice x1.A6 x1.n6 x1.c6, .int .i64 x1.p7] 29)).cell? ⟨w.heap.size, 2, none⟩ = some (.slice x0.A2 x0.n2 x0.c2) := KB0.at_ rfl
    have xKB0_3 : ((w.alloc (.cells #[.int .i64 x0.p0, .slice x0.A1 x0.n1 x0.c1, .slice x0.A2 x0.n2 x0.c2, .slice x0.A3 x0.n3 x0.c3, .slice x0.A4 x0.n4 x0.c4, .slice x0.A5 x0.n5 x0.c5, .slice x0.A6 x0.n6 x0.c6, .int .i64 x0.p7] 29)).alloc (.cells #[.int .i64 x1.p0, .slice x1.A1 x1.n1 x1.c1, .slice x1.A2 x1.n2 x1.c2, .slice x1.A3 x1.n3 x1.c3, .slice x1.A4 x1.n4 x1.c4, .slice x1.A5 x1.n5 x1.c5, .slice x1.A6 x1.n6 x1.c6, .int .i64 x1.p7] 29)).cell? ⟨w.heap.size, 3, none⟩ = some (.slice x0.A3 x0.n3 x0.c3) := KB0.at_ rfl
    have xKB0_4 : ((w.alloc (.cells #[.int .i64 x0.p0, .slice x0.A1 x0.n1 x0.c1, .slice x0.A2 x0.n2 x0.c2, .slice x0.A3 x0.n3 x0.c3, .slice x0.A4 x0.n4 x0.c4, .slice x0.A5 x0.n5 x0.c5, .slice x0.A6 x0.n6 x0.c6, .int .i64 x0.p7] 29)).alloc (.cells #[.int .i64 x1.p0, .slice x1.A1 x1.n1 x1.c1, .slice x1.A2 x1.n2 x1.c2, .slice x1.A3 x1.n3 x1.c3, .slice x1.A4 x1.n4 x1.c4, .slice x1.A5 x1.n5 x1.c5, .slice x1.A6 x1.n6 x1.c6, .int .i64 x1.p7] 29)).cell? ⟨w.heap.size, 4, none⟩ = some (.slice x0.A4 x0.n4 x0.c4) := KB0.at_ rfl
    have xKB0_5 : ((w.alloc (.cells #[.int .i64 x0.p0, .slice x0.A1 x0.n1 x0.c1, .slice x0.A2 x0.n2 x0.c2, .slice x0.A3 x0.n3 x0.c3, .slice x0.A4 x0.n4 x0.c4, .slice x0.A5 x0.n5 x0.c5, .slice x0.A6 x0.n6 x0.c6, .int .i64 x0.p7] 29)).alloc (.cells #[.int .i64 x1.p0, .slice x1.A1 x1.n1 x1.c1, .slice x1.A2 x1.n2 x1.c2, .slice x1.A3 x1.n3 x1.c3, .slice x1.A4 x1.n4 x1.c4, .slice x1.A5 x1.n5 x1.c5, .slice x1.A6 x1.n6 x1.c6, .int .i64 x1.p7] 29)).cell? ⟨w.heap.size, 5, none⟩ = some (.slice x0.A5 x0.n5 x0.c5) := KB0.at_ rfl
    have xKB0_6 : ((w.alloc (.cells #[.int .i64 x0.p0, .slice x0.A1 x0.n1 x0.c1, .slice x0.A2 x0.n2 x0.c2, .slice x0.A3 x0.n3 x0.c3, .slice x0.A4 x0.n4 x0.c4, .slice x0.A5 x0.n5 x0.c5, .slice x0.A6 x0.n6 x0.c6, .int .i64 x0.p7] 29)).alloc (.cells #[.int .i64 x1.p0, .slice x1.A1 x1.n1 x1.c1, .slice x1.A2 x1.n2 x1.c2, .slice x1.A3 x1.n3 x1.c3, .slice x1.A4 x1.n4 x1.c4, .slice x1.A5 x1.n5 x1.c5, .slice x1.A6 x1.n6 x1.c6, .int .i64 x1.p7] 29)).cell? ⟨w.heap.size, 6, none⟩ = some (.slice x0.A6 x0.n6 x0.c6) := KB0.at_ rfl
    have xKB0_7 : ((w.alloc (.cells #[.int .i64 x0.p0, .slice x0.A1 x0.n1 x0.c1, .slice x0.A2 x0.n2 x0.c2, .slice x0.A3 x0.n3 x0.c3, .slice x0.A4 x0.n4 x0.c4, .slice x0.A5 x0.n5 x0.c5, .slice x0.A6 x0.n6 x0.c6, .int .i64 x0.p7] 29)).alloc (.cells #[.int .i64 x1.p0, .slice x1.A1 x1.n1 x1.c1, .slice x1.A2 x1.n2 x1.c2, .slice x1.A3 x1.n3 x1.c3, .slice x1.A4 x1.n4 x1.c4, .slice x1.A5 x1.n5 x1.c5, .slice x1.A6 x1.n6 x1.c6, .int .i64 x1.p7] 29)).cell? ⟨w.heap.size, 7, none⟩ = some (.int .i64 x0.p7) := KB0.at_ rfl
    go_wp2_with fail
    refine Calls.mono (szno_browser x0 _ _ (1048576) _ R0 (by omega) (by omega) (by omega)) ?_
    rintro e w1 ⟨rfl, B19⟩
    clear xKB0_0 xKB0_1 xKB0_2 xKB0_3 xKB0_4 xKB0_5 xKB0_6 xKB0_7
    go_wp2_with fail
    go_ret
    exact ⟨rfl, below_trans G B19 (Nat.le_refl _)⟩

set_option maxRecDepth 100000 in
theorem lifted (os : Os) (started : os.Started) (H : Type) (enc : TypeId × Value → H) :
    ReturnsInHanded {} Try.checked os 10 .any (Rows.fnExactEqualBrowsersSpec.pre6 enc Try.prog Try.f10 Rows.fnExactEqualBrowsersRow.domain false) (Rows.fnExactEqualBrowsersSpec.post enc Try.prog Try.f10 false true false false) := by
  refine law_lifted Try.func10 (by kernel_rfl) rfl rfl (by kernel_rfl) os started
    (ChangeSpec.witness6 (enc := enc) (C := Try.checked) false ⟨#[], #[.agg #[.int .i64 0, .slice none 0 0, .slice none 0 0, .slice none 0 0, .slice none 0 0, .slice none 0 0, .slice none 0 0, .int .i64 0], .agg #[.int .i64 0, .slice none 0 0, .slice none 0 0, .slice none 0 0, .slice none 0 0, .slice none 0 0, .slice none 0 0, .int .i64 0]], []⟩ 8 (by kernel_rfl) (by kernel_rfl) (by kernel_rfl) (by kernel_rfl)) ?_
  intro W base args ds p hval hA hlt
  rw [Try.params10] at hA hval
  obtain ⟨v0, vs0, d0, ds0, p0, q0, hargs, rfl, rfl, h0, r0⟩ := trodAll_cons hA
  obtain ⟨v1, vs1, d1, ds1, p1, q1, rfl, rfl, rfl, h1, r1⟩ := trodAll_cons r0
  obtain ⟨rfl, rfl, rfl⟩ := trodAll_nil r1
  obtain rfl : args = #[v0, v1] := by cases args; simp_all
  obtain ⟨x0, rfl, R0, H0⟩ := open_browser (hval 0 29 v0 rfl rfl) h0 (fun x hx => hlt x (by simp [hx]))
  obtain ⟨x1, rfl, R1, H1⟩ := open_browser (hval 1 29 v1 rfl rfl) h1 (fun x hx => hlt x (by simp [hx]))
  exact ⟨⟨rfl, rfl, rfl⟩, walk x0 x1 W R0 H0 R1 H1⟩

theorem over : Rows.fnExactEqualBrowsersRow.holds Try.pinned (OpenSpec.ofChange Rows.fnExactEqualBrowsersSpec) :=
  OpenClaim.holds_of_wide 10 Try.f10 rfl rfl rfl rfl rfl rfl rfl ⟨rfl, rfl, rfl, rfl, rfl⟩ rfl rfl rfl rfl rfl (by kernel_rfl) Try.func10 (by kernel_rfl)
    (of_decide_eq_true (by kernel_rfl)) (by unfold Func.isWrapper; first | (rw [if_pos (by decide +kernel)]; kernel_rfl) | (rw [if_neg (by decide +kernel)]; exact ⟨rfl, rfl⟩))
    (fun os started H enc _ => lifted os started H enc)

theorem proved : Rows.FnExactEqualBrowsersSaid := over
#print axioms proved
end Go.Proofs.Ytfhoemgpilpapaa.fnExactEqualBrowsers
