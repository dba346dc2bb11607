/- The law FnExactEqualTabs answers true for every argument, and leaves each argument as it was. No condition. -/
import Derived.Deep.RegionHeld3
import Derived.Deep.DeepCutAuto
import Derived.Test.YthipflbjnnplaaaFacts
import Derived.Test.YthipflbjnnplaaaRTab
import Derived.Test.YthipflbjnnplaaaEqTab
namespace Go.Proofs.Ythipflbjnnplaaa.fnExactEqualTabs
open Go Go.ChangeShapes Go.WideShapes Go.ChangeAt Go.RowKit Go.Lib
open Go.ChangeMaps (open_string)
set_option linter.unusedVariables false
set_option linter.unusedSimpArgs false
set_option maxRecDepth 100000

set_option maxRecDepth 100000 in
set_option maxHeartbeats 20000000 in
theorem walk (s0_0 : TSite) (l0_1 : List TNode) (A0_1 : Option Addr) (n0_1 c0_1 : Nat) (l0_2 : List TEdit) (A0_2 : Option Addr) (n0_2 c0_2 : Nat) (l0_3 : List Int) (A0_3 : Option Addr) (n0_3 c0_3 : Nat) (p0_4 : Int) (s1_0 : TSite) (l1_1 : List TNode) (A1_1 : Option Addr) (n1_1 c1_1 : Nat) (l1_2 : List TEdit) (A1_2 : Option Addr) (n1_2 c1_2 : Nat) (l1_3 : List Int) (A1_3 : Option Addr) (n1_3 c1_3 : Nat) (p1_4 : Int) (w : World) (H0_0 : Hid (TSite.fit s0_0)) (hm0_1 : n0_1 ≤ maxLen) (R0_1 : Rd w 0 w.heap.size 5 A0_1 n0_1 (cNode l0_1)) (H0_1 : Hid (cNodeOk l0_1)) (hm0_2 : n0_2 ≤ maxLen) (R0_2 : Rd w 0 w.heap.size 6 A0_2 n0_2 (cEdit l0_2)) (H0_2 : Hid (cEditOk l0_2)) (hm0_3 : n0_3 ≤ maxLen) (R0_3 : Rd w 0 w.heap.size 1 A0_3 n0_3 (i64s l0_3)) (H0_3 : Hid (I64s l0_3)) (wf0_4 : (Lit.int .i64 p0_4).wf = true) (H1_0 : Hid (TSite.fit s1_0)) (hm1_1 : n1_1 ≤ maxLen) (R1_1 : Rd w 0 w.heap.size 5 A1_1 n1_1 (cNode l1_1)) (H1_1 : Hid (cNodeOk l1_1)) (hm1_2 : n1_2 ≤ maxLen) (R1_2 : Rd w 0 w.heap.size 6 A1_2 n1_2 (cEdit l1_2)) (H1_2 : Hid (cEditOk l1_2)) (hm1_3 : n1_3 ≤ maxLen) (R1_3 : Rd w 0 w.heap.size 1 A1_3 n1_3 (i64s l1_3)) (H1_3 : Hid (I64s l1_3)) (wf1_4 : (Lit.int .i64 p1_4).wf = true) :
    Calls Try.prog 7 #[.agg #[.int .i64 s0_0.f0, .int .i64 s0_0.f1, .slice A0_1 n0_1 c0_1, .slice A0_2 n0_2 c0_2, .slice A0_3 n0_3 c0_3, .int .i64 p0_4], .agg #[.int .i64 s1_0.f0, .int .i64 s1_0.f1, .slice A1_1 n1_1 c1_1, .slice A1_2 n1_2 c1_2, .slice A1_3 n1_3 c1_3, .int .i64 p1_4]] w fun e w' => e = .returned (.bool true) ∧ Below w.heap.size w w' := by
  have hm0_1 : n0_1 ≤ 9223372036854775807 := hm0_1
  have hm0_2 : n0_2 ≤ 9223372036854775807 := hm0_2
  have hm0_3 : n0_3 ≤ 9223372036854775807 := hm0_3
  have hm1_1 : n1_1 ≤ 9223372036854775807 := hm1_1
  have hm1_2 : n1_2 ≤ 9223372036854775807 := hm1_2
  have hm1_3 : n1_3 ≤ 9223372036854775807 := hm1_3
  have Wf0_4 := Lib.hid wf0_4
  clear wf0_4
  have Wf1_4 := Lib.hid wf1_4
  clear wf1_4
  by_cases hz0 : n0_1 + n0_2 + n0_3 ≤ 1048576
  · skip
    by_cases hz1 : n0_1 + n0_2 + n0_3 + n1_1 + n1_2 + n1_3 ≤ 1048576
    · skip
      have hqn0_1 : n0_1 ≤ 17179869184 := by omega
      have hqn0_2 : n0_2 ≤ 17179869184 := by omega
      have hqn0_3 : n0_3 ≤ 17179869184 := by omega
      have hqn1_1 : n1_1 ≤ 17179869184 := by omega
      have hqn1_2 : n1_2 ≤ 17179869184 := by omega
      have hqn1_3 : n1_3 ≤ 17179869184 := by omega
      have G : Below w.heap.size w ((w.alloc (.cells #[.int .i64 s0_0.f0, .int .i64 s0_0.f1, .slice A0_1 n0_1 c0_1, .slice A0_2 n0_2 c0_2, .slice A0_3 n0_3 c0_3, .int .i64 p0_4] 50)).alloc (.cells #[.int .i64 s1_0.f0, .int .i64 s1_0.f1, .slice A1_1 n1_1 c1_1, .slice A1_2 n1_2 c1_2, .slice A1_3 n1_3 c1_3, .int .i64 p1_4] 50)) := ((Below.refl _ _).alloc (by simp) _).alloc (by simp) _
      have S0 := Lib.hid (show ((w.alloc (.cells #[.int .i64 s0_0.f0, .int .i64 s0_0.f1, .slice A0_1 n0_1 c0_1, .slice A0_2 n0_2 c0_2, .slice A0_3 n0_3 c0_3, .int .i64 p0_4] 50)).alloc (.cells #[.int .i64 s1_0.f0, .int .i64 s1_0.f1, .slice A1_1 n1_1 c1_1, .slice A1_2 n1_2 c1_2, .slice A1_3 n1_3 c1_3, .int .i64 p1_4] 50)).heap.size = w.heap.size + 2 by simp)
      replace R0_1 := R0_1.alloc (.cells #[.int .i64 s0_0.f0, .int .i64 s0_0.f1, .slice A0_1 n0_1 c0_1, .slice A0_2 n0_2 c0_2, .slice A0_3 n0_3 c0_3, .int .i64 p0_4] 50)
      replace R0_2 := R0_2.alloc (.cells #[.int .i64 s0_0.f0, .int .i64 s0_0.f1, .slice A0_1 n0_1 c0_1, .slice A0_2 n0_2 c0_2, .slice A0_3 n0_3 c0_3, .int .i64 p0_4] 50)
      replace R0_3 := R0_3.alloc (.cells #[.int .i64 s0_0.f0, .int .i64 s0_0.f1, .slice A0_1 n0_1 c0_1, .slice A0_2 n0_2 c0_2, .slice A0_3 n0_3 c0_3, .int .i64 p0_4] 50)
      replace R1_1 := R1_1.alloc (.cells #[.int .i64 s0_0.f0, .int .i64 s0_0.f1, .slice A0_1 n0_1 c0_1, .slice A0_2 n0_2 c0_2, .slice A0_3 n0_3 c0_3, .int .i64 p0_4] 50)
      replace R1_2 := R1_2.alloc (.cells #[.int .i64 s0_0.f0, .int .i64 s0_0.f1, .slice A0_1 n0_1 c0_1, .slice A0_2 n0_2 c0_2, .slice A0_3 n0_3 c0_3, .int .i64 p0_4] 50)
      replace R1_3 := R1_3.alloc (.cells #[.int .i64 s0_0.f0, .int .i64 s0_0.f1, .slice A0_1 n0_1 c0_1, .slice A0_2 n0_2 c0_2, .slice A0_3 n0_3 c0_3, .int .i64 p0_4] 50)
      have KB0 : BoxAt (w.alloc (.cells #[.int .i64 s0_0.f0, .int .i64 s0_0.f1, .slice A0_1 n0_1 c0_1, .slice A0_2 n0_2 c0_2, .slice A0_3 n0_3 c0_3, .int .i64 p0_4] 50)) (w.heap.size) 50 #[.int .i64 s0_0.f0, .int .i64 s0_0.f1, .slice A0_1 n0_1 c0_1, .slice A0_2 n0_2 c0_2, .slice A0_3 n0_3 c0_3, .int .i64 p0_4] := box_new _ _ _
      replace R0_1 := R0_1.alloc (.cells #[.int .i64 s1_0.f0, .int .i64 s1_0.f1, .slice A1_1 n1_1 c1_1, .slice A1_2 n1_2 c1_2, .slice A1_3 n1_3 c1_3, .int .i64 p1_4] 50)
      replace R0_2 := R0_2.alloc (.cells #[.int .i64 s1_0.f0, .int .i64 s1_0.f1, .slice A1_1 n1_1 c1_1, .slice A1_2 n1_2 c1_2, .slice A1_3 n1_3 c1_3, .int .i64 p1_4] 50)
      replace R0_3 := R0_3.alloc (.cells #[.int .i64 s1_0.f0, .int .i64 s1_0.f1, .slice A1_1 n1_1 c1_1, .slice A1_2 n1_2 c1_2, .slice A1_3 n1_3 c1_3, .int .i64 p1_4] 50)
      replace R1_1 := R1_1.alloc (.cells #[.int .i64 s1_0.f0, .int .i64 s1_0.f1, .slice A1_1 n1_1 c1_1, .slice A1_2 n1_2 c1_2, .slice A1_3 n1_3 c1_3, .int .i64 p1_4] 50)
      replace R1_2 := R1_2.alloc (.cells #[.int .i64 s1_0.f0, .int .i64 s1_0.f1, .slice A1_1 n1_1 c1_1, .slice A1_2 n1_2 c1_2, .slice A1_3 n1_3 c1_3, .int .i64 p1_4] 50)
      replace R1_3 := R1_3.alloc (.cells #[.int .i64 s1_0.f0, .int .i64 s1_0.f1, .slice A1_1 n1_1 c1_1, .slice A1_2 n1_2 c1_2, .slice A1_3 n1_3 c1_3, .int .i64 p1_4] 50)
      replace KB0 := KB0.alloc_ (.cells #[.int .i64 s1_0.f0, .int .i64 s1_0.f1, .slice A1_1 n1_1 c1_1, .slice A1_2 n1_2 c1_2, .slice A1_3 n1_3 c1_3, .int .i64 p1_4] 50)
      have KB1 : BoxAt ((w.alloc (.cells #[.int .i64 s0_0.f0, .int .i64 s0_0.f1, .slice A0_1 n0_1 c0_1, .slice A0_2 n0_2 c0_2, .slice A0_3 n0_3 c0_3, .int .i64 p0_4] 50)).alloc (.cells #[.int .i64 s1_0.f0, .int .i64 s1_0.f1, .slice A1_1 n1_1 c1_1, .slice A1_2 n1_2 c1_2, .slice A1_3 n1_3 c1_3, .int .i64 p1_4] 50)) (w.heap.size + 1) 50 #[.int .i64 s1_0.f0, .int .i64 s1_0.f1, .slice A1_1 n1_1 c1_1, .slice A1_2 n1_2 c1_2, .slice A1_3 n1_3 c1_3, .int .i64 p1_4] := by simpa using box_new (w.alloc (.cells #[.int .i64 s0_0.f0, .int .i64 s0_0.f1, .slice A0_1 n0_1 c0_1, .slice A0_2 n0_2 c0_2, .slice A0_3 n0_3 c0_3, .int .i64 p0_4] 50)) 50 #[.int .i64 s1_0.f0, .int .i64 s1_0.f1, .slice A1_1 n1_1 c1_1, .slice A1_2 n1_2 c1_2, .slice A1_3 n1_3 c1_3, .int .i64 p1_4]
      go_enter Try.func7, Try.ntmps7
      have xKB0_0 : ((w.alloc (.cells #[.int .i64 s0_0.f0, .int .i64 s0_0.f1, .slice A0_1 n0_1 c0_1, .slice A0_2 n0_2 c0_2, .slice A0_3 n0_3 c0_3, .int .i64 p0_4] 50)).alloc (.cells #[.int .i64 s1_0.f0, .int .i64 s1_0.f1, .slice A1_1 n1_1 c1_1, .slice A1_2 n1_2 c1_2, .slice A1_3 n1_3 c1_3, .int .i64 p1_4] 50)).cell? ⟨w.heap.size, 0, none⟩ = some (.int .i64 s0_0.f0) := KB0.at_ rfl
      have xKB0_1 : ((w.alloc (.cells #[.int .i64 s0_0.f0, .int .i64 s0_0.f1, .slice A0_1 n0_1 c0_1, .slice A0_2 n0_2 c0_2, .slice A0_3 n0_3 c0_3, .int .i64 p0_4] 50)).alloc (.cells #[.int .i64 s1_0.f0, .int .i64 s1_0.f1, .slice A1_1 n1_1 c1_1, .slice A1_2 n1_2 c1_2, .slice A1_3 n1_3 c1_3, .int .i64 p1_4] 50)).cell? ⟨w.heap.size, 1, none⟩ = some (.int .i64 s0_0.f1) := KB0.at_ rfl
      have xKB0_2 : ((w.alloc (.cells #[.int .i64 s0_0.f0, .int .i64 s0_0.f1, .slice A0_1 n0_1 c0_1, .slice A0_2 n0_2 c0_2, .slice A0_3 n0_3 c0_3, .int .i64 p0_4] 50)).alloc (.cells #[.int .i64 s1_0.f0, .int .i64 s1_0.f1, .slice A1_1 n1_1 c1_1, .slice A1_2 n1_2 c1_2, .slice A1_3 n1_3 c1_3, .int .i64 p1_4] 50)).cell? ⟨w.heap.size, 2, none⟩ = some (.slice A0_1 n0_1 c0_1) := KB0.at_ rfl
      have xKB0_3 : ((w.alloc (.cells #[.int .i64 s0_0.f0, .int .i64 s0_0.f1, .slice A0_1 n0_1 c0_1, .slice A0_2 n0_2 c0_2, .slice A0_3 n0_3 c0_3, .int .i64 p0_4] 50)).alloc (.cells #[.int .i64 s1_0.f0, .int .i64 s1_0.f1, .slice A1_1 n1_1 c1_1, .slice A1_2 n1_2 c1_2, .slice A1_3 n1_3 c1_3, .int .i64 p1_4] 50)).cell? ⟨w.heap.size, 3, none⟩ = some (.slice A0_2 n0_2 c0_2) := KB0.at_ rfl
      have xKB0_4 : ((w.alloc (.cells #[.int .i64 s0_0.f0, .int .i64 s0_0.f1, .slice A0_1 n0_1 c0_1, .slice A0_2 n0_2 c0_2, .slice A0_3 n0_3 c0_3, .int .i64 p0_4] 50)).alloc (.cells #[.int .i64 s1_0.f0, .int .i64 s1_0.f1, .slice A1_1 n1_1 c1_1, .slice A1_2 n1_2 c1_2, .slice A1_3 n1_3 c1_3, .int .i64 p1_4] 50)).cell? ⟨w.heap.size, 4, none⟩ = some (.slice A0_3 n0_3 c0_3) := KB0.at_ rfl
      have xKB0_5 : ((w.alloc (.cells #[.int .i64 s0_0.f0, .int .i64 s0_0.f1, .slice A0_1 n0_1 c0_1, .slice A0_2 n0_2 c0_2, .slice A0_3 n0_3 c0_3, .int .i64 p0_4] 50)).alloc (.cells #[.int .i64 s1_0.f0, .int .i64 s1_0.f1, .slice A1_1 n1_1 c1_1, .slice A1_2 n1_2 c1_2, .slice A1_3 n1_3 c1_3, .int .i64 p1_4] 50)).cell? ⟨w.heap.size, 5, none⟩ = some (.int .i64 p0_4) := KB0.at_ rfl
      go_wp2_with fail
      refine Calls.mono (sz_tab s0_0 A0_1 n0_1 c0_1 A0_2 n0_2 c0_2 A0_3 n0_3 c0_3 p0_4 (1048576) _ hm0_1 hm0_2 hm0_3 (by omega) (by omega)) ?_
      rintro e w1 ⟨rfl, B1⟩
      replace R0_1 := (R0_1).new B1
      replace R0_2 := (R0_2).new B1
      replace R0_3 := (R0_3).new B1
      replace R1_1 := (R1_1).new B1
      replace R1_2 := (R1_2).new B1
      replace R1_3 := (R1_3).new B1
      replace KB0 := (KB0).new B1
      replace KB1 := (KB1).new B1
      replace G := below_trans G B1 (Nat.le_refl _)
      have S1 := Lib.hid (show ((w.alloc (.cells #[.int .i64 s0_0.f0, .int .i64 s0_0.f1, .slice A0_1 n0_1 c0_1, .slice A0_2 n0_2 c0_2, .slice A0_3 n0_3 c0_3, .int .i64 p0_4] 50)).alloc (.cells #[.int .i64 s1_0.f0, .int .i64 s1_0.f1, .slice A1_1 n1_1 c1_1, .slice A1_2 n1_2 c1_2, .slice A1_3 n1_3 c1_3, .int .i64 p1_4] 50)).heap.size + 0 ≤ w1.heap.size by have := B1.size; first | (simpa using this) | ((try simp at this); omega))
      clear B1
      clear xKB0_0 xKB0_1 xKB0_2 xKB0_3 xKB0_4 xKB0_5
      have xKB1_0 : w1.cell? ⟨w.heap.size + 1, 0, none⟩ = some (.int .i64 s1_0.f0) := KB1.at_ rfl
      have xKB1_1 : w1.cell? ⟨w.heap.size + 1, 1, none⟩ = some (.int .i64 s1_0.f1) := KB1.at_ rfl
      have xKB1_2 : w1.cell? ⟨w.heap.size + 1, 2, none⟩ = some (.slice A1_1 n1_1 c1_1) := KB1.at_ rfl
      have xKB1_3 : w1.cell? ⟨w.heap.size + 1, 3, none⟩ = some (.slice A1_2 n1_2 c1_2) := KB1.at_ rfl
      have xKB1_4 : w1.cell? ⟨w.heap.size + 1, 4, none⟩ = some (.slice A1_3 n1_3 c1_3) := KB1.at_ rfl
      have xKB1_5 : w1.cell? ⟨w.heap.size + 1, 5, none⟩ = some (.int .i64 p1_4) := KB1.at_ rfl
      go_wp2_with fail
      refine Calls.mono (sz_tab s1_0 A1_1 n1_1 c1_1 A1_2 n1_2 c1_2 A1_3 n1_3 c1_3 p1_4 (1048576 - (n0_1 : Int) - (n0_2 : Int) - (n0_3 : Int)) _ hm1_1 hm1_2 hm1_3 (by omega) (by omega)) ?_
      rintro e w2 ⟨rfl, B2⟩
      replace R0_1 := (R0_1).new B2
      replace R0_2 := (R0_2).new B2
      replace R0_3 := (R0_3).new B2
      replace R1_1 := (R1_1).new B2
      replace R1_2 := (R1_2).new B2
      replace R1_3 := (R1_3).new B2
      replace KB0 := (KB0).new B2
      replace KB1 := (KB1).new B2
      replace G := below_trans G B2 (Nat.le_refl _)
      have S2 := Lib.hid (show w1.heap.size + 0 ≤ w2.heap.size by have := B2.size; first | (simpa using this) | ((try simp at this); omega))
      clear B2
      clear xKB1_0 xKB1_1 xKB1_2 xKB1_3 xKB1_4 xKB1_5
      go_wp2_with fail
      replace G := G.drew
      replace R0_1 := R0_1.drw
      replace R0_2 := R0_2.drw
      replace R0_3 := R0_3.drw
      replace R1_1 := R1_1.drw
      replace R1_2 := R1_2.drw
      replace R1_3 := R1_3.drw
      replace KB0 := KB0.drw
      replace KB1 := KB1.drw
      go_region_held3 (fun w' => w'.cell? ⟨w.heap.size, 0, none⟩ = some (.int .i64 s0_0.f0) ∧ w'.cell? ⟨w.heap.size, 1, none⟩ = some (.int .i64 s0_0.f1) ∧ w'.cell? ⟨w.heap.size, 2, none⟩ = some (.slice A0_1 n0_1 c0_1) ∧ w'.cell? ⟨w.heap.size, 3, none⟩ = some (.slice A0_2 n0_2 c0_2) ∧ w'.cell? ⟨w.heap.size, 4, none⟩ = some (.slice A0_3 n0_3 c0_3) ∧ w'.cell? ⟨w.heap.size, 5, none⟩ = some (.int .i64 p0_4) ∧ w'.cell? ⟨w.heap.size + 1, 0, none⟩ = some (.int .i64 s1_0.f0) ∧ w'.cell? ⟨w.heap.size + 1, 1, none⟩ = some (.int .i64 s1_0.f1) ∧ w'.cell? ⟨w.heap.size + 1, 2, none⟩ = some (.slice A1_1 n1_1 c1_1) ∧ w'.cell? ⟨w.heap.size + 1, 3, none⟩ = some (.slice A1_2 n1_2 c1_2) ∧ w'.cell? ⟨w.heap.size + 1, 4, none⟩ = some (.slice A1_3 n1_3 c1_3) ∧ w'.cell? ⟨w.heap.size + 1, 5, none⟩ = some (.int .i64 p1_4))
        (exact ⟨KB0.at_ rfl, KB0.at_ rfl, KB0.at_ rfl, KB0.at_ rfl, KB0.at_ rfl, KB0.at_ rfl, KB1.at_ rfl, KB1.at_ rfl, KB1.at_ rfl, KB1.at_ rfl, KB1.at_ rfl, KB1.at_ rfl⟩)
        (first
          | (go_at_call 32; (fail_if_success (have hx := B3)); refine Calls.mono (to_tab s0_0 l0_1 A0_1 n0_1 c0_1 _ _ l0_2 A0_2 n0_2 c0_2 _ _ l0_3 A0_3 n0_3 c0_3 _ _ p0_4 _ hqn0_1 R0_1 hqn0_2 R0_2 hqn0_3 R0_3) ?_; rintro e w3 ⟨T3_1, T3_2, T3_3, tc3_1, tlo3_1, thi3_1, tc3_2, tlo3_2, thi3_2, tc3_3, tlo3_3, thi3_3, rfl, FT3_1, FT3_2, FT3_3, MT3, B3⟩; (replace R0_1 := rd_nw B3 R0_1); (replace R0_2 := rd_nw B3 R0_2); (replace R0_3 := rd_nw B3 R0_3); (replace R1_1 := rd_nw B3 R1_1); (replace R1_2 := rd_nw B3 R1_2); (replace R1_3 := rd_nw B3 R1_3); (replace KB0 := box_nw B3 KB0); (replace KB1 := box_nw B3 KB1); (replace G := (by first | exact below_trans G B3 (Nat.le_refl _) | exact below_trans G.drew B3 (Nat.le_refl _) | exact below_trans (below_dN G _) B3 (Nat.le_refl _))); (have S3 := Lib.hid (show w2.heap.size ≤ w3.heap.size from B3.size)))
          | (go_at_call 32; (fail_if_success (have hx := B4)); refine Calls.mono (to_tab s1_0 l1_1 A1_1 n1_1 c1_1 _ _ l1_2 A1_2 n1_2 c1_2 _ _ l1_3 A1_3 n1_3 c1_3 _ _ p1_4 _ hqn1_1 R1_1 hqn1_2 R1_2 hqn1_3 R1_3) ?_; rintro e w4 ⟨T4_1, T4_2, T4_3, tc4_1, tlo4_1, thi4_1, tc4_2, tlo4_2, thi4_2, tc4_3, tlo4_3, thi4_3, rfl, FT4_1, FT4_2, FT4_3, MT4, B4⟩; (replace R0_1 := rd_nw B4 R0_1); (replace R0_2 := rd_nw B4 R0_2); (replace R0_3 := rd_nw B4 R0_3); (replace R1_1 := rd_nw B4 R1_1); (replace R1_2 := rd_nw B4 R1_2); (replace R1_3 := rd_nw B4 R1_3); (replace KB0 := box_nw B4 KB0); (replace KB1 := box_nw B4 KB1); (replace FT3_1 := fr_nw B4 FT3_1); (replace FT3_2 := fr_nw B4 FT3_2); (replace FT3_3 := fr_nw B4 FT3_3); (replace G := (by first | exact below_trans G B4 (Nat.le_refl _) | exact below_trans G.drew B4 (Nat.le_refl _) | exact below_trans (below_dN G _) B4 (Nat.le_refl _))); (have S4 := Lib.hid (show w3.heap.size ≤ w4.heap.size from B4.size)))
          | (go_at_call 31; (fail_if_success (have hx := B5)); refine Calls.mono (spec_EqualTabs s0_0 l0_1 T3_1 n0_1 tc3_1 _ _ l0_2 T3_2 n0_2 tc3_2 _ _ l0_3 T3_3 n0_3 tc3_3 _ _ p0_4 s1_0 l1_1 T4_1 n1_1 tc4_1 _ _ l1_2 T4_2 n1_2 tc4_2 _ _ l1_3 T4_3 n1_3 tc4_3 _ _ p1_4 _ (by omega) FT3_1.rd H0_1 (by omega) FT3_2.rd H0_2 (by omega) FT3_3.rd H0_3 (by omega) FT4_1.rd H1_1 (by omega) FT4_2.rd H1_2 (by omega) FT4_3.rd H1_3) ?_; rintro e w5 ⟨rfl, B5⟩; (replace R0_1 := rd_nw B5 R0_1); (replace R0_2 := rd_nw B5 R0_2); (replace R0_3 := rd_nw B5 R0_3); (replace R1_1 := rd_nw B5 R1_1); (replace R1_2 := rd_nw B5 R1_2); (replace R1_3 := rd_nw B5 R1_3); (replace KB0 := box_nw B5 KB0); (replace KB1 := box_nw B5 KB1); (replace FT3_1 := fr_nw B5 FT3_1); (replace FT3_2 := fr_nw B5 FT3_2); (replace FT3_3 := fr_nw B5 FT3_3); (replace FT4_1 := fr_nw B5 FT4_1); (replace FT4_2 := fr_nw B5 FT4_2); (replace FT4_3 := fr_nw B5 FT4_3); (replace G := (by first | exact below_trans G B5 (Nat.le_refl _) | exact below_trans G.drew B5 (Nat.le_refl _) | exact below_trans (below_dN G _) B5 (Nat.le_refl _))); (have S5 := Lib.hid (show w4.heap.size ≤ w5.heap.size from B5.size))))
      clear B3
      clear B4
      clear B5
      clear FT3_1
      clear FT3_2
      clear FT3_3
      clear FT4_1
      clear FT4_2
      clear FT4_3
      have xKB0_0 : w5.cell? ⟨w.heap.size, 0, none⟩ = some (.int .i64 s0_0.f0) := KB0.at_ rfl
      have xKB0_1 : w5.cell? ⟨w.heap.size, 1, none⟩ = some (.int .i64 s0_0.f1) := KB0.at_ rfl
      have xKB0_2 : w5.cell? ⟨w.heap.size, 2, none⟩ = some (.slice A0_1 n0_1 c0_1) := KB0.at_ rfl
      have xKB0_3 : w5.cell? ⟨w.heap.size, 3, none⟩ = some (.slice A0_2 n0_2 c0_2) := KB0.at_ rfl
      have xKB0_4 : w5.cell? ⟨w.heap.size, 4, none⟩ = some (.slice A0_3 n0_3 c0_3) := KB0.at_ rfl
      have xKB0_5 : w5.cell? ⟨w.heap.size, 5, none⟩ = some (.int .i64 p0_4) := KB0.at_ rfl
      go_wp2_with fail
      refine Calls.mono (to_tab s0_0 l0_1 A0_1 n0_1 c0_1 _ _ l0_2 A0_2 n0_2 c0_2 _ _ l0_3 A0_3 n0_3 c0_3 _ _ p0_4 _ hqn0_1 R0_1 hqn0_2 R0_2 hqn0_3 R0_3) ?_
      rintro e w6 ⟨T6_1, T6_2, T6_3, tc6_1, tlo6_1, thi6_1, tc6_2, tlo6_2, thi6_2, tc6_3, tlo6_3, thi6_3, rfl, FT6_1, FT6_2, FT6_3, MT6, B6⟩
      replace R0_1 := (R0_1).new B6
      replace R0_2 := (R0_2).new B6
      replace R0_3 := (R0_3).new B6
      replace R1_1 := (R1_1).new B6
      replace R1_2 := (R1_2).new B6
      replace R1_3 := (R1_3).new B6
      replace KB0 := (KB0).new B6
      replace KB1 := (KB1).new B6
      replace G := below_trans G B6 (Nat.le_refl _)
      have S6 := Lib.hid (show w5.heap.size + 0 ≤ w6.heap.size by have := B6.size; first | (simpa using this) | ((try simp at this); omega))
      clear B6
      clear xKB0_0 xKB0_1 xKB0_2 xKB0_3 xKB0_4 xKB0_5
      have SA8 := Lib.hid (show (w6.alloc (.cells #[.int .i64 s0_0.f0, .int .i64 s0_0.f1, .slice T6_1 n0_1 tc6_1, .slice T6_2 n0_2 tc6_2, .slice T6_3 n0_3 tc6_3, .int .i64 p0_4] 57)).heap.size = w6.heap.size + 1 by simp)
      replace R0_1 := R0_1.alloc (.cells #[.int .i64 s0_0.f0, .int .i64 s0_0.f1, .slice T6_1 n0_1 tc6_1, .slice T6_2 n0_2 tc6_2, .slice T6_3 n0_3 tc6_3, .int .i64 p0_4] 57)
      replace R0_2 := R0_2.alloc (.cells #[.int .i64 s0_0.f0, .int .i64 s0_0.f1, .slice T6_1 n0_1 tc6_1, .slice T6_2 n0_2 tc6_2, .slice T6_3 n0_3 tc6_3, .int .i64 p0_4] 57)
      replace R0_3 := R0_3.alloc (.cells #[.int .i64 s0_0.f0, .int .i64 s0_0.f1, .slice T6_1 n0_1 tc6_1, .slice T6_2 n0_2 tc6_2, .slice T6_3 n0_3 tc6_3, .int .i64 p0_4] 57)
      replace R1_1 := R1_1.alloc (.cells #[.int .i64 s0_0.f0, .int .i64 s0_0.f1, .slice T6_1 n0_1 tc6_1, .slice T6_2 n0_2 tc6_2, .slice T6_3 n0_3 tc6_3, .int .i64 p0_4] 57)
      replace R1_2 := R1_2.alloc (.cells #[.int .i64 s0_0.f0, .int .i64 s0_0.f1, .slice T6_1 n0_1 tc6_1, .slice T6_2 n0_2 tc6_2, .slice T6_3 n0_3 tc6_3, .int .i64 p0_4] 57)
      replace R1_3 := R1_3.alloc (.cells #[.int .i64 s0_0.f0, .int .i64 s0_0.f1, .slice T6_1 n0_1 tc6_1, .slice T6_2 n0_2 tc6_2, .slice T6_3 n0_3 tc6_3, .int .i64 p0_4] 57)
      replace KB0 := KB0.alloc_ (.cells #[.int .i64 s0_0.f0, .int .i64 s0_0.f1, .slice T6_1 n0_1 tc6_1, .slice T6_2 n0_2 tc6_2, .slice T6_3 n0_3 tc6_3, .int .i64 p0_4] 57)
      replace KB1 := KB1.alloc_ (.cells #[.int .i64 s0_0.f0, .int .i64 s0_0.f1, .slice T6_1 n0_1 tc6_1, .slice T6_2 n0_2 tc6_2, .slice T6_3 n0_3 tc6_3, .int .i64 p0_4] 57)
      replace FT6_1 := FT6_1.alloc (.cells #[.int .i64 s0_0.f0, .int .i64 s0_0.f1, .slice T6_1 n0_1 tc6_1, .slice T6_2 n0_2 tc6_2, .slice T6_3 n0_3 tc6_3, .int .i64 p0_4] 57)
      replace FT6_2 := FT6_2.alloc (.cells #[.int .i64 s0_0.f0, .int .i64 s0_0.f1, .slice T6_1 n0_1 tc6_1, .slice T6_2 n0_2 tc6_2, .slice T6_3 n0_3 tc6_3, .int .i64 p0_4] 57)
      replace FT6_3 := FT6_3.alloc (.cells #[.int .i64 s0_0.f0, .int .i64 s0_0.f1, .slice T6_1 n0_1 tc6_1, .slice T6_2 n0_2 tc6_2, .slice T6_3 n0_3 tc6_3, .int .i64 p0_4] 57)
      have KX7 : BoxAt (w6.alloc (.cells #[.int .i64 s0_0.f0, .int .i64 s0_0.f1, .slice T6_1 n0_1 tc6_1, .slice T6_2 n0_2 tc6_2, .slice T6_3 n0_3 tc6_3, .int .i64 p0_4] 57)) (w6.heap.size) 57 #[.int .i64 s0_0.f0, .int .i64 s0_0.f1, .slice T6_1 n0_1 tc6_1, .slice T6_2 n0_2 tc6_2, .slice T6_3 n0_3 tc6_3, .int .i64 p0_4] := box_new _ _ _
      replace G := G.alloc (by have := S0.out; have := S1.out; have := S2.out; have := S3.out; have := S4.out; have := S5.out; have := S6.out; have := SA8.out; have := MT3.out; unfold SepTab at this; have := MT4.out; unfold SepTab at this; have := MT6.out; unfold SepTab at this; first | omega | (simp; omega)) (.cells #[.int .i64 s0_0.f0, .int .i64 s0_0.f1, .slice T6_1 n0_1 tc6_1, .slice T6_2 n0_2 tc6_2, .slice T6_3 n0_3 tc6_3, .int .i64 p0_4] 57)
      have xKB1_0 : (w6.alloc (.cells #[.int .i64 s0_0.f0, .int .i64 s0_0.f1, .slice T6_1 n0_1 tc6_1, .slice T6_2 n0_2 tc6_2, .slice T6_3 n0_3 tc6_3, .int .i64 p0_4] 57)).cell? ⟨w.heap.size + 1, 0, none⟩ = some (.int .i64 s1_0.f0) := KB1.at_ rfl
      have xKB1_1 : (w6.alloc (.cells #[.int .i64 s0_0.f0, .int .i64 s0_0.f1, .slice T6_1 n0_1 tc6_1, .slice T6_2 n0_2 tc6_2, .slice T6_3 n0_3 tc6_3, .int .i64 p0_4] 57)).cell? ⟨w.heap.size + 1, 1, none⟩ = some (.int .i64 s1_0.f1) := KB1.at_ rfl
      have xKB1_2 : (w6.alloc (.cells #[.int .i64 s0_0.f0, .int .i64 s0_0.f1, .slice T6_1 n0_1 tc6_1, .slice T6_2 n0_2 tc6_2, .slice T6_3 n0_3 tc6_3, .int .i64 p0_4] 57)).cell? ⟨w.heap.size + 1, 2, none⟩ = some (.slice A1_1 n1_1 c1_1) := KB1.at_ rfl
      have xKB1_3 : (w6.alloc (.cells #[.int .i64 s0_0.f0, .int .i64 s0_0.f1, .slice T6_1 n0_1 tc6_1, .slice T6_2 n0_2 tc6_2, .slice T6_3 n0_3 tc6_3, .int .i64 p0_4] 57)).cell? ⟨w.heap.size + 1, 3, none⟩ = some (.slice A1_2 n1_2 c1_2) := KB1.at_ rfl
      have xKB1_4 : (w6.alloc (.cells #[.int .i64 s0_0.f0, .int .i64 s0_0.f1, .slice T6_1 n0_1 tc6_1, .slice T6_2 n0_2 tc6_2, .slice T6_3 n0_3 tc6_3, .int .i64 p0_4] 57)).cell? ⟨w.heap.size + 1, 4, none⟩ = some (.slice A1_3 n1_3 c1_3) := KB1.at_ rfl
      have xKB1_5 : (w6.alloc (.cells #[.int .i64 s0_0.f0, .int .i64 s0_0.f1, .slice T6_1 n0_1 tc6_1, .slice T6_2 n0_2 tc6_2, .slice T6_3 n0_3 tc6_3, .int .i64 p0_4] 57)).cell? ⟨w.heap.size + 1, 5, none⟩ = some (.int .i64 p1_4) := KB1.at_ rfl
      go_wp2_with fail
      refine Calls.mono (to_tab s1_0 l1_1 A1_1 n1_1 c1_1 _ _ l1_2 A1_2 n1_2 c1_2 _ _ l1_3 A1_3 n1_3 c1_3 _ _ p1_4 _ hqn1_1 R1_1 hqn1_2 R1_2 hqn1_3 R1_3) ?_
      rintro e w7 ⟨T9_1, T9_2, T9_3, tc9_1, tlo9_1, thi9_1, tc9_2, tlo9_2, thi9_2, tc9_3, tlo9_3, thi9_3, rfl, FT9_1, FT9_2, FT9_3, MT9, B9⟩
      replace R0_1 := (R0_1).new B9
      replace R0_2 := (R0_2).new B9
      replace R0_3 := (R0_3).new B9
      replace R1_1 := (R1_1).new B9
      replace R1_2 := (R1_2).new B9
      replace R1_3 := (R1_3).new B9
      replace KB0 := (KB0).new B9
      replace KB1 := (KB1).new B9
      replace FT6_1 := (FT6_1).new B9
      replace FT6_2 := (FT6_2).new B9
      replace FT6_3 := (FT6_3).new B9
      replace KX7 := (KX7).new B9
      replace G := below_trans G B9 (Nat.le_refl _)
      have S7 := Lib.hid (show (w6.alloc (.cells #[.int .i64 s0_0.f0, .int .i64 s0_0.f1, .slice T6_1 n0_1 tc6_1, .slice T6_2 n0_2 tc6_2, .slice T6_3 n0_3 tc6_3, .int .i64 p0_4] 57)).heap.size + 0 ≤ w7.heap.size by have := B9.size; first | (simpa using this) | ((try simp at this); omega))
      clear B9
      clear xKB1_0 xKB1_1 xKB1_2 xKB1_3 xKB1_4 xKB1_5
      have SA11 := Lib.hid (show (w7.alloc (.cells #[.int .i64 s1_0.f0, .int .i64 s1_0.f1, .slice T9_1 n1_1 tc9_1, .slice T9_2 n1_2 tc9_2, .slice T9_3 n1_3 tc9_3, .int .i64 p1_4] 57)).heap.size = w7.heap.size + 1 by simp)
      replace R0_1 := R0_1.alloc (.cells #[.int .i64 s1_0.f0, .int .i64 s1_0.f1, .slice T9_1 n1_1 tc9_1, .slice T9_2 n1_2 tc9_2, .slice T9_3 n1_3 tc9_3, .int .i64 p1_4] 57)
      replace R0_2 := R0_2.alloc (.cells #[.int .i64 s1_0.f0, .int .i64 s1_0.f1, .slice T9_1 n1_1 tc9_1, .slice T9_2 n1_2 tc9_2, .slice T9_3 n1_3 tc9_3, .int .i64 p1_4] 57)
      replace R0_3 := R0_3.alloc (.cells #[.int .i64 s1_0.f0, .int .i64 s1_0.f1, .slice T9_1 n1_1 tc9_1, .slice T9_2 n1_2 tc9_2, .slice T9_3 n1_3 tc9_3, .int .i64 p1_4] 57)
      replace R1_1 := R1_1.alloc (.cells #[.int .i64 s1_0.f0, .int .i64 s1_0.f1, .slice T9_1 n1_1 tc9_1, .slice T9_2 n1_2 tc9_2, .slice T9_3 n1_3 tc9_3, .int .i64 p1_4] 57)
      replace R1_2 := R1_2.alloc (.cells #[.int .i64 s1_0.f0, .int .i64 s1_0.f1, .slice T9_1 n1_1 tc9_1, .slice T9_2 n1_2 tc9_2, .slice T9_3 n1_3 tc9_3, .int .i64 p1_4] 57)
      replace R1_3 := R1_3.alloc (.cells #[.int .i64 s1_0.f0, .int .i64 s1_0.f1, .slice T9_1 n1_1 tc9_1, .slice T9_2 n1_2 tc9_2, .slice T9_3 n1_3 tc9_3, .int .i64 p1_4] 57)
      replace KB0 := KB0.alloc_ (.cells #[.int .i64 s1_0.f0, .int .i64 s1_0.f1, .slice T9_1 n1_1 tc9_1, .slice T9_2 n1_2 tc9_2, .slice T9_3 n1_3 tc9_3, .int .i64 p1_4] 57)
      replace KB1 := KB1.alloc_ (.cells #[.int .i64 s1_0.f0, .int .i64 s1_0.f1, .slice T9_1 n1_1 tc9_1, .slice T9_2 n1_2 tc9_2, .slice T9_3 n1_3 tc9_3, .int .i64 p1_4] 57)
      replace FT6_1 := FT6_1.alloc (.cells #[.int .i64 s1_0.f0, .int .i64 s1_0.f1, .slice T9_1 n1_1 tc9_1, .slice T9_2 n1_2 tc9_2, .slice T9_3 n1_3 tc9_3, .int .i64 p1_4] 57)
      replace FT6_2 := FT6_2.alloc (.cells #[.int .i64 s1_0.f0, .int .i64 s1_0.f1, .slice T9_1 n1_1 tc9_1, .slice T9_2 n1_2 tc9_2, .slice T9_3 n1_3 tc9_3, .int .i64 p1_4] 57)
      replace FT6_3 := FT6_3.alloc (.cells #[.int .i64 s1_0.f0, .int .i64 s1_0.f1, .slice T9_1 n1_1 tc9_1, .slice T9_2 n1_2 tc9_2, .slice T9_3 n1_3 tc9_3, .int .i64 p1_4] 57)
      replace KX7 := KX7.alloc_ (.cells #[.int .i64 s1_0.f0, .int .i64 s1_0.f1, .slice T9_1 n1_1 tc9_1, .slice T9_2 n1_2 tc9_2, .slice T9_3 n1_3 tc9_3, .int .i64 p1_4] 57)
      replace FT9_1 := FT9_1.alloc (.cells #[.int .i64 s1_0.f0, .int .i64 s1_0.f1, .slice T9_1 n1_1 tc9_1, .slice T9_2 n1_2 tc9_2, .slice T9_3 n1_3 tc9_3, .int .i64 p1_4] 57)
      replace FT9_2 := FT9_2.alloc (.cells #[.int .i64 s1_0.f0, .int .i64 s1_0.f1, .slice T9_1 n1_1 tc9_1, .slice T9_2 n1_2 tc9_2, .slice T9_3 n1_3 tc9_3, .int .i64 p1_4] 57)
      replace FT9_3 := FT9_3.alloc (.cells #[.int .i64 s1_0.f0, .int .i64 s1_0.f1, .slice T9_1 n1_1 tc9_1, .slice T9_2 n1_2 tc9_2, .slice T9_3 n1_3 tc9_3, .int .i64 p1_4] 57)
      have KX10 : BoxAt (w7.alloc (.cells #[.int .i64 s1_0.f0, .int .i64 s1_0.f1, .slice T9_1 n1_1 tc9_1, .slice T9_2 n1_2 tc9_2, .slice T9_3 n1_3 tc9_3, .int .i64 p1_4] 57)) (w7.heap.size) 57 #[.int .i64 s1_0.f0, .int .i64 s1_0.f1, .slice T9_1 n1_1 tc9_1, .slice T9_2 n1_2 tc9_2, .slice T9_3 n1_3 tc9_3, .int .i64 p1_4] := box_new _ _ _
      replace G := G.alloc (by have := S0.out; have := S1.out; have := S2.out; have := S3.out; have := S4.out; have := S5.out; have := S6.out; have := SA8.out; have := S7.out; have := SA11.out; have := MT3.out; unfold SepTab at this; have := MT4.out; unfold SepTab at this; have := MT6.out; unfold SepTab at this; have := MT9.out; unfold SepTab at this; first | omega | (simp; omega)) (.cells #[.int .i64 s1_0.f0, .int .i64 s1_0.f1, .slice T9_1 n1_1 tc9_1, .slice T9_2 n1_2 tc9_2, .slice T9_3 n1_3 tc9_3, .int .i64 p1_4] 57)
      have xKX7_0 : (w7.alloc (.cells #[.int .i64 s1_0.f0, .int .i64 s1_0.f1, .slice T9_1 n1_1 tc9_1, .slice T9_2 n1_2 tc9_2, .slice T9_3 n1_3 tc9_3, .int .i64 p1_4] 57)).cell? ⟨w6.heap.size, 0, none⟩ = some (.int .i64 s0_0.f0) := KX7.at_ rfl
      have xKX7_1 : (w7.alloc (.cells #[.int .i64 s1_0.f0, .int .i64 s1_0.f1, .slice T9_1 n1_1 tc9_1, .slice T9_2 n1_2 tc9_2, .slice T9_3 n1_3 tc9_3, .int .i64 p1_4] 57)).cell? ⟨w6.heap.size, 1, none⟩ = some (.int .i64 s0_0.f1) := KX7.at_ rfl
      have xKX7_2 : (w7.alloc (.cells #[.int .i64 s1_0.f0, .int .i64 s1_0.f1, .slice T9_1 n1_1 tc9_1, .slice T9_2 n1_2 tc9_2, .slice T9_3 n1_3 tc9_3, .int .i64 p1_4] 57)).cell? ⟨w6.heap.size, 2, none⟩ = some (.slice T6_1 n0_1 tc6_1) := KX7.at_ rfl
      have xKX7_3 : (w7.alloc (.cells #[.int .i64 s1_0.f0, .int .i64 s1_0.f1, .slice T9_1 n1_1 tc9_1, .slice T9_2 n1_2 tc9_2, .slice T9_3 n1_3 tc9_3, .int .i64 p1_4] 57)).cell? ⟨w6.heap.size, 3, none⟩ = some (.slice T6_2 n0_2 tc6_2) := KX7.at_ rfl
      have xKX7_4 : (w7.alloc (.cells #[.int .i64 s1_0.f0, .int .i64 s1_0.f1, .slice T9_1 n1_1 tc9_1, .slice T9_2 n1_2 tc9_2, .slice T9_3 n1_3 tc9_3, .int .i64 p1_4] 57)).cell? ⟨w6.heap.size, 4, none⟩ = some (.slice T6_3 n0_3 tc6_3) := KX7.at_ rfl
      have xKX7_5 : (w7.alloc (.cells #[.int .i64 s1_0.f0, .int .i64 s1_0.f1, .slice T9_1 n1_1 tc9_1, .slice T9_2 n1_2 tc9_2, .slice T9_3 n1_3 tc9_3, .int .i64 p1_4] 57)).cell? ⟨w6.heap.size, 5, none⟩ = some (.int .i64 p0_4) := KX7.at_ rfl
      have xKX10_0 : (w7.alloc (.cells #[.int .i64 s1_0.f0, .int .i64 s1_0.f1, .slice T9_1 n1_1 tc9_1, .slice T9_2 n1_2 tc9_2, .slice T9_3 n1_3 tc9_3, .int .i64 p1_4] 57)).cell? ⟨w7.heap.size, 0, none⟩ = some (.int .i64 s1_0.f0) := KX10.at_ rfl
      have xKX10_1 : (w7.alloc (.cells #[.int .i64 s1_0.f0, .int .i64 s1_0.f1, .slice T9_1 n1_1 tc9_1, .slice T9_2 n1_2 tc9_2, .slice T9_3 n1_3 tc9_3, .int .i64 p1_4] 57)).cell? ⟨w7.heap.size, 1, none⟩ = some (.int .i64 s1_0.f1) := KX10.at_ rfl
      have xKX10_2 : (w7.alloc (.cells #[.int .i64 s1_0.f0, .int .i64 s1_0.f1, .slice T9_1 n1_1 tc9_1, .slice T9_2 n1_2 tc9_2, .slice T9_3 n1_3 tc9_3, .int .i64 p1_4] 57)).cell? ⟨w7.heap.size, 2, none⟩ = some (.slice T9_1 n1_1 tc9_1) := KX10.at_ rfl
      have xKX10_3 : (w7.alloc (.cells #[.int .i64 s1_0.f0, .int .i64 s1_0.f1, .slice T9_1 n1_1 tc9_1, .slice T9_2 n1_2 tc9_2, .slice T9_3 n1_3 tc9_3, .int .i64 p1_4] 57)).cell? ⟨w7.heap.size, 3, none⟩ = some (.slice T9_2 n1_2 tc9_2) := KX10.at_ rfl
      have xKX10_4 : (w7.alloc (.cells #[.int .i64 s1_0.f0, .int .i64 s1_0.f1, .slice T9_1 n1_1 tc9_1, .slice T9_2 n1_2 tc9_2, .slice T9_3 n1_3 tc9_3, .int .i64 p1_4] 57)).cell? ⟨w7.heap.size, 4, none⟩ = some (.slice T9_3 n1_3 tc9_3) := KX10.at_ rfl
      have xKX10_5 : (w7.alloc (.cells #[.int .i64 s1_0.f0, .int .i64 s1_0.f1, .slice T9_1 n1_1 tc9_1, .slice T9_2 n1_2 tc9_2, .slice T9_3 n1_3 tc9_3, .int .i64 p1_4] 57)).cell? ⟨w7.heap.size, 5, none⟩ = some (.int .i64 p1_4) := KX10.at_ rfl
      go_wp2_with fail
      refine Calls.mono (impl_EqualTabs s0_0 l0_1 T6_1 n0_1 tc6_1 _ _ l0_2 T6_2 n0_2 tc6_2 _ _ l0_3 T6_3 n0_3 tc6_3 _ _ p0_4 s1_0 l1_1 T9_1 n1_1 tc9_1 _ _ l1_2 T9_2 n1_2 tc9_2 _ _ l1_3 T9_3 n1_3 tc9_3 _ _ p1_4 _ (by omega) FT6_1.rd H0_1 (by omega) FT6_2.rd H0_2 (by omega) FT6_3.rd H0_3 (by omega) FT9_1.rd H1_1 (by omega) FT9_2.rd H1_2 (by omega) FT9_3.rd H1_3) ?_
      rintro e w8 ⟨rfl, B12⟩
      replace R0_1 := (R0_1).new B12
      replace R0_2 := (R0_2).new B12
      replace R0_3 := (R0_3).new B12
      replace R1_1 := (R1_1).new B12
      replace R1_2 := (R1_2).new B12
      replace R1_3 := (R1_3).new B12
      replace KB0 := (KB0).new B12
      replace KB1 := (KB1).new B12
      replace FT6_1 := (FT6_1).new B12
      replace FT6_2 := (FT6_2).new B12
      replace FT6_3 := (FT6_3).new B12
      replace KX7 := (KX7).new B12
      replace FT9_1 := (FT9_1).new B12
      replace FT9_2 := (FT9_2).new B12
      replace FT9_3 := (FT9_3).new B12
      replace KX10 := (KX10).new B12
      replace G := below_trans G B12 (Nat.le_refl _)
      have S8 := Lib.hid (show (w7.alloc (.cells #[.int .i64 s1_0.f0, .int .i64 s1_0.f1, .slice T9_1 n1_1 tc9_1, .slice T9_2 n1_2 tc9_2, .slice T9_3 n1_3 tc9_3, .int .i64 p1_4] 57)).heap.size + 0 ≤ w8.heap.size by have := B12.size; first | (simpa using this) | ((try simp at this); omega))
      clear B12
      clear xKX7_0 xKX7_1 xKX7_2 xKX7_3 xKX7_4 xKX7_5 xKX10_0 xKX10_1 xKX10_2 xKX10_3 xKX10_4 xKX10_5
      go_wp2_with fail
      replace G := G.drew
      replace R0_1 := R0_1.drw
      replace R0_2 := R0_2.drw
      replace R0_3 := R0_3.drw
      replace R1_1 := R1_1.drw
      replace R1_2 := R1_2.drw
      replace R1_3 := R1_3.drw
      replace KB0 := KB0.drw
      replace KB1 := KB1.drw
      replace FT6_1 := FT6_1.drw
      replace FT6_2 := FT6_2.drw
      replace FT6_3 := FT6_3.drw
      replace KX7 := KX7.drw
      replace FT9_1 := FT9_1.drw
      replace FT9_2 := FT9_2.drw
      replace FT9_3 := FT9_3.drw
      replace KX10 := KX10.drw
      go_region_held3 (fun w' => w'.cell? ⟨w6.heap.size, 0, none⟩ = some (.int .i64 s0_0.f0) ∧ w'.cell? ⟨w6.heap.size, 1, none⟩ = some (.int .i64 s0_0.f1) ∧ w'.cell? ⟨w6.heap.size, 2, none⟩ = some (.slice T6_1 n0_1 tc6_1) ∧ w'.cell? ⟨w6.heap.size, 3, none⟩ = some (.slice T6_2 n0_2 tc6_2) ∧ w'.cell? ⟨w6.heap.size, 4, none⟩ = some (.slice T6_3 n0_3 tc6_3) ∧ w'.cell? ⟨w6.heap.size, 5, none⟩ = some (.int .i64 p0_4) ∧ w'.cell? ⟨w.heap.size, 0, none⟩ = some (.int .i64 s0_0.f0) ∧ w'.cell? ⟨w.heap.size, 1, none⟩ = some (.int .i64 s0_0.f1) ∧ w'.cell? ⟨w.heap.size, 2, none⟩ = some (.slice A0_1 n0_1 c0_1) ∧ w'.cell? ⟨w.heap.size, 3, none⟩ = some (.slice A0_2 n0_2 c0_2) ∧ w'.cell? ⟨w.heap.size, 4, none⟩ = some (.slice A0_3 n0_3 c0_3) ∧ w'.cell? ⟨w.heap.size, 5, none⟩ = some (.int .i64 p0_4))
        (exact ⟨KX7.at_ rfl, KX7.at_ rfl, KX7.at_ rfl, KX7.at_ rfl, KX7.at_ rfl, KX7.at_ rfl, KB0.at_ rfl, KB0.at_ rfl, KB0.at_ rfl, KB0.at_ rfl, KB0.at_ rfl, KB0.at_ rfl⟩)
        (first
          | (go_at_call 32; (fail_if_success (have hx := B13)); refine Calls.mono (to_tab s0_0 l0_1 A0_1 n0_1 c0_1 _ _ l0_2 A0_2 n0_2 c0_2 _ _ l0_3 A0_3 n0_3 c0_3 _ _ p0_4 _ hqn0_1 R0_1 hqn0_2 R0_2 hqn0_3 R0_3) ?_; rintro e w9 ⟨T13_1, T13_2, T13_3, tc13_1, tlo13_1, thi13_1, tc13_2, tlo13_2, thi13_2, tc13_3, tlo13_3, thi13_3, rfl, FT13_1, FT13_2, FT13_3, MT13, B13⟩; (replace R0_1 := rd_nw B13 R0_1); (replace R0_2 := rd_nw B13 R0_2); (replace R0_3 := rd_nw B13 R0_3); (replace R1_1 := rd_nw B13 R1_1); (replace R1_2 := rd_nw B13 R1_2); (replace R1_3 := rd_nw B13 R1_3); (replace KB0 := box_nw B13 KB0); (replace KB1 := box_nw B13 KB1); (replace FT6_1 := fr_nw B13 FT6_1); (replace FT6_2 := fr_nw B13 FT6_2); (replace FT6_3 := fr_nw B13 FT6_3); (replace KX7 := box_nw B13 KX7); (replace FT9_1 := fr_nw B13 FT9_1); (replace FT9_2 := fr_nw B13 FT9_2); (replace FT9_3 := fr_nw B13 FT9_3); (replace KX10 := box_nw B13 KX10); (replace G := (by first | exact below_trans G B13 (Nat.le_refl _) | exact below_trans G.drew B13 (Nat.le_refl _) | exact below_trans (below_dN G _) B13 (Nat.le_refl _))); (have S9 := Lib.hid (show w8.heap.size ≤ w9.heap.size from B13.size)))
          | (go_at_call 34; (fail_if_success (have hx := B14)); refine Calls.mono (eq_tab_same s0_0 l0_1 n0_1 T6_1 T13_1 tc6_1 tc13_1 _ _ _ _ l0_2 n0_2 T6_2 T13_2 tc6_2 tc13_2 _ _ _ _ l0_3 n0_3 T6_3 T13_3 tc6_3 tc13_3 _ _ _ _ p0_4 _ (by omega) (by omega) (by omega) FT6_1.rd FT6_2.rd FT6_3.rd FT13_1.rd FT13_2.rd FT13_3.rd) ?_; rintro e w10 ⟨rfl, B14⟩; (replace R0_1 := rd_nw B14 R0_1); (replace R0_2 := rd_nw B14 R0_2); (replace R0_3 := rd_nw B14 R0_3); (replace R1_1 := rd_nw B14 R1_1); (replace R1_2 := rd_nw B14 R1_2); (replace R1_3 := rd_nw B14 R1_3); (replace KB0 := box_nw B14 KB0); (replace KB1 := box_nw B14 KB1); (replace FT6_1 := fr_nw B14 FT6_1); (replace FT6_2 := fr_nw B14 FT6_2); (replace FT6_3 := fr_nw B14 FT6_3); (replace KX7 := box_nw B14 KX7); (replace FT9_1 := fr_nw B14 FT9_1); (replace FT9_2 := fr_nw B14 FT9_2); (replace FT9_3 := fr_nw B14 FT9_3); (replace KX10 := box_nw B14 KX10); (replace FT13_1 := fr_nw B14 FT13_1); (replace FT13_2 := fr_nw B14 FT13_2); (replace FT13_3 := fr_nw B14 FT13_3); (replace G := (by first | exact below_trans G B14 (Nat.le_refl _) | exact below_trans G.drew B14 (Nat.le_refl _) | exact below_trans (below_dN G _) B14 (Nat.le_refl _))); (have S10 := Lib.hid (show w9.heap.size ≤ w10.heap.size from B14.size))))
      clear B13
      clear B14
      clear FT13_1
      clear FT13_2
      clear FT13_3
      go_wp2_with fail
      replace G := G.drew
      replace R0_1 := R0_1.drw
      replace R0_2 := R0_2.drw
      replace R0_3 := R0_3.drw
      replace R1_1 := R1_1.drw
      replace R1_2 := R1_2.drw
      replace R1_3 := R1_3.drw
      replace KB0 := KB0.drw
      replace KB1 := KB1.drw
      replace FT6_1 := FT6_1.drw
      replace FT6_2 := FT6_2.drw
      replace FT6_3 := FT6_3.drw
      replace KX7 := KX7.drw
      replace FT9_1 := FT9_1.drw
      replace FT9_2 := FT9_2.drw
      replace FT9_3 := FT9_3.drw
      replace KX10 := KX10.drw
      go_region_held3 (fun w' => w'.cell? ⟨w7.heap.size, 0, none⟩ = some (.int .i64 s1_0.f0) ∧ w'.cell? ⟨w7.heap.size, 1, none⟩ = some (.int .i64 s1_0.f1) ∧ w'.cell? ⟨w7.heap.size, 2, none⟩ = some (.slice T9_1 n1_1 tc9_1) ∧ w'.cell? ⟨w7.heap.size, 3, none⟩ = some (.slice T9_2 n1_2 tc9_2) ∧ w'.cell? ⟨w7.heap.size, 4, none⟩ = some (.slice T9_3 n1_3 tc9_3) ∧ w'.cell? ⟨w7.heap.size, 5, none⟩ = some (.int .i64 p1_4) ∧ w'.cell? ⟨w.heap.size + 1, 0, none⟩ = some (.int .i64 s1_0.f0) ∧ w'.cell? ⟨w.heap.size + 1, 1, none⟩ = some (.int .i64 s1_0.f1) ∧ w'.cell? ⟨w.heap.size + 1, 2, none⟩ = some (.slice A1_1 n1_1 c1_1) ∧ w'.cell? ⟨w.heap.size + 1, 3, none⟩ = some (.slice A1_2 n1_2 c1_2) ∧ w'.cell? ⟨w.heap.size + 1, 4, none⟩ = some (.slice A1_3 n1_3 c1_3) ∧ w'.cell? ⟨w.heap.size + 1, 5, none⟩ = some (.int .i64 p1_4))
        (exact ⟨KX10.at_ rfl, KX10.at_ rfl, KX10.at_ rfl, KX10.at_ rfl, KX10.at_ rfl, KX10.at_ rfl, KB1.at_ rfl, KB1.at_ rfl, KB1.at_ rfl, KB1.at_ rfl, KB1.at_ rfl, KB1.at_ rfl⟩)
        (first
          | (go_at_call 32; (fail_if_success (have hx := B15)); refine Calls.mono (to_tab s1_0 l1_1 A1_1 n1_1 c1_1 _ _ l1_2 A1_2 n1_2 c1_2 _ _ l1_3 A1_3 n1_3 c1_3 _ _ p1_4 _ hqn1_1 R1_1 hqn1_2 R1_2 hqn1_3 R1_3) ?_; rintro e w11 ⟨T15_1, T15_2, T15_3, tc15_1, tlo15_1, thi15_1, tc15_2, tlo15_2, thi15_2, tc15_3, tlo15_3, thi15_3, rfl, FT15_1, FT15_2, FT15_3, MT15, B15⟩; (replace R0_1 := rd_nw B15 R0_1); (replace R0_2 := rd_nw B15 R0_2); (replace R0_3 := rd_nw B15 R0_3); (replace R1_1 := rd_nw B15 R1_1); (replace R1_2 := rd_nw B15 R1_2); (replace R1_3 := rd_nw B15 R1_3); (replace KB0 := box_nw B15 KB0); (replace KB1 := box_nw B15 KB1); (replace FT6_1 := fr_nw B15 FT6_1); (replace FT6_2 := fr_nw B15 FT6_2); (replace FT6_3 := fr_nw B15 FT6_3); (replace KX7 := box_nw B15 KX7); (replace FT9_1 := fr_nw B15 FT9_1); (replace FT9_2 := fr_nw B15 FT9_2); (replace FT9_3 := fr_nw B15 FT9_3); (replace KX10 := box_nw B15 KX10); (replace G := (by first | exact below_trans G B15 (Nat.le_refl _) | exact below_trans G.drew B15 (Nat.le_refl _) | exact below_trans (below_dN G _) B15 (Nat.le_refl _))); (have S11 := Lib.hid (show w10.heap.size ≤ w11.heap.size from B15.size)))
          | (go_at_call 34; (fail_if_success (have hx := B16)); refine Calls.mono (eq_tab_same s1_0 l1_1 n1_1 T9_1 T15_1 tc9_1 tc15_1 _ _ _ _ l1_2 n1_2 T9_2 T15_2 tc9_2 tc15_2 _ _ _ _ l1_3 n1_3 T9_3 T15_3 tc9_3 tc15_3 _ _ _ _ p1_4 _ (by omega) (by omega) (by omega) FT9_1.rd FT9_2.rd FT9_3.rd FT15_1.rd FT15_2.rd FT15_3.rd) ?_; rintro e w12 ⟨rfl, B16⟩; (replace R0_1 := rd_nw B16 R0_1); (replace R0_2 := rd_nw B16 R0_2); (replace R0_3 := rd_nw B16 R0_3); (replace R1_1 := rd_nw B16 R1_1); (replace R1_2 := rd_nw B16 R1_2); (replace R1_3 := rd_nw B16 R1_3); (replace KB0 := box_nw B16 KB0); (replace KB1 := box_nw B16 KB1); (replace FT6_1 := fr_nw B16 FT6_1); (replace FT6_2 := fr_nw B16 FT6_2); (replace FT6_3 := fr_nw B16 FT6_3); (replace KX7 := box_nw B16 KX7); (replace FT9_1 := fr_nw B16 FT9_1); (replace FT9_2 := fr_nw B16 FT9_2); (replace FT9_3 := fr_nw B16 FT9_3); (replace KX10 := box_nw B16 KX10); (replace FT15_1 := fr_nw B16 FT15_1); (replace FT15_2 := fr_nw B16 FT15_2); (replace FT15_3 := fr_nw B16 FT15_3); (replace G := (by first | exact below_trans G B16 (Nat.le_refl _) | exact below_trans G.drew B16 (Nat.le_refl _) | exact below_trans (below_dN G _) B16 (Nat.le_refl _))); (have S12 := Lib.hid (show w11.heap.size ≤ w12.heap.size from B16.size))))
      clear B15
      clear B16
      clear FT15_1
      clear FT15_2
      clear FT15_3
      go_wp2_with fail
      go_ret
      exact ⟨rfl, G⟩
    · skip
      have G : Below w.heap.size w ((w.alloc (.cells #[.int .i64 s0_0.f0, .int .i64 s0_0.f1, .slice A0_1 n0_1 c0_1, .slice A0_2 n0_2 c0_2, .slice A0_3 n0_3 c0_3, .int .i64 p0_4] 50)).alloc (.cells #[.int .i64 s1_0.f0, .int .i64 s1_0.f1, .slice A1_1 n1_1 c1_1, .slice A1_2 n1_2 c1_2, .slice A1_3 n1_3 c1_3, .int .i64 p1_4] 50)) := ((Below.refl _ _).alloc (by simp) _).alloc (by simp) _
      have S0 := Lib.hid (show ((w.alloc (.cells #[.int .i64 s0_0.f0, .int .i64 s0_0.f1, .slice A0_1 n0_1 c0_1, .slice A0_2 n0_2 c0_2, .slice A0_3 n0_3 c0_3, .int .i64 p0_4] 50)).alloc (.cells #[.int .i64 s1_0.f0, .int .i64 s1_0.f1, .slice A1_1 n1_1 c1_1, .slice A1_2 n1_2 c1_2, .slice A1_3 n1_3 c1_3, .int .i64 p1_4] 50)).heap.size = w.heap.size + 2 by simp)
      replace R0_1 := R0_1.alloc (.cells #[.int .i64 s0_0.f0, .int .i64 s0_0.f1, .slice A0_1 n0_1 c0_1, .slice A0_2 n0_2 c0_2, .slice A0_3 n0_3 c0_3, .int .i64 p0_4] 50)
      replace R0_2 := R0_2.alloc (.cells #[.int .i64 s0_0.f0, .int .i64 s0_0.f1, .slice A0_1 n0_1 c0_1, .slice A0_2 n0_2 c0_2, .slice A0_3 n0_3 c0_3, .int .i64 p0_4] 50)
      replace R0_3 := R0_3.alloc (.cells #[.int .i64 s0_0.f0, .int .i64 s0_0.f1, .slice A0_1 n0_1 c0_1, .slice A0_2 n0_2 c0_2, .slice A0_3 n0_3 c0_3, .int .i64 p0_4] 50)
      replace R1_1 := R1_1.alloc (.cells #[.int .i64 s0_0.f0, .int .i64 s0_0.f1, .slice A0_1 n0_1 c0_1, .slice A0_2 n0_2 c0_2, .slice A0_3 n0_3 c0_3, .int .i64 p0_4] 50)
      replace R1_2 := R1_2.alloc (.cells #[.int .i64 s0_0.f0, .int .i64 s0_0.f1, .slice A0_1 n0_1 c0_1, .slice A0_2 n0_2 c0_2, .slice A0_3 n0_3 c0_3, .int .i64 p0_4] 50)
      replace R1_3 := R1_3.alloc (.cells #[.int .i64 s0_0.f0, .int .i64 s0_0.f1, .slice A0_1 n0_1 c0_1, .slice A0_2 n0_2 c0_2, .slice A0_3 n0_3 c0_3, .int .i64 p0_4] 50)
      have KB0 : BoxAt (w.alloc (.cells #[.int .i64 s0_0.f0, .int .i64 s0_0.f1, .slice A0_1 n0_1 c0_1, .slice A0_2 n0_2 c0_2, .slice A0_3 n0_3 c0_3, .int .i64 p0_4] 50)) (w.heap.size) 50 #[.int .i64 s0_0.f0, .int .i64 s0_0.f1, .slice A0_1 n0_1 c0_1, .slice A0_2 n0_2 c0_2, .slice A0_3 n0_3 c0_3, .int .i64 p0_4] := box_new _ _ _
      replace R0_1 := R0_1.alloc (.cells #[.int .i64 s1_0.f0, .int .i64 s1_0.f1, .slice A1_1 n1_1 c1_1, .slice A1_2 n1_2 c1_2, .slice A1_3 n1_3 c1_3, .int .i64 p1_4] 50)
      replace R0_2 := R0_2.alloc (.cells #[.int .i64 s1_0.f0, .int .i64 s1_0.f1, .slice A1_1 n1_1 c1_1, .slice A1_2 n1_2 c1_2, .slice A1_3 n1_3 c1_3, .int .i64 p1_4] 50)
      replace R0_3 := R0_3.alloc (.cells #[.int .i64 s1_0.f0, .int .i64 s1_0.f1, .slice A1_1 n1_1 c1_1, .slice A1_2 n1_2 c1_2, .slice A1_3 n1_3 c1_3, .int .i64 p1_4] 50)
      replace R1_1 := R1_1.alloc (.cells #[.int .i64 s1_0.f0, .int .i64 s1_0.f1, .slice A1_1 n1_1 c1_1, .slice A1_2 n1_2 c1_2, .slice A1_3 n1_3 c1_3, .int .i64 p1_4] 50)
      replace R1_2 := R1_2.alloc (.cells #[.int .i64 s1_0.f0, .int .i64 s1_0.f1, .slice A1_1 n1_1 c1_1, .slice A1_2 n1_2 c1_2, .slice A1_3 n1_3 c1_3, .int .i64 p1_4] 50)
      replace R1_3 := R1_3.alloc (.cells #[.int .i64 s1_0.f0, .int .i64 s1_0.f1, .slice A1_1 n1_1 c1_1, .slice A1_2 n1_2 c1_2, .slice A1_3 n1_3 c1_3, .int .i64 p1_4] 50)
      replace KB0 := KB0.alloc_ (.cells #[.int .i64 s1_0.f0, .int .i64 s1_0.f1, .slice A1_1 n1_1 c1_1, .slice A1_2 n1_2 c1_2, .slice A1_3 n1_3 c1_3, .int .i64 p1_4] 50)
      have KB1 : BoxAt ((w.alloc (.cells #[.int .i64 s0_0.f0, .int .i64 s0_0.f1, .slice A0_1 n0_1 c0_1, .slice A0_2 n0_2 c0_2, .slice A0_3 n0_3 c0_3, .int .i64 p0_4] 50)).alloc (.cells #[.int .i64 s1_0.f0, .int .i64 s1_0.f1, .slice A1_1 n1_1 c1_1, .slice A1_2 n1_2 c1_2, .slice A1_3 n1_3 c1_3, .int .i64 p1_4] 50)) (w.heap.size + 1) 50 #[.int .i64 s1_0.f0, .int .i64 s1_0.f1, .slice A1_1 n1_1 c1_1, .slice A1_2 n1_2 c1_2, .slice A1_3 n1_3 c1_3, .int .i64 p1_4] := by simpa using box_new (w.alloc (.cells #[.int .i64 s0_0.f0, .int .i64 s0_0.f1, .slice A0_1 n0_1 c0_1, .slice A0_2 n0_2 c0_2, .slice A0_3 n0_3 c0_3, .int .i64 p0_4] 50)) 50 #[.int .i64 s1_0.f0, .int .i64 s1_0.f1, .slice A1_1 n1_1 c1_1, .slice A1_2 n1_2 c1_2, .slice A1_3 n1_3 c1_3, .int .i64 p1_4]
      go_enter Try.func7, Try.ntmps7
      have xKB0_0 : ((w.alloc (.cells #[.int .i64 s0_0.f0, .int .i64 s0_0.f1, .slice A0_1 n0_1 c0_1, .slice A0_2 n0_2 c0_2, .slice A0_3 n0_3 c0_3, .int .i64 p0_4] 50)).alloc (.cells #[.int .i64 s1_0.f0, .int .i64 s1_0.f1, .slice A1_1 n1_1 c1_1, .slice A1_2 n1_2 c1_2, .slice A1_3 n1_3 c1_3, .int .i64 p1_4] 50)).cell? ⟨w.heap.size, 0, none⟩ = some (.int .i64 s0_0.f0) := KB0.at_ rfl
      have xKB0_1 : ((w.alloc (.cells #[.int .i64 s0_0.f0, .int .i64 s0_0.f1, .slice A0_1 n0_1 c0_1, .slice A0_2 n0_2 c0_2, .slice A0_3 n0_3 c0_3, .int .i64 p0_4] 50)).alloc (.cells #[.int .i64 s1_0.f0, .int .i64 s1_0.f1, .slice A1_1 n1_1 c1_1, .slice A1_2 n1_2 c1_2, .slice A1_3 n1_3 c1_3, .int .i64 p1_4] 50)).cell? ⟨w.heap.size, 1, none⟩ = some (.int .i64 s0_0.f1) := KB0.at_ rfl
      have xKB0_2 : ((w.alloc (.cells #[.int .i64 s0_0.f0, .int .i64 s0_0.f1, .slice A0_1 n0_1 c0_1, .slice A0_2 n0_2 c0_2, .slice A0_3 n0_3 c0_3, .int .i64 p0_4] 50)).alloc (.cells #[.int .i64 s1_0.f0, .int .i64 s1_0.f1, .slice A1_1 n1_1 c1_1, .slice A1_2 n1_2 c1_2, .slice A1_3 n1_3 c1_3, .int .i64 p1_4] 50)).cell? ⟨w.heap.size, 2, none⟩ = some (.slice A0_1 n0_1 c0_1) := KB0.at_ rfl
      have xKB0_3 : ((w.alloc (.cells #[.int .i64 s0_0.f0, .int .i64 s0_0.f1, .slice A0_1 n0_1 c0_1, .slice A0_2 n0_2 c0_2, .slice A0_3 n0_3 c0_3, .int .i64 p0_4] 50)).alloc (.cells #[.int .i64 s1_0.f0, .int .i64 s1_0.f1, .slice A1_1 n1_1 c1_1, .slice A1_2 n1_2 c1_2, .slice A1_3 n1_3 c1_3, .int .i64 p1_4] 50)).cell? ⟨w.heap.size, 3, none⟩ = some (.slice A0_2 n0_2 c0_2) := KB0.at_ rfl
      have xKB0_4 : ((w.alloc (.cells #[.int .i64 s0_0.f0, .int .i64 s0_0.f1, .slice A0_1 n0_1 c0_1, .slice A0_2 n0_2 c0_2, .slice A0_3 n0_3 c0_3, .int .i64 p0_4] 50)).alloc (.cells #[.int .i64 s1_0.f0, .int .i64 s1_0.f1, .slice A1_1 n1_1 c1_1, .slice A1_2 n1_2 c1_2, .slice A1_3 n1_3 c1_3, .int .i64 p1_4] 50)).cell? ⟨w.heap.size, 4, none⟩ = some (.slice A0_3 n0_3 c0_3) := KB0.at_ rfl
      have xKB0_5 : ((w.alloc (.cells #[.int .i64 s0_0.f0, .int .i64 s0_0.f1, .slice A0_1 n0_1 c0_1, .slice A0_2 n0_2 c0_2, .slice A0_3 n0_3 c0_3, .int .i64 p0_4] 50)).alloc (.cells #[.int .i64 s1_0.f0, .int .i64 s1_0.f1, .slice A1_1 n1_1 c1_1, .slice A1_2 n1_2 c1_2, .slice A1_3 n1_3 c1_3, .int .i64 p1_4] 50)).cell? ⟨w.heap.size, 5, none⟩ = some (.int .i64 p0_4) := KB0.at_ rfl
      go_wp2_with fail
      refine Calls.mono (sz_tab s0_0 A0_1 n0_1 c0_1 A0_2 n0_2 c0_2 A0_3 n0_3 c0_3 p0_4 (1048576) _ hm0_1 hm0_2 hm0_3 (by omega) (by omega)) ?_
      rintro e w1 ⟨rfl, B17⟩
      replace R0_1 := (R0_1).new B17
      replace R0_2 := (R0_2).new B17
      replace R0_3 := (R0_3).new B17
      replace R1_1 := (R1_1).new B17
      replace R1_2 := (R1_2).new B17
      replace R1_3 := (R1_3).new B17
      replace KB0 := (KB0).new B17
      replace KB1 := (KB1).new B17
      replace G := below_trans G B17 (Nat.le_refl _)
      have S1 := Lib.hid (show ((w.alloc (.cells #[.int .i64 s0_0.f0, .int .i64 s0_0.f1, .slice A0_1 n0_1 c0_1, .slice A0_2 n0_2 c0_2, .slice A0_3 n0_3 c0_3, .int .i64 p0_4] 50)).alloc (.cells #[.int .i64 s1_0.f0, .int .i64 s1_0.f1, .slice A1_1 n1_1 c1_1, .slice A1_2 n1_2 c1_2, .slice A1_3 n1_3 c1_3, .int .i64 p1_4] 50)).heap.size + 0 ≤ w1.heap.size by have := B17.size; first | (simpa using this) | ((try simp at this); omega))
      clear B17
      clear xKB0_0 xKB0_1 xKB0_2 xKB0_3 xKB0_4 xKB0_5
      have xKB1_0 : w1.cell? ⟨w.heap.size + 1, 0, none⟩ = some (.int .i64 s1_0.f0) := KB1.at_ rfl
      have xKB1_1 : w1.cell? ⟨w.heap.size + 1, 1, none⟩ = some (.int .i64 s1_0.f1) := KB1.at_ rfl
      have xKB1_2 : w1.cell? ⟨w.heap.size + 1, 2, none⟩ = some (.slice A1_1 n1_1 c1_1) := KB1.at_ rfl
      have xKB1_3 : w1.cell? ⟨w.heap.size + 1, 3, none⟩ = some (.slice A1_2 n1_2 c1_2) := KB1.at_ rfl
      have xKB1_4 : w1.cell? ⟨w.heap.size + 1, 4, none⟩ = some (.slice A1_3 n1_3 c1_3) := KB1.at_ rfl
      have xKB1_5 : w1.cell? ⟨w.heap.size + 1, 5, none⟩ = some (.int .i64 p1_4) := KB1.at_ rfl
      go_wp2_with fail
      refine Calls.mono (szno_tab s1_0 A1_1 n1_1 c1_1 A1_2 n1_2 c1_2 A1_3 n1_3 c1_3 p1_4 (1048576 - (n0_1 : Int) - (n0_2 : Int) - (n0_3 : Int)) _ hm1_1 hm1_2 hm1_3 (by omega) (by omega) (by omega)) ?_
      rintro e w2 ⟨rfl, B18⟩
      clear xKB1_0 xKB1_1 xKB1_2 xKB1_3 xKB1_4 xKB1_5
      go_wp2_with fail
      go_ret
      exact ⟨rfl, below_trans G B18 (Nat.le_refl _)⟩
  · skip
    have G : Below w.heap.size w ((w.alloc (.cells #[.int .i64 s0_0.f0, .int .i64 s0_0.f1, .slice A0_1 n0_1 c0_1, .slice A0_2 n0_2 c0_2, .slice A0_3 n0_3 c0_3, .int .i64 p0_4] 50)).alloc (.cells #[.int .i64 s1_0.f0, .int .i64 s1_0.f1, .slice A1_1 n1_1 c1_1, .slice A1_2 n1_2 c1_2, .slice A1_3 n1_3 c1_3, .int .i64 p1_4] 50)) := ((Below.refl _ _).alloc (by simp) _).alloc (by simp) _
    have S0 := Lib.hid (show ((w.alloc (.cells #[.int .i64 s0_0.f0, .int .i64 s0_0.f1, .slice A0_1 n0_1 c0_1, .slice A0_2 n0_2 c0_2, .slice A0_3 n0_3 c0_3, .int .i64 p0_4] 50)).alloc (.cells #[.int .i64 s1_0.f0, .int .i64 s1_0.f1, .slice A1_1 n1_1 c1_1, .slice A1_2 n1_2 c1_2, .slice A1_3 n1_3 c1_3, .int .i64 p1_4] 50)).heap.size = w.heap.size + 2 by simp)
    replace R0_1 := R0_1.alloc (.cells #[.int .i64 s0_0.f0, .int .i64 s0_0.f1, .slice A0_1 n0_1 c0_1, .slice A0_2 n0_2 c0_2, .slice A0_3 n0_3 c0_3, .int .i64 p0_4] 50)
    replace R0_2 := R0_2.alloc (.cells #[.int .i64 s0_0.f0, .int .i64 s0_0.f1, .slice A0_1 n0_1 c0_1, .slice A0_2 n0_2 c0_2, .slice A0_3 n0_3 c0_3, .int .i64 p0_4] 50)
    replace R0_3 := R0_3.alloc (.cells #[.int .i64 s0_0.f0, .int .i64 s0_0.f1, .slice A0_1 n0_1 c0_1, .slice A0_2 n0_2 c0_2, .slice A0_3 n0_3 c0_3, .int .i64 p0_4] 50)
    replace R1_1 := R1_1.alloc (.cells #[.int .i64 s0_0.f0, .int .i64 s0_0.f1, .slice A0_1 n0_1 c0_1, .slice A0_2 n0_2 c0_2, .slice A0_3 n0_3 c0_3, .int .i64 p0_4] 50)
    replace R1_2 := R1_2.alloc (.cells #[.int .i64 s0_0.f0, .int .i64 s0_0.f1, .slice A0_1 n0_1 c0_1, .slice A0_2 n0_2 c0_2, .slice A0_3 n0_3 c0_3, .int .i64 p0_4] 50)
    replace R1_3 := R1_3.alloc (.cells #[.int .i64 s0_0.f0, .int .i64 s0_0.f1, .slice A0_1 n0_1 c0_1, .slice A0_2 n0_2 c0_2, .slice A0_3 n0_3 c0_3, .int .i64 p0_4] 50)
    have KB0 : BoxAt (w.alloc (.cells #[.int .i64 s0_0.f0, .int .i64 s0_0.f1, .slice A0_1 n0_1 c0_1, .slice A0_2 n0_2 c0_2, .slice A0_3 n0_3 c0_3, .int .i64 p0_4] 50)) (w.heap.size) 50 #[.int .i64 s0_0.f0, .int .i64 s0_0.f1, .slice A0_1 n0_1 c0_1, .slice A0_2 n0_2 c0_2, .slice A0_3 n0_3 c0_3, .int .i64 p0_4] := box_new _ _ _
    replace R0_1 := R0_1.alloc (.cells #[.int .i64 s1_0.f0, .int .i64 s1_0.f1, .slice A1_1 n1_1 c1_1, .slice A1_2 n1_2 c1_2, .slice A1_3 n1_3 c1_3, .int .i64 p1_4] 50)
    replace R0_2 := R0_2.alloc (.cells #[.int .i64 s1_0.f0, .int .i64 s1_0.f1, .slice A1_1 n1_1 c1_1, .slice A1_2 n1_2 c1_2, .slice A1_3 n1_3 c1_3, .int .i64 p1_4] 50)
    replace R0_3 := R0_3.alloc (.cells #[.int .i64 s1_0.f0, .int .i64 s1_0.f1, .slice A1_1 n1_1 c1_1, .slice A1_2 n1_2 c1_2, .slice A1_3 n1_3 c1_3, .int .i64 p1_4] 50)
    replace R1_1 := R1_1.alloc (.cells #[.int .i64 s1_0.f0, .int .i64 s1_0.f1, .slice A1_1 n1_1 c1_1, .slice A1_2 n1_2 c1_2, .slice A1_3 n1_3 c1_3, .int .i64 p1_4] 50)
    replace R1_2 := R1_2.alloc (.cells #[.int .i64 s1_0.f0, .int .i64 s1_0.f1, .slice A1_1 n1_1 c1_1, .slice A1_2 n1_2 c1_2, .slice A1_3 n1_3 c1_3, .int .i64 p1_4] 50)
    replace R1_3 := R1_3.alloc (.cells #[.int .i64 s1_0.f0, .int .i64 s1_0.f1, .slice A1_1 n1_1 c1_1, .slice A1_2 n1_2 c1_2, .slice A1_3 n1_3 c1_3, .int .i64 p1_4] 50)
    replace KB0 := KB0.alloc_ (.cells #[.int .i64 s1_0.f0, .int .i64 s1_0.f1, .slice A1_1 n1_1 c1_1, .slice A1_2 n1_2 c1_2, .slice A1_3 n1_3 c1_3, .int .i64 p1_4] 50)
    have KB1 : BoxAt ((w.alloc (.cells #[.int .i64 s0_0.f0, .int .i64 s0_0.f1, .slice A0_1 n0_1 c0_1, .slice A0_2 n0_2 c0_2, .slice A0_3 n0_3 c0_3, .int .i64 p0_4] 50)).alloc (.cells #[.int .i64 s1_0.f0, .int .i64 s1_0.f1, .slice A1_1 n1_1 c1_1, .slice A1_2 n1_2 c1_2, .slice A1_3 n1_3 c1_3, .int .i64 p1_4] 50)) (w.heap.size + 1) 50 #[.int .i64 s1_0.f0, .int .i64 s1_0.f1, .slice A1_1 n1_1 c1_1, .slice A1_2 n1_2 c1_2, .slice A1_3 n1_3 c1_3, .int .i64 p1_4] := by simpa using box_new (w.alloc (.cells #[.int .i64 s0_0.f0, .int .i64 s0_0.f1, .slice A0_1 n0_1 c0_1, .slice A0_2 n0_2 c0_2, .slice A0_3 n0_3 c0_3, .int .i64 p0_4] 50)) 50 #[.int .i64 s1_0.f0, .int .i64 s1_0.f1, .slice A1_1 n1_1 c1_1, .slice A1_2 n1_2 c1_2, .slice A1_3 n1_3 c1_3, .int .i64 p1_4]
    go_enter Try.func7, Try.ntmps7
    have xKB0_0 : ((w.alloc (.cells #[.int .i64 s0_0.f0, .int .i64 s0_0.f1, .slice A0_1 n0_1 c0_1, .slice A0_2 n0_2 c0_2, .slice A0_3 n0_3 c0_3, .int .i64 p0_4] 50)).alloc (.cells #[.int .i64 s1_0.f0, .int .i64 s1_0.f1, .slice A1_1 n1_1 c1_1, .slice A1_2 n1_2 c1_2, .slice A1_3 n1_3 c1_3, .int .i64 p1_4] 50)).cell? ⟨w.heap.size, 0, none⟩ = some (.int .i64 s0_0.f0) := KB0.at_ rfl
    have xKB0_1 : ((w.alloc (.cells #[.int .i64 s0_0.f0, .int .i64 s0_0.f1, .slice A0_1 n0_1 c0_1, .slice A0_2 n0_2 c0_2, .slice A0_3 n0_3 c0_3, .int .i64 p0_4] 50)).alloc (.cells #[.int .i64 s1_0.f0, .int .i64 s1_0.f1, .slice A1_1 n1_1 c1_1, .slice A1_2 n1_2 c1_2, .slice A1_3 n1_3 c1_3, .int .i64 p1_4] 50)).cell? ⟨w.heap.size, 1, none⟩ = some (.int .i64 s0_0.f1) := KB0.at_ rfl
    have xKB0_2 : ((w.alloc (.cells #[.int .i64 s0_0.f0, .int .i64 s0_0.f1, .slice A0_1 n0_1 c0_1, .slice A0_2 n0_2 c0_2, .slice A0_3 n0_3 c0_3, .int .i64 p0_4] 50)).alloc (.cells #[.int .i64 s1_0.f0, .int .i64 s1_0.f1, .slice A1_1 n1_1 c1_1, .slice A1_2 n1_2 c1_2, .slice A1_3 n1_3 c1_3, .int .i64 p1_4] 50)).cell? ⟨w.heap.size, 2, none⟩ = some (.slice A0_1 n0_1 c0_1) := KB0.at_ rfl
    have xKB0_3 : ((w.alloc (.cells #[.int .i64 s0_0.f0, .int .i64 s0_0.f1, .slice A0_1 n0_1 c0_1, .slice A0_2 n0_2 c0_2, .slice A0_3 n0_3 c0_3, .int .i64 p0_4] 50)).alloc (.cells #[.int .i64 s1_0.f0, .int .i64 s1_0.f1, .slice A1_1 n1_1 c1_1, .slice A1_2 n1_2 c1_2, .slice A1_3 n1_3 c1_3, .int .i64 p1_4] 50)).cell? ⟨w.heap.size, 3, none⟩ = some (.slice A0_2 n0_2 c0_2) := KB0.at_ rfl
    have xKB0_4 : ((w.alloc (.cells #[.int .i64 s0_0.f0, .int .i64 s0_0.f1, .slice A0_1 n0_1 c0_1, .slice A0_2 n0_2 c0_2, .slice A0_3 n0_3 c0_3, .int .i64 p0_4] 50)).alloc (.cells #[.int .i64 s1_0.f0, .int .i64 s1_0.f1, .slice A1_1 n1_1 c1_1, .slice A1_2 n1_2 c1_2, .slice A1_3 n1_3 c1_3, .int .i64 p1_4] 50)).cell? ⟨w.heap.size, 4, none⟩ = some (.slice A0_3 n0_3 c0_3) := KB0.at_ rfl
    have xKB0_5 : ((w.alloc (.cells #[.int .i64 s0_0.f0, .int .i64 s0_0.f1, .slice A0_1 n0_1 c0_1, .slice A0_2 n0_2 c0_2, .slice A0_3 n0_3 c0_3, .int .i64 p0_4] 50)).alloc (.cells #[.int .i64 s1_0.f0, .int .i64 s1_0.f1, .slice A1_1 n1_1 c1_1, .slice A1_2 n1_2 c1_2, .slice A1_3 n1_3 c1_3, .int .i64 p1_4] 50)).cell? ⟨w.heap.size, 5, none⟩ = some (.int .i64 p0_4) := KB0.at_ rfl
    go_wp2_with fail
    refine Calls.mono (szno_tab s0_0 A0_1 n0_1 c0_1 A0_2 n0_2 c0_2 A0_3 n0_3 c0_3 p0_4 (1048576) _ hm0_1 hm0_2 hm0_3 (by omega) (by omega) (by omega)) ?_
    rintro e w1 ⟨rfl, B19⟩
    clear xKB0_0 xKB0_1 xKB0_2 xKB0_3 xKB0_4 xKB0_5
    go_wp2_with fail
    go_ret
    exact ⟨rfl, below_trans G B19 (Nat.le_refl _)⟩

set_option maxRecDepth 100000 in
theorem lifted (os : Os) (started : os.Started) (H : Type) (enc : TypeId × Value → H) :
    ReturnsInHanded {} Try.checked os 7 .any (Rows.fnExactEqualTabsSpec.pre6 enc Try.prog Try.f7 Rows.fnExactEqualTabsRow.domain false) (Rows.fnExactEqualTabsSpec.post enc Try.prog Try.f7 false true false false) := by
  refine law_lifted Try.func7 (by kernel_rfl) rfl rfl (by kernel_rfl) os started
    (ChangeSpec.witness6 (enc := enc) (C := Try.checked) false ⟨#[], #[.agg #[.int .i64 0, .int .i64 0, .slice none 0 0, .slice none 0 0, .slice none 0 0, .int .i64 0], .agg #[.int .i64 0, .int .i64 0, .slice none 0 0, .slice none 0 0, .slice none 0 0, .int .i64 0]], []⟩ 8 (by kernel_rfl) (by kernel_rfl) (by kernel_rfl) (by kernel_rfl)) ?_
  intro W base args ds p hval hA hlt
  rw [Try.params7] at hA hval
  obtain ⟨v0, vs0, d0, ds0, p0, q0, hargs, rfl, rfl, h0, r0⟩ := trodAll_cons hA
  obtain ⟨v1, vs1, d1, ds1, p1, q1, rfl, rfl, rfl, h1, r1⟩ := trodAll_cons r0
  obtain ⟨rfl, rfl, rfl⟩ := trodAll_nil r1
  obtain rfl : args = #[v0, v1] := by cases args; simp_all
  obtain ⟨s0_0, A0_1, n0_1, c0_1, l0_1, A0_2, n0_2, c0_2, l0_2, A0_3, n0_3, c0_3, l0_3, p0_4, rfl, H0_0, m0_1, R0_1, H0_1, m0_2, R0_2, H0_2, m0_3, R0_3, H0_3, wf0_4⟩ := open_tab (hval 0 50 v0 rfl rfl) h0 (fun x hx => hlt x (by simp [hx]))
  obtain ⟨s1_0, A1_1, n1_1, c1_1, l1_1, A1_2, n1_2, c1_2, l1_2, A1_3, n1_3, c1_3, l1_3, p1_4, rfl, H1_0, m1_1, R1_1, H1_1, m1_2, R1_2, H1_2, m1_3, R1_3, H1_3, wf1_4⟩ := open_tab (hval 1 50 v1 rfl rfl) h1 (fun x hx => hlt x (by simp [hx]))
  exact ⟨⟨rfl, rfl, rfl⟩, walk s0_0 l0_1 A0_1 n0_1 c0_1 l0_2 A0_2 n0_2 c0_2 l0_3 A0_3 n0_3 c0_3 p0_4 s1_0 l1_1 A1_1 n1_1 c1_1 l1_2 A1_2 n1_2 c1_2 l1_3 A1_3 n1_3 c1_3 p1_4 W H0_0 m0_1 R0_1 H0_1 m0_2 R0_2 H0_2 m0_3 R0_3 H0_3 wf0_4 H1_0 m1_1 R1_1 H1_1 m1_2 R1_2 H1_2 m1_3 R1_3 H1_3 wf1_4⟩

set_option maxRecDepth 100000 in
theorem closed : joinedFacts Try.pinned.checked.prog 7 Try.f7 Rows.fnExactEqualTabsSpec Rows.fnExactEqualTabsRow = true :=
  (and_i (and_i (and_i (and_i (and_i (and_i (and_i (and_i (and_i (and_i (and_i (and_i (and_i (and_i (and_i (and_i (and_i (and_i (and_i (and_i (and_i (and_i (and_i (and_i (and_i (and_i (and_i (and_i (and_i (and_i (and_i (by as_aux_lemma => kernel_rfl) seatLaid) sf_maps) (by as_aux_lemma => kernel_rfl)) (by as_aux_lemma => kernel_rfl)) (by as_aux_lemma => kernel_rfl)) (by as_aux_lemma => kernel_rfl)) (by as_aux_lemma => kernel_rfl)) (by as_aux_lemma => kernel_rfl)) (by as_aux_lemma => kernel_rfl)) (by as_aux_lemma => kernel_rfl)) (by as_aux_lemma => kernel_rfl)) (by as_aux_lemma => kernel_rfl)) (by as_aux_lemma => kernel_rfl)) (by as_aux_lemma => kernel_rfl)) (by as_aux_lemma => kernel_rfl)) (by as_aux_lemma => kernel_rfl)) (by as_aux_lemma => kernel_rfl)) (by as_aux_lemma => kernel_rfl)) (by as_aux_lemma => kernel_rfl)) (by as_aux_lemma => kernel_rfl)) (by as_aux_lemma => kernel_rfl)) sf_plain) (by as_aux_lemma => kernel_rfl)) sf_heard) sf_enter) sf_lifts) sf_make) (by as_aux_lemma => kernel_rfl)) (by as_aux_lemma => kernel_rfl)) (by as_aux_lemma => kernel_rfl)) (by as_aux_lemma => kernel_rfl))

theorem over : Rows.fnExactEqualTabsRow.holds Try.pinned (OpenSpec.ofChange Rows.fnExactEqualTabsSpec) :=
  OpenClaim.holds_of_wide 7 Try.f7 rfl rfl rfl rfl rfl rfl rfl ⟨rfl, rfl, rfl, rfl, rfl⟩ rfl rfl rfl rfl rfl (by kernel_rfl) Try.func7 closed
    (of_decide_eq_true (by kernel_rfl)) (by unfold Func.isWrapper; first | (rw [if_pos (by decide +kernel)]; kernel_rfl) | (rw [if_neg (by decide +kernel)]; exact ⟨rfl, rfl⟩))
    (fun os started H enc _ => lifted os started H enc)

theorem proved : Rows.FnExactEqualTabsSaid := over
#print axioms proved
end Go.Proofs.Ythipflbjnnplaaa.fnExactEqualTabs
