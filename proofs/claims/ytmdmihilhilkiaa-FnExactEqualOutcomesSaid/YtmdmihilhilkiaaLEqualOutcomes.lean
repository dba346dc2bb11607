/- The law FnExactEqualOutcomes answers true for every argument, and leaves each argument as it was. No condition. -/
import Derived.Deep.RegionHeld3
import Derived.Deep.DeepCutAuto
import Derived.Test.YtmdmihilhilkiaaROutcome
import Derived.Test.YtmdmihilhilkiaaEqOutcome
namespace Go.Proofs.Ytmdmihilhilkiaa.fnExactEqualOutcomes
open Go Go.ChangeShapes Go.WideShapes Go.ChangeAt Go.RowKit Go.Lib
open Go.ChangeMaps (open_string)
set_option linter.unusedVariables false
set_option linter.unusedSimpArgs false
set_option maxRecDepth 100000

set_option maxRecDepth 100000 in
set_option maxHeartbeats 20000000 in
theorem walk (p0_0 : Int) (s0_1 : TSite) (l0_2 : List TSite) (A0_2 : Option Addr) (n0_2 c0_2 : Nat) (p1_0 : Int) (s1_1 : TSite) (l1_2 : List TSite) (A1_2 : Option Addr) (n1_2 c1_2 : Nat) (w : World) (wf0_0 : (Lit.int .i64 p0_0).wf = true) (H0_1 : Hid (TSite.fit s0_1)) (hm0_2 : n0_2 ≤ maxLen) (R0_2 : Rd w 0 w.heap.size 2 A0_2 n0_2 (cSite l0_2)) (H0_2 : Hid (cSiteOk l0_2)) (wf1_0 : (Lit.int .i64 p1_0).wf = true) (H1_1 : Hid (TSite.fit s1_1)) (hm1_2 : n1_2 ≤ maxLen) (R1_2 : Rd w 0 w.heap.size 2 A1_2 n1_2 (cSite l1_2)) (H1_2 : Hid (cSiteOk l1_2)) :
    Calls Try.prog 9 #[.agg #[.int .i64 p0_0, .int .i64 s0_1.f0, .int .i64 s0_1.f1, .slice A0_2 n0_2 c0_2], .agg #[.int .i64 p1_0, .int .i64 s1_1.f0, .int .i64 s1_1.f1, .slice A1_2 n1_2 c1_2]] w fun e w' => e = .returned (.bool true) ∧ Below w.heap.size w w' := by
  have hm0_2 : n0_2 ≤ 9223372036854775807 := hm0_2
  have hm1_2 : n1_2 ≤ 9223372036854775807 := hm1_2
  have Wf0_0 := Lib.hid wf0_0
  clear wf0_0
  have Wf1_0 := Lib.hid wf1_0
  clear wf1_0
  by_cases hz0 : n0_2 ≤ 1048576
  · skip
    by_cases hz1 : n0_2 + n1_2 ≤ 1048576
    · skip
      have hqn0_2 : n0_2 ≤ 17179869184 := by omega
      have hqn1_2 : n1_2 ≤ 17179869184 := by omega
      have G : Below w.heap.size w ((w.alloc (.cells #[.int .i64 p0_0, .int .i64 s0_1.f0, .int .i64 s0_1.f1, .slice A0_2 n0_2 c0_2] 50)).alloc (.cells #[.int .i64 p1_0, .int .i64 s1_1.f0, .int .i64 s1_1.f1, .slice A1_2 n1_2 c1_2] 50)) := ((Below.refl _ _).alloc (by simp) _).alloc (by simp) _
      have S0 := Lib.hid (show ((w.alloc (.cells #[.int .i64 p0_0, .int .i64 s0_1.f0, .int .i64 s0_1.f1, .slice A0_2 n0_2 c0_2] 50)).alloc (.cells #[.int .i64 p1_0, .int .i64 s1_1.f0, .int .i64 s1_1.f1, .slice A1_2 n1_2 c1_2] 50)).heap.size = w.heap.size + 2 by simp)
      replace R0_2 := R0_2.alloc (.cells #[.int .i64 p0_0, .int .i64 s0_1.f0, .int .i64 s0_1.f1, .slice A0_2 n0_2 c0_2] 50)
      replace R1_2 := R1_2.alloc (.cells #[.int .i64 p0_0, .int .i64 s0_1.f0, .int .i64 s0_1.f1, .slice A0_2 n0_2 c0_2] 50)
      have KB0 : BoxAt (w.alloc (.cells #[.int .i64 p0_0, .int .i64 s0_1.f0, .int .i64 s0_1.f1, .slice A0_2 n0_2 c0_2] 50)) (w.heap.size) 50 #[.int .i64 p0_0, .int .i64 s0_1.f0, .int .i64 s0_1.f1, .slice A0_2 n0_2 c0_2] := box_new _ _ _
      replace R0_2 := R0_2.alloc (.cells #[.int .i64 p1_0, .int .i64 s1_1.f0, .int .i64 s1_1.f1, .slice A1_2 n1_2 c1_2] 50)
      replace R1_2 := R1_2.alloc (.cells #[.int .i64 p1_0, .int .i64 s1_1.f0, .int .i64 s1_1.f1, .slice A1_2 n1_2 c1_2] 50)
      replace KB0 := KB0.alloc_ (.cells #[.int .i64 p1_0, .int .i64 s1_1.f0, .int .i64 s1_1.f1, .slice A1_2 n1_2 c1_2] 50)
      have KB1 : BoxAt ((w.alloc (.cells #[.int .i64 p0_0, .int .i64 s0_1.f0, .int .i64 s0_1.f1, .slice A0_2 n0_2 c0_2] 50)).alloc (.cells #[.int .i64 p1_0, .int .i64 s1_1.f0, .int .i64 s1_1.f1, .slice A1_2 n1_2 c1_2] 50)) (w.heap.size + 1) 50 #[.int .i64 p1_0, .int .i64 s1_1.f0, .int .i64 s1_1.f1, .slice A1_2 n1_2 c1_2] := by simpa using box_new (w.alloc (.cells #[.int .i64 p0_0, .int .i64 s0_1.f0, .int .i64 s0_1.f1, .slice A0_2 n0_2 c0_2] 50)) 50 #[.int .i64 p1_0, .int .i64 s1_1.f0, .int .i64 s1_1.f1, .slice A1_2 n1_2 c1_2]
      go_enter Try.func9, Try.ntmps9
      have xKB0_0 : ((w.alloc (.cells #[.int .i64 p0_0, .int .i64 s0_1.f0, .int .i64 s0_1.f1, .slice A0_2 n0_2 c0_2] 50)).alloc (.cells #[.int .i64 p1_0, .int .i64 s1_1.f0, .int .i64 s1_1.f1, .slice A1_2 n1_2 c1_2] 50)).cell? ⟨w.heap.size, 0, none⟩ = some (.int .i64 p0_0) := KB0.at_ rfl
      have xKB0_1 : ((w.alloc (.cells #[.int .i64 p0_0, .int .i64 s0_1.f0, .int .i64 s0_1.f1, .slice A0_2 n0_2 c0_2] 50)).alloc (.cells #[.int .i64 p1_0, .int .i64 s1_1.f0, .int .i64 s1_1.f1, .slice A1_2 n1_2 c1_2] 50)).cell? ⟨w.heap.size, 1, none⟩ = some (.int .i64 s0_1.f0) := KB0.at_ rfl
      have xKB0_2 : ((w.alloc (.cells #[.int .i64 p0_0, .int .i64 s0_1.f0, .int .i64 s0_1.f1, .slice A0_2 n0_2 c0_2] 50)).alloc (.cells #[.int .i64 p1_0, .int .i64 s1_1.f0, .int .i64 s1_1.f1, .slice A1_2 n1_2 c1_2] 50)).cell? ⟨w.heap.size, 2, none⟩ = some (.int .i64 s0_1.f1) := KB0.at_ rfl
      have xKB0_3 : ((w.alloc (.cells #[.int .i64 p0_0, .int .i64 s0_1.f0, .int .i64 s0_1.f1, .slice A0_2 n0_2 c0_2] 50)).alloc (.cells #[.int .i64 p1_0, .int .i64 s1_1.f0, .int .i64 s1_1.f1, .slice A1_2 n1_2 c1_2] 50)).cell? ⟨w.heap.size, 3, none⟩ = some (.slice A0_2 n0_2 c0_2) := KB0.at_ rfl
      go_wp2_with fail
      refine Calls.mono (sz_outcome p0_0 s0_1 A0_2 n0_2 c0_2 (1048576) _ hm0_2 (by omega) (by omega)) ?_
      rintro e w1 ⟨rfl, B1⟩
      replace R0_2 := (R0_2).new B1
      replace R1_2 := (R1_2).new B1
      replace KB0 := (KB0).new B1
      replace KB1 := (KB1).new B1
      replace G := below_trans G B1 (Nat.le_refl _)
      have S1 := Lib.hid (show ((w.alloc (.cells #[.int .i64 p0_0, .int .i64 s0_1.f0, .int .i64 s0_1.f1, .slice A0_2 n0_2 c0_2] 50)).alloc (.cells #[.int .i64 p1_0, .int .i64 s1_1.f0, .int .i64 s1_1.f1, .slice A1_2 n1_2 c1_2] 50)).heap.size + 0 ≤ w1.heap.size by have := B1.size; first | (simpa using this) | ((try simp at this); omega))
      clear B1
      clear xKB0_0 xKB0_1 xKB0_2 xKB0_3
      have xKB1_0 : w1.cell? ⟨w.heap.size + 1, 0, none⟩ = some (.int .i64 p1_0) := KB1.at_ rfl
      have xKB1_1 : w1.cell? ⟨w.heap.size + 1, 1, none⟩ = some (.int .i64 s1_1.f0) := KB1.at_ rfl
      have xKB1_2 : w1.cell? ⟨w.heap.size + 1, 2, none⟩ = some (.int .i64 s1_1.f1) := KB1.at_ rfl
      have xKB1_3 : w1.cell? ⟨w.heap.size + 1, 3, none⟩ = some (.slice A1_2 n1_2 c1_2) := KB1.at_ rfl
      go_wp2_with fail
      refine Calls.mono (sz_outcome p1_0 s1_1 A1_2 n1_2 c1_2 (1048576 - (n0_2 : Int)) _ hm1_2 (by omega) (by omega)) ?_
      rintro e w2 ⟨rfl, B2⟩
      replace R0_2 := (R0_2).new B2
      replace R1_2 := (R1_2).new B2
      replace KB0 := (KB0).new B2
      replace KB1 := (KB1).new B2
      replace G := below_trans G B2 (Nat.le_refl _)
      have S2 := Lib.hid (show w1.heap.size + 0 ≤ w2.heap.size by have := B2.size; first | (simpa using this) | ((try simp at this); omega))
      clear B2
      clear xKB1_0 xKB1_1 xKB1_2 xKB1_3
      go_wp2_with fail
      replace G := G.drew
      replace R0_2 := R0_2.drw
      replace R1_2 := R1_2.drw
      replace KB0 := KB0.drw
      replace KB1 := KB1.drw
      go_region_held3 (fun w' => w'.cell? ⟨w.heap.size, 0, none⟩ = some (.int .i64 p0_0) ∧ w'.cell? ⟨w.heap.size, 1, none⟩ = some (.int .i64 s0_1.f0) ∧ w'.cell? ⟨w.heap.size, 2, none⟩ = some (.int .i64 s0_1.f1) ∧ w'.cell? ⟨w.heap.size, 3, none⟩ = some (.slice A0_2 n0_2 c0_2) ∧ w'.cell? ⟨w.heap.size + 1, 0, none⟩ = some (.int .i64 p1_0) ∧ w'.cell? ⟨w.heap.size + 1, 1, none⟩ = some (.int .i64 s1_1.f0) ∧ w'.cell? ⟨w.heap.size + 1, 2, none⟩ = some (.int .i64 s1_1.f1) ∧ w'.cell? ⟨w.heap.size + 1, 3, none⟩ = some (.slice A1_2 n1_2 c1_2))
        (exact ⟨KB0.at_ rfl, KB0.at_ rfl, KB0.at_ rfl, KB0.at_ rfl, KB1.at_ rfl, KB1.at_ rfl, KB1.at_ rfl, KB1.at_ rfl⟩)
        (first
          | (go_at_call 37; (fail_if_success (have hx := B3)); refine Calls.mono (to_outcome p0_0 s0_1 l0_2 A0_2 n0_2 c0_2 _ _ _ hqn0_2 R0_2) ?_; rintro e w3 ⟨T3_2, tc3_2, tlo3_2, thi3_2, rfl, FT3_2, MT3, B3⟩; (replace R0_2 := rd_nw B3 R0_2); (replace R1_2 := rd_nw B3 R1_2); (replace KB0 := box_nw B3 KB0); (replace KB1 := box_nw B3 KB1); (replace G := (by first | exact below_trans G B3 (Nat.le_refl _) | exact below_trans G.drew B3 (Nat.le_refl _) | exact below_trans (below_dN G _) B3 (Nat.le_refl _))); (have S3 := Lib.hid (show w2.heap.size ≤ w3.heap.size from B3.size)))
          | (go_at_call 37; (fail_if_success (have hx := B4)); refine Calls.mono (to_outcome p1_0 s1_1 l1_2 A1_2 n1_2 c1_2 _ _ _ hqn1_2 R1_2) ?_; rintro e w4 ⟨T4_2, tc4_2, tlo4_2, thi4_2, rfl, FT4_2, MT4, B4⟩; (replace R0_2 := rd_nw B4 R0_2); (replace R1_2 := rd_nw B4 R1_2); (replace KB0 := box_nw B4 KB0); (replace KB1 := box_nw B4 KB1); (replace FT3_2 := fr_nw B4 FT3_2); (replace G := (by first | exact below_trans G B4 (Nat.le_refl _) | exact below_trans G.drew B4 (Nat.le_refl _) | exact below_trans (below_dN G _) B4 (Nat.le_refl _))); (have S4 := Lib.hid (show w3.heap.size ≤ w4.heap.size from B4.size)))
          | (go_at_call 36; (fail_if_success (have hx := B5)); refine Calls.mono (spec_EqualOutcomes p0_0 s0_1 l0_2 T3_2 n0_2 tc3_2 _ _ p1_0 s1_1 l1_2 T4_2 n1_2 tc4_2 _ _ _ (by omega) FT3_2.rd H0_2 (by omega) FT4_2.rd H1_2) ?_; rintro e w5 ⟨rfl, B5⟩; (replace R0_2 := rd_nw B5 R0_2); (replace R1_2 := rd_nw B5 R1_2); (replace KB0 := box_nw B5 KB0); (replace KB1 := box_nw B5 KB1); (replace FT3_2 := fr_nw B5 FT3_2); (replace FT4_2 := fr_nw B5 FT4_2); (replace G := (by first | exact below_trans G B5 (Nat.le_refl _) | exact below_trans G.drew B5 (Nat.le_refl _) | exact below_trans (below_dN G _) B5 (Nat.le_refl _))); (have S5 := Lib.hid (show w4.heap.size ≤ w5.heap.size from B5.size))))
      clear B3
      clear B4
      clear B5
      clear FT3_2
      clear FT4_2
      have xKB0_0 : w5.cell? ⟨w.heap.size, 0, none⟩ = some (.int .i64 p0_0) := KB0.at_ rfl
      have xKB0_1 : w5.cell? ⟨w.heap.size, 1, none⟩ = some (.int .i64 s0_1.f0) := KB0.at_ rfl
      have xKB0_2 : w5.cell? ⟨w.heap.size, 2, none⟩ = some (.int .i64 s0_1.f1) := KB0.at_ rfl
      have xKB0_3 : w5.cell? ⟨w.heap.size, 3, none⟩ = some (.slice A0_2 n0_2 c0_2) := KB0.at_ rfl
      go_wp2_with fail
      refine Calls.mono (to_outcome p0_0 s0_1 l0_2 A0_2 n0_2 c0_2 _ _ _ hqn0_2 R0_2) ?_
      rintro e w6 ⟨T6_2, tc6_2, tlo6_2, thi6_2, rfl, FT6_2, MT6, B6⟩
      replace R0_2 := (R0_2).new B6
      replace R1_2 := (R1_2).new B6
      replace KB0 := (KB0).new B6
      replace KB1 := (KB1).new B6
      replace G := below_trans G B6 (Nat.le_refl _)
      have S6 := Lib.hid (show w5.heap.size + 0 ≤ w6.heap.size by have := B6.size; first | (simpa using this) | ((try simp at this); omega))
      clear B6
      clear xKB0_0 xKB0_1 xKB0_2 xKB0_3
      have SA8 := Lib.hid (show (w6.alloc (.cells #[.int .i64 p0_0, .int .i64 s0_1.f0, .int .i64 s0_1.f1, .slice T6_2 n0_2 tc6_2] 56)).heap.size = w6.heap.size + 1 by simp)
      replace R0_2 := R0_2.alloc (.cells #[.int .i64 p0_0, .int .i64 s0_1.f0, .int .i64 s0_1.f1, .slice T6_2 n0_2 tc6_2] 56)
      replace R1_2 := R1_2.alloc (.cells #[.int .i64 p0_0, .int .i64 s0_1.f0, .int .i64 s0_1.f1, .slice T6_2 n0_2 tc6_2] 56)
      replace KB0 := KB0.alloc_ (.cells #[.int .i64 p0_0, .int .i64 s0_1.f0, .int .i64 s0_1.f1, .slice T6_2 n0_2 tc6_2] 56)
      replace KB1 := KB1.alloc_ (.cells #[.int .i64 p0_0, .int .i64 s0_1.f0, .int .i64 s0_1.f1, .slice T6_2 n0_2 tc6_2] 56)
      replace FT6_2 := FT6_2.alloc (.cells #[.int .i64 p0_0, .int .i64 s0_1.f0, .int .i64 s0_1.f1, .slice T6_2 n0_2 tc6_2] 56)
      have KX7 : BoxAt (w6.alloc (.cells #[.int .i64 p0_0, .int .i64 s0_1.f0, .int .i64 s0_1.f1, .slice T6_2 n0_2 tc6_2] 56)) (w6.heap.size) 56 #[.int .i64 p0_0, .int .i64 s0_1.f0, .int .i64 s0_1.f1, .slice T6_2 n0_2 tc6_2] := box_new _ _ _
      replace G := G.alloc (by have := S0.out; have := S1.out; have := S2.out; have := S3.out; have := S4.out; have := S5.out; have := S6.out; have := SA8.out; have := MT3.out; unfold SepOutcome at this; have := MT4.out; unfold SepOutcome at this; have := MT6.out; unfold SepOutcome at this; first | omega | (simp; omega)) (.cells #[.int .i64 p0_0, .int .i64 s0_1.f0, .int .i64 s0_1.f1, .slice T6_2 n0_2 tc6_2] 56)
      have xKB1_0 : (w6.alloc (.cells #[.int .i64 p0_0, .int .i64 s0_1.f0, .int .i64 s0_1.f1, .slice T6_2 n0_2 tc6_2] 56)).cell? ⟨w.heap.size + 1, 0, none⟩ = some (.int .i64 p1_0) := KB1.at_ rfl
      have xKB1_1 : (w6.alloc (.cells #[.int .i64 p0_0, .int .i64 s0_1.f0, .int .i64 s0_1.f1, .slice T6_2 n0_2 tc6_2] 56)).cell? ⟨w.heap.size + 1, 1, none⟩ = some (.int .i64 s1_1.f0) := KB1.at_ rfl
      have xKB1_2 : (w6.alloc (.cells #[.int .i64 p0_0, .int .i64 s0_1.f0, .int .i64 s0_1.f1, .slice T6_2 n0_2 tc6_2] 56)).cell? ⟨w.heap.size + 1, 2, none⟩ = some (.int .i64 s1_1.f1) := KB1.at_ rfl
      have xKB1_3 : (w6.alloc (.cells #[.int .i64 p0_0, .int .i64 s0_1.f0, .int .i64 s0_1.f1, .slice T6_2 n0_2 tc6_2] 56)).cell? ⟨w.heap.size + 1, 3, none⟩ = some (.slice A1_2 n1_2 c1_2) := KB1.at_ rfl
      go_wp2_with fail
      refine Calls.mono (to_outcome p1_0 s1_1 l1_2 A1_2 n1_2 c1_2 _ _ _ hqn1_2 R1_2) ?_
      rintro e w7 ⟨T9_2, tc9_2, tlo9_2, thi9_2, rfl, FT9_2, MT9, B9⟩
      replace R0_2 := (R0_2).new B9
      replace R1_2 := (R1_2).new B9
      replace KB0 := (KB0).new B9
      replace KB1 := (KB1).new B9
      replace FT6_2 := (FT6_2).new B9
      replace KX7 := (KX7).new B9
      replace G := below_trans G B9 (Nat.le_refl _)
      have S7 := Lib.hid (show (w6.alloc (.cells #[.int .i64 p0_0, .int .i64 s0_1.f0, .int .i64 s0_1.f1, .slice T6_2 n0_2 tc6_2] 56)).heap.size + 0 ≤ w7.heap.size by have := B9.size; first | (simpa using this) | ((try simp at this); omega))
      clear B9
      clear xKB1_0 xKB1_1 xKB1_2 xKB1_3
      have SA11 := Lib.hid (show (w7.alloc (.cells #[.int .i64 p1_0, .int .i64 s1_1.f0, .int .i64 s1_1.f1, .slice T9_2 n1_2 tc9_2] 56)).heap.size = w7.heap.size + 1 by simp)
      replace R0_2 := R0_2.alloc (.cells #[.int .i64 p1_0, .int .i64 s1_1.f0, .int .i64 s1_1.f1, .slice T9_2 n1_2 tc9_2] 56)
      replace R1_2 := R1_2.alloc (.cells #[.int .i64 p1_0, .int .i64 s1_1.f0, .int .i64 s1_1.f1, .slice T9_2 n1_2 tc9_2] 56)
      replace KB0 := KB0.alloc_ (.cells #[.int .i64 p1_0, .int .i64 s1_1.f0, .int .i64 s1_1.f1, .slice T9_2 n1_2 tc9_2] 56)
      replace KB1 := KB1.alloc_ (.cells #[.int .i64 p1_0, .int .i64 s1_1.f0, .int .i64 s1_1.f1, .slice T9_2 n1_2 tc9_2] 56)
      replace FT6_2 := FT6_2.alloc (.cells #[.int .i64 p1_0, .int .i64 s1_1.f0, .int .i64 s1_1.f1, .slice T9_2 n1_2 tc9_2] 56)
      replace KX7 := KX7.alloc_ (.cells #[.int .i64 p1_0, .int .i64 s1_1.f0, .int .i64 s1_1.f1, .slice T9_2 n1_2 tc9_2] 56)
      replace FT9_2 := FT9_2.alloc (.cells #[.int .i64 p1_0, .int .i64 s1_1.f0, .int .i64 s1_1.f1, .slice T9_2 n1_2 tc9_2] 56)
      have KX10 : BoxAt (w7.alloc (.cells #[.int .i64 p1_0, .int .i64 s1_1.f0, .int .i64 s1_1.f1, .slice T9_2 n1_2 tc9_2] 56)) (w7.heap.size) 56 #[.int .i64 p1_0, .int .i64 s1_1.f0, .int .i64 s1_1.f1, .slice T9_2 n1_2 tc9_2] := box_new _ _ _
      replace G := G.alloc (by have := S0.out; have := S1.out; have := S2.out; have := S3.out; have := S4.out; have := S5.out; have := S6.out; have := SA8.out; have := S7.out; have := SA11.out; have := MT3.out; unfold SepOutcome at this; have := MT4.out; unfold SepOutcome at this; have := MT6.out; unfold SepOutcome at this; have := MT9.out; unfold SepOutcome at this; first | omega | (simp; omega)) (.cells #[.int .i64 p1_0, .int .i64 s1_1.f0, .int .i64 s1_1.f1, .slice T9_2 n1_2 tc9_2] 56)
      have xKX7_0 : (w7.alloc (.cells #[.int .i64 p1_0, .int .i64 s1_1.f0, .int .i64 s1_1.f1, .slice T9_2 n1_2 tc9_2] 56)).cell? ⟨w6.heap.size, 0, none⟩ = some (.int .i64 p0_0) := KX7.at_ rfl
      have xKX7_1 : (w7.alloc (.cells #[.int .i64 p1_0, .int .i64 s1_1.f0, .int .i64 s1_1.f1, .slice T9_2 n1_2 tc9_2] 56)).cell? ⟨w6.heap.size, 1, none⟩ = some (.int .i64 s0_1.f0) := KX7.at_ rfl
      have xKX7_2 : (w7.alloc (.cells #[.int .i64 p1_0, .int .i64 s1_1.f0, .int .i64 s1_1.f1, .slice T9_2 n1_2 tc9_2] 56)).cell? ⟨w6.heap.size, 2, none⟩ = some (.int .i64 s0_1.f1) := KX7.at_ rfl
      have xKX7_3 : (w7.alloc (.cells #[.int .i64 p1_0, .int .i64 s1_1.f0, .int .i64 s1_1.f1, .slice T9_2 n1_2 tc9_2] 56)).cell? ⟨w6.heap.size, 3, none⟩ = some (.slice T6_2 n0_2 tc6_2) := KX7.at_ rfl
      have xKX10_0 : (w7.alloc (.cells #[.int .i64 p1_0, .int .i64 s1_1.f0, .int .i64 s1_1.f1, .slice T9_2 n1_2 tc9_2] 56)).cell? ⟨w7.heap.size, 0, none⟩ = some (.int .i64 p1_0) := KX10.at_ rfl
      have xKX10_1 : (w7.alloc (.cells #[.int .i64 p1_0, .int .i64 s1_1.f0, .int .i64 s1_1.f1, .slice T9_2 n1_2 tc9_2] 56)).cell? ⟨w7.heap.size, 1, none⟩ = some (.int .i64 s1_1.f0) := KX10.at_ rfl
      have xKX10_2 : (w7.alloc (.cells #[.int .i64 p1_0, .int .i64 s1_1.f0, .int .i64 s1_1.f1, .slice T9_2 n1_2 tc9_2] 56)).cell? ⟨w7.heap.size, 2, none⟩ = some (.int .i64 s1_1.f1) := KX10.at_ rfl
      have xKX10_3 : (w7.alloc (.cells #[.int .i64 p1_0, .int .i64 s1_1.f0, .int .i64 s1_1.f1, .slice T9_2 n1_2 tc9_2] 56)).cell? ⟨w7.heap.size, 3, none⟩ = some (.slice T9_2 n1_2 tc9_2) := KX10.at_ rfl
      go_wp2_with fail
      refine Calls.mono (impl_EqualOutcomes p0_0 s0_1 l0_2 T6_2 n0_2 tc6_2 _ _ p1_0 s1_1 l1_2 T9_2 n1_2 tc9_2 _ _ _ (by omega) FT6_2.rd H0_2 (by omega) FT9_2.rd H1_2) ?_
      rintro e w8 ⟨rfl, B12⟩
      replace R0_2 := (R0_2).new B12
      replace R1_2 := (R1_2).new B12
      replace KB0 := (KB0).new B12
      replace KB1 := (KB1).new B12
      replace FT6_2 := (FT6_2).new B12
      replace KX7 := (KX7).new B12
      replace FT9_2 := (FT9_2).new B12
      replace KX10 := (KX10).new B12
      replace G := below_trans G B12 (Nat.le_refl _)
      have S8 := Lib.hid (show (w7.alloc (.cells #[.int .i64 p1_0, .int .i64 s1_1.f0, .int .i64 s1_1.f1, .slice T9_2 n1_2 tc9_2] 56)).heap.size + 0 ≤ w8.heap.size by have := B12.size; first | (simpa using this) | ((try simp at this); omega))
      clear B12
      clear xKX7_0 xKX7_1 xKX7_2 xKX7_3 xKX10_0 xKX10_1 xKX10_2 xKX10_3
      go_wp2_with fail
      replace G := G.drew
      replace R0_2 := R0_2.drw
      replace R1_2 := R1_2.drw
      replace KB0 := KB0.drw
      replace KB1 := KB1.drw
      replace FT6_2 := FT6_2.drw
      replace KX7 := KX7.drw
      replace FT9_2 := FT9_2.drw
      replace KX10 := KX10.drw
      go_region_held3 (fun w' => w'.cell? ⟨w6.heap.size, 0, none⟩ = some (.int .i64 p0_0) ∧ w'.cell? ⟨w6.heap.size, 1, none⟩ = some (.int .i64 s0_1.f0) ∧ w'.cell? ⟨w6.heap.size, 2, none⟩ = some (.int .i64 s0_1.f1) ∧ w'.cell? ⟨w6.heap.size, 3, none⟩ = some (.slice T6_2 n0_2 tc6_2) ∧ w'.cell? ⟨w.heap.size, 0, none⟩ = some (.int .i64 p0_0) ∧ w'.cell? ⟨w.heap.size, 1, none⟩ = some (.int .i64 s0_1.f0) ∧ w'.cell? ⟨w.heap.size, 2, none⟩ = some (.int .i64 s0_1.f1) ∧ w'.cell? ⟨w.heap.size, 3, none⟩ = some (.slice A0_2 n0_2 c0_2))
        (exact ⟨KX7.at_ rfl, KX7.at_ rfl, KX7.at_ rfl, KX7.at_ rfl, KB0.at_ rfl, KB0.at_ rfl, KB0.at_ rfl, KB0.at_ rfl⟩)
        (first
          | (go_at_call 37; (fail_if_success (have hx := B13)); refine Calls.mono (to_outcome p0_0 s0_1 l0_2 A0_2 n0_2 c0_2 _ _ _ hqn0_2 R0_2) ?_; rintro e w9 ⟨T13_2, tc13_2, tlo13_2, thi13_2, rfl, FT13_2, MT13, B13⟩; (replace R0_2 := rd_nw B13 R0_2); (replace R1_2 := rd_nw B13 R1_2); (replace KB0 := box_nw B13 KB0); (replace KB1 := box_nw B13 KB1); (replace FT6_2 := fr_nw B13 FT6_2); (replace KX7 := box_nw B13 KX7); (replace FT9_2 := fr_nw B13 FT9_2); (replace KX10 := box_nw B13 KX10); (replace G := (by first | exact below_trans G B13 (Nat.le_refl _) | exact below_trans G.drew B13 (Nat.le_refl _) | exact below_trans (below_dN G _) B13 (Nat.le_refl _))); (have S9 := Lib.hid (show w8.heap.size ≤ w9.heap.size from B13.size)))
          | (go_at_call 39; (fail_if_success (have hx := B14)); refine Calls.mono (eq_outcome_same p0_0 s0_1 l0_2 n0_2 T6_2 T13_2 tc6_2 tc13_2 _ _ _ _ _ (by omega) FT6_2.rd FT13_2.rd) ?_; rintro e w10 ⟨rfl, B14⟩; (replace R0_2 := rd_nw B14 R0_2); (replace R1_2 := rd_nw B14 R1_2); (replace KB0 := box_nw B14 KB0); (replace KB1 := box_nw B14 KB1); (replace FT6_2 := fr_nw B14 FT6_2); (replace KX7 := box_nw B14 KX7); (replace FT9_2 := fr_nw B14 FT9_2); (replace KX10 := box_nw B14 KX10); (replace FT13_2 := fr_nw B14 FT13_2); (replace G := (by first | exact below_trans G B14 (Nat.le_refl _) | exact below_trans G.drew B14 (Nat.le_refl _) | exact below_trans (below_dN G _) B14 (Nat.le_refl _))); (have S10 := Lib.hid (show w9.heap.size ≤ w10.heap.size from B14.size))))
      clear B13
      clear B14
      clear FT13_2
      go_wp2_with fail
      replace G := G.drew
      replace R0_2 := R0_2.drw
      replace R1_2 := R1_2.drw
      replace KB0 := KB0.drw
      replace KB1 := KB1.drw
      replace FT6_2 := FT6_2.drw
      replace KX7 := KX7.drw
      replace FT9_2 := FT9_2.drw
      replace KX10 := KX10.drw
      go_region_held3 (fun w' => w'.cell? ⟨w7.heap.size, 0, none⟩ = some (.int .i64 p1_0) ∧ w'.cell? ⟨w7.heap.size, 1, none⟩ = some (.int .i64 s1_1.f0) ∧ w'.cell? ⟨w7.heap.size, 2, none⟩ = some (.int .i64 s1_1.f1) ∧ w'.cell? ⟨w7.heap.size, 3, none⟩ = some (.slice T9_2 n1_2 tc9_2) ∧ w'.cell? ⟨w.heap.size + 1, 0, none⟩ = some (.int .i64 p1_0) ∧ w'.cell? ⟨w.heap.size + 1, 1, none⟩ = some (.int .i64 s1_1.f0) ∧ w'.cell? ⟨w.heap.size + 1, 2, none⟩ = some (.int .i64 s1_1.f1) ∧ w'.cell? ⟨w.heap.size + 1, 3, none⟩ = some (.slice A1_2 n1_2 c1_2))
        (exact ⟨KX10.at_ rfl, KX10.at_ rfl, KX10.at_ rfl, KX10.at_ rfl, KB1.at_ rfl, KB1.at_ rfl, KB1.at_ rfl, KB1.at_ rfl⟩)
        (first
          | (go_at_call 37; (fail_if_success (have hx := B15)); refine Calls.mono (to_outcome p1_0 s1_1 l1_2 A1_2 n1_2 c1_2 _ _ _ hqn1_2 R1_2) ?_; rintro e w11 ⟨T15_2, tc15_2, tlo15_2, thi15_2, rfl, FT15_2, MT15, B15⟩; (replace R0_2 := rd_nw B15 R0_2); (replace R1_2 := rd_nw B15 R1_2); (replace KB0 := box_nw B15 KB0); (replace KB1 := box_nw B15 KB1); (replace FT6_2 := fr_nw B15 FT6_2); (replace KX7 := box_nw B15 KX7); (replace FT9_2 := fr_nw B15 FT9_2); (replace KX10 := box_nw B15 KX10); (replace G := (by first | exact below_trans G B15 (Nat.le_refl _) | exact below_trans G.drew B15 (Nat.le_refl _) | exact below_trans (below_dN G _) B15 (Nat.le_refl _))); (have S11 := Lib.hid (show w10.heap.size ≤ w11.heap.size from B15.size)))
          | (go_at_call 39; (fail_if_success (have hx := B16)); refine Calls.mono (eq_outcome_same p1_0 s1_1 l1_2 n1_2 T9_2 T15_2 tc9_2 tc15_2 _ _ _ _ _ (by omega) FT9_2.rd FT15_2.rd) ?_; rintro e w12 ⟨rfl, B16⟩; (replace R0_2 := rd_nw B16 R0_2); (replace R1_2 := rd_nw B16 R1_2); (replace KB0 := box_nw B16 KB0); (replace KB1 := box_nw B16 KB1); (replace FT6_2 := fr_nw B16 FT6_2); (replace KX7 := box_nw B16 KX7); (replace FT9_2 := fr_nw B16 FT9_2); (replace KX10 := box_nw B16 KX10); (replace FT15_2 := fr_nw B16 FT15_2); (replace G := (by first | exact below_trans G B16 (Nat.le_refl _) | exact below_trans G.drew B16 (Nat.le_refl _) | exact below_trans (below_dN G _) B16 (Nat.le_refl _))); (have S12 := Lib.hid (show w11.heap.size ≤ w12.heap.size from B16.size))))
      clear B15
      clear B16
      clear FT15_2
      go_wp2_with fail
      go_ret
      exact ⟨rfl, G⟩
    · skip
      have G : Below w.heap.size w ((w.alloc (.cells #[.int .i64 p0_0, .int .i64 s0_1.f0, .int .i64 s0_1.f1, .slice A0_2 n0_2 c0_2] 50)).alloc (.cells #[.int .i64 p1_0, .int .i64 s1_1.f0, .int .i64 s1_1.f1, .slice A1_2 n1_2 c1_2] 50)) := ((Below.refl _ _).alloc (by simp) _).alloc (by simp) _
      have S0 := Lib.hid (show ((w.alloc (.cells #[.int .i64 p0_0, .int .i64 s0_1.f0, .int .i64 s0_1.f1, .slice A0_2 n0_2 c0_2] 50)).alloc (.cells #[.int .i64 p1_0, .int .i64 s1_1.f0, .int .i64 s1_1.f1, .slice A1_2 n1_2 c1_2] 50)).heap.size = w.heap.size + 2 by simp)
      replace R0_2 := R0_2.alloc (.cells #[.int .i64 p0_0, .int .i64 s0_1.f0, .int .i64 s0_1.f1, .slice A0_2 n0_2 c0_2] 50)
      replace R1_2 := R1_2.alloc (.cells #[.int .i64 p0_0, .int .i64 s0_1.f0, .int .i64 s0_1.f1, .slice A0_2 n0_2 c0_2] 50)
      have KB0 : BoxAt (w.alloc (.cells #[.int .i64 p0_0, .int .i64 s0_1.f0, .int .i64 s0_1.f1, .slice A0_2 n0_2 c0_2] 50)) (w.heap.size) 50 #[.int .i64 p0_0, .int .i64 s0_1.f0, .int .i64 s0_1.f1, .slice A0_2 n0_2 c0_2] := box_new _ _ _
      replace R0_2 := R0_2.alloc (.cells #[.int .i64 p1_0, .int .i64 s1_1.f0, .int .i64 s1_1.f1, .slice A1_2 n1_2 c1_2] 50)
      replace R1_2 := R1_2.alloc (.cells #[.int .i64 p1_0, .int .i64 s1_1.f0, .int .i64 s1_1.f1, .slice A1_2 n1_2 c1_2] 50)
      replace KB0 := KB0.alloc_ (.cells #[.int .i64 p1_0, .int .i64 s1_1.f0, .int .i64 s1_1.f1, .slice A1_2 n1_2 c1_2] 50)
      have KB1 : BoxAt ((w.alloc (.cells #[.int .i64 p0_0, .int .i64 s0_1.f0, .int .i64 s0_1.f1, .slice A0_2 n0_2 c0_2] 50)).alloc (.cells #[.int .i64 p1_0, .int .i64 s1_1.f0, .int .i64 s1_1.f1, .slice A1_2 n1_2 c1_2] 50)) (w.heap.size + 1) 50 #[.int .i64 p1_0, .int .i64 s1_1.f0, .int .i64 s1_1.f1, .slice A1_2 n1_2 c1_2] := by simpa using box_new (w.alloc (.cells #[.int .i64 p0_0, .int .i64 s0_1.f0, .int .i64 s0_1.f1, .slice A0_2 n0_2 c0_2] 50)) 50 #[.int .i64 p1_0, .int .i64 s1_1.f0, .int .i64 s1_1.f1, .slice A1_2 n1_2 c1_2]
      go_enter Try.func9, Try.ntmps9
      have xKB0_0 : ((w.alloc (.cells #[.int .i64 p0_0, .int .i64 s0_1.f0, .int .i64 s0_1.f1, .slice A0_2 n0_2 c0_2] 50)).alloc (.cells #[.int .i64 p1_0, .int .i64 s1_1.f0, .int .i64 s1_1.f1, .slice A1_2 n1_2 c1_2] 50)).cell? ⟨w.heap.size, 0, none⟩ = some (.int .i64 p0_0) := KB0.at_ rfl
      have xKB0_1 : ((w.alloc (.cells #[.int .i64 p0_0, .int .i64 s0_1.f0, .int .i64 s0_1.f1, .slice A0_2 n0_2 c0_2] 50)).alloc (.cells #[.int .i64 p1_0, .int .i64 s1_1.f0, .int .i64 s1_1.f1, .slice A1_2 n1_2 c1_2] 50)).cell? ⟨w.heap.size, 1, none⟩ = some (.int .i64 s0_1.f0) := KB0.at_ rfl
      have xKB0_2 : ((w.alloc (.cells #[.int .i64 p0_0, .int .i64 s0_1.f0, .int .i64 s0_1.f1, .slice A0_2 n0_2 c0_2] 50)).alloc (.cells #[.int .i64 p1_0, .int .i64 s1_1.f0, .int .i64 s1_1.f1, .slice A1_2 n1_2 c1_2] 50)).cell? ⟨w.heap.size, 2, none⟩ = some (.int .i64 s0_1.f1) := KB0.at_ rfl
      have xKB0_3 : ((w.alloc (.cells #[.int .i64 p0_0, .int .i64 s0_1.f0, .int .i64 s0_1.f1, .slice A0_2 n0_2 c0_2] 50)).alloc (.cells #[.int .i64 p1_0, .int .i64 s1_1.f0, .int .i64 s1_1.f1, .slice A1_2 n1_2 c1_2] 50)).cell? ⟨w.heap.size, 3, none⟩ = some (.slice A0_2 n0_2 c0_2) := KB0.at_ rfl
      go_wp2_with fail
      refine Calls.mono (sz_outcome p0_0 s0_1 A0_2 n0_2 c0_2 (1048576) _ hm0_2 (by omega) (by omega)) ?_
      rintro e w1 ⟨rfl, B17⟩
      replace R0_2 := (R0_2).new B17
      replace R1_2 := (R1_2).new B17
      replace KB0 := (KB0).new B17
      replace KB1 := (KB1).new B17
      replace G := below_trans G B17 (Nat.le_refl _)
      have S1 := Lib.hid (show ((w.alloc (.cells #[.int .i64 p0_0, .int .i64 s0_1.f0, .int .i64 s0_1.f1, .slice A0_2 n0_2 c0_2] 50)).alloc (.cells #[.int .i64 p1_0, .int .i64 s1_1.f0, .int .i64 s1_1.f1, .slice A1_2 n1_2 c1_2] 50)).heap.size + 0 ≤ w1.heap.size by have := B17.size; first | (simpa using this) | ((try simp at this); omega))
      clear B17
      clear xKB0_0 xKB0_1 xKB0_2 xKB0_3
      have xKB1_0 : w1.cell? ⟨w.heap.size + 1, 0, none⟩ = some (.int .i64 p1_0) := KB1.at_ rfl
      have xKB1_1 : w1.cell? ⟨w.heap.size + 1, 1, none⟩ = some (.int .i64 s1_1.f0) := KB1.at_ rfl
      have xKB1_2 : w1.cell? ⟨w.heap.size + 1, 2, none⟩ = some (.int .i64 s1_1.f1) := KB1.at_ rfl
      have xKB1_3 : w1.cell? ⟨w.heap.size + 1, 3, none⟩ = some (.slice A1_2 n1_2 c1_2) := KB1.at_ rfl
      go_wp2_with fail
      refine Calls.mono (szno_outcome p1_0 s1_1 A1_2 n1_2 c1_2 (1048576 - (n0_2 : Int)) _ hm1_2 (by omega) (by omega) (by omega)) ?_
      rintro e w2 ⟨rfl, B18⟩
      clear xKB1_0 xKB1_1 xKB1_2 xKB1_3
      go_wp2_with fail
      go_ret
      exact ⟨rfl, below_trans G B18 (Nat.le_refl _)⟩
  · skip
    have G : Below w.heap.size w ((w.alloc (.cells #[.int .i64 p0_0, .int .i64 s0_1.f0, .int .i64 s0_1.f1, .slice A0_2 n0_2 c0_2] 50)).alloc (.cells #[.int .i64 p1_0, .int .i64 s1_1.f0, .int .i64 s1_1.f1, .slice A1_2 n1_2 c1_2] 50)) := ((Below.refl _ _).alloc (by simp) _).alloc (by simp) _
    have S0 := Lib.hid (show ((w.alloc (.cells #[.int .i64 p0_0, .int .i64 s0_1.f0, .int .i64 s0_1.f1, .slice A0_2 n0_2 c0_2] 50)).alloc (.cells #[.int .i64 p1_0, .int .i64 s1_1.f0, .int .i64 s1_1.f1, .slice A1_2 n1_2 c1_2] 50)).heap.size = w.heap.size + 2 by simp)
    replace R0_2 := R0_2.alloc (.cells #[.int .i64 p0_0, .int .i64 s0_1.f0, .int .i64 s0_1.f1, .slice A0_2 n0_2 c0_2] 50)
    replace R1_2 := R1_2.alloc (.cells #[.int .i64 p0_0, .int .i64 s0_1.f0, .int .i64 s0_1.f1, .slice A0_2 n0_2 c0_2] 50)
    have KB0 : BoxAt (w.alloc (.cells #[.int .i64 p0_0, .int .i64 s0_1.f0, .int .i64 s0_1.f1, .slice A0_2 n0_2 c0_2] 50)) (w.heap.size) 50 #[.int .i64 p0_0, .int .i64 s0_1.f0, .int .i64 s0_1.f1, .slice A0_2 n0_2 c0_2] := box_new _ _ _
    replace R0_2 := R0_2.alloc (.cells #[.int .i64 p1_0, .int .i64 s1_1.f0, .int .i64 s1_1.f1, .slice A1_2 n1_2 c1_2] 50)
    replace R1_2 := R1_2.alloc (.cells #[.int .i64 p1_0, .int .i64 s1_1.f0, .int .i64 s1_1.f1, .slice A1_2 n1_2 c1_2] 50)
    replace KB0 := KB0.alloc_ (.cells #[.int .i64 p1_0, .int .i64 s1_1.f0, .int .i64 s1_1.f1, .slice A1_2 n1_2 c1_2] 50)
    have KB1 : BoxAt ((w.alloc (.cells #[.int .i64 p0_0, .int .i64 s0_1.f0, .int .i64 s0_1.f1, .slice A0_2 n0_2 c0_2] 50)).alloc (.cells #[.int .i64 p1_0, .int .i64 s1_1.f0, .int .i64 s1_1.f1, .slice A1_2 n1_2 c1_2] 50)) (w.heap.size + 1) 50 #[.int .i64 p1_0, .int .i64 s1_1.f0, .int .i64 s1_1.f1, .slice A1_2 n1_2 c1_2] := by simpa using box_new (w.alloc (.cells #[.int .i64 p0_0, .int .i64 s0_1.f0, .int .i64 s0_1.f1, .slice A0_2 n0_2 c0_2] 50)) 50 #[.int .i64 p1_0, .int .i64 s1_1.f0, .int .i64 s1_1.f1, .slice A1_2 n1_2 c1_2]
    go_enter Try.func9, Try.ntmps9
    have xKB0_0 : ((w.alloc (.cells #[.int .i64 p0_0, .int .i64 s0_1.f0, .int .i64 s0_1.f1, .slice A0_2 n0_2 c0_2] 50)).alloc (.cells #[.int .i64 p1_0, .int .i64 s1_1.f0, .int .i64 s1_1.f1, .slice A1_2 n1_2 c1_2] 50)).cell? ⟨w.heap.size, 0, none⟩ = some (.int .i64 p0_0) := KB0.at_ rfl
    have xKB0_1 : ((w.alloc (.cells #[.int .i64 p0_0, .int .i64 s0_1.f0, .int .i64 s0_1.f1, .slice A0_2 n0_2 c0_2] 50)).alloc (.cells #[.int .i64 p1_0, .int .i64 s1_1.f0, .int .i64 s1_1.f1, .slice A1_2 n1_2 c1_2] 50)).cell? ⟨w.heap.size, 1, none⟩ = some (.int .i64 s0_1.f0) := KB0.at_ rfl
    have xKB0_2 : ((w.alloc (.cells #[.int .i64 p0_0, .int .i64 s0_1.f0, .int .i64 s0_1.f1, .slice A0_2 n0_2 c0_2] 50)).alloc (.cells #[.int .i64 p1_0, .int .i64 s1_1.f0, .int .i64 s1_1.f1, .slice A1_2 n1_2 c1_2] 50)).cell? ⟨w.heap.size, 2, none⟩ = some (.int .i64 s0_1.f1) := KB0.at_ rfl
    have xKB0_3 : ((w.alloc (.cells #[.int .i64 p0_0, .int .i64 s0_1.f0, .int .i64 s0_1.f1, .slice A0_2 n0_2 c0_2] 50)).alloc (.cells #[.int .i64 p1_0, .int .i64 s1_1.f0, .int .i64 s1_1.f1, .slice A1_2 n1_2 c1_2] 50)).cell? ⟨w.heap.size, 3, none⟩ = some (.slice A0_2 n0_2 c0_2) := KB0.at_ rfl
    go_wp2_with fail
    refine Calls.mono (szno_outcome p0_0 s0_1 A0_2 n0_2 c0_2 (1048576) _ hm0_2 (by omega) (by omega) (by omega)) ?_
    rintro e w1 ⟨rfl, B19⟩
    clear xKB0_0 xKB0_1 xKB0_2 xKB0_3
    go_wp2_with fail
    go_ret
    exact ⟨rfl, below_trans G B19 (Nat.le_refl _)⟩

set_option maxRecDepth 100000 in
theorem lifted (os : Os) (started : os.Started) (H : Type) (enc : TypeId × Value → H) :
    ReturnsInHanded {} Try.checked os 9 .any (Rows.fnExactEqualOutcomesSpec.pre6 enc Try.prog Try.f9 Rows.fnExactEqualOutcomesRow.domain false) (Rows.fnExactEqualOutcomesSpec.post enc Try.prog Try.f9 false true false false) := by
  refine law_lifted Try.func9 (by kernel_rfl) rfl rfl (by kernel_rfl) os started
    (ChangeSpec.witness6 (enc := enc) (C := Try.checked) false ⟨#[], #[.agg #[.int .i64 0, .int .i64 0, .int .i64 0, .slice none 0 0], .agg #[.int .i64 0, .int .i64 0, .int .i64 0, .slice none 0 0]], []⟩ 8 (by kernel_rfl) (by kernel_rfl) (by kernel_rfl) (by kernel_rfl)) ?_
  intro W base args ds p hval hA hlt
  rw [Try.params9] at hA hval
  obtain ⟨v0, vs0, d0, ds0, p0, q0, hargs, rfl, rfl, h0, r0⟩ := trodAll_cons hA
  obtain ⟨v1, vs1, d1, ds1, p1, q1, rfl, rfl, rfl, h1, r1⟩ := trodAll_cons r0
  obtain ⟨rfl, rfl, rfl⟩ := trodAll_nil r1
  obtain rfl : args = #[v0, v1] := by cases args; simp_all
  obtain ⟨p0_0, s0_1, A0_2, n0_2, c0_2, l0_2, rfl, wf0_0, H0_1, m0_2, R0_2, H0_2⟩ := open_outcome (hval 0 50 v0 rfl rfl) h0 (fun x hx => hlt x (by simp [hx]))
  obtain ⟨p1_0, s1_1, A1_2, n1_2, c1_2, l1_2, rfl, wf1_0, H1_1, m1_2, R1_2, H1_2⟩ := open_outcome (hval 1 50 v1 rfl rfl) h1 (fun x hx => hlt x (by simp [hx]))
  exact ⟨⟨rfl, rfl, rfl⟩, walk p0_0 s0_1 l0_2 A0_2 n0_2 c0_2 p1_0 s1_1 l1_2 A1_2 n1_2 c1_2 W wf0_0 H0_1 m0_2 R0_2 H0_2 wf1_0 H1_1 m1_2 R1_2 H1_2⟩

theorem over : Rows.fnExactEqualOutcomesRow.holds Try.pinned (OpenSpec.ofChange Rows.fnExactEqualOutcomesSpec) :=
  OpenClaim.holds_of_wide 9 Try.f9 rfl rfl rfl rfl rfl rfl rfl ⟨rfl, rfl, rfl, rfl, rfl⟩ rfl rfl rfl rfl rfl (by kernel_rfl) Try.func9 (by kernel_rfl)
    (of_decide_eq_true (by kernel_rfl)) (by unfold Func.isWrapper; first | (rw [if_pos (by decide +kernel)]; kernel_rfl) | (rw [if_neg (by decide +kernel)]; exact ⟨rfl, rfl⟩))
    (fun os started H enc _ => lifted os started H enc)

theorem proved : Rows.FnExactEqualOutcomesSaid := over
#print axioms proved
end Go.Proofs.Ytmdmihilhilkiaa.fnExactEqualOutcomes
