/- The law FnExactOpenTab answers true for every argument, and leaves each argument as it was. No condition. -/
import Derived.Deep.RegionHeld3
import Derived.Deep.DeepCutAuto
import Derived.Test.YtoclpdbgmpdbmaaFacts
import Derived.Test.YtoclpdbgmpdbmaaRTab
import Derived.Test.YtoclpdbgmpdbmaaSlI
import Derived.Test.YtoclpdbgmpdbmaaTNode
import Derived.Test.YtoclpdbgmpdbmaaTSite
import Derived.Test.YtoclpdbgmpdbmaaOpenTab
namespace Go.Proofs.Ytoclpdbgmpdbmaa.fnExactOpenTab
open Go Go.ChangeShapes Go.WideShapes Go.ChangeAt Go.RowKit Go.Lib
open Go.ChangeMaps (open_string)
set_option linter.unusedVariables false
set_option linter.unusedSimpArgs false
set_option maxRecDepth 100000

set_option maxRecDepth 100000 in
set_option maxHeartbeats 20000000 in
theorem walk (a0 : TSite) (l1 : List TNode) (A1 : Option Addr) (n1 c1 : Nat) (l2 : List Int) (A2 : Option Addr) (n2 c2 : Nat) (w : World) (H0 : Hid (TSite.fit a0)) (hm1 : n1 ≤ maxLen) (R1 : Rd w 0 w.heap.size 5 A1 n1 (cNode l1)) (H1 : Hid (cNodeOk l1)) (hm2 : n2 ≤ maxLen) (R2 : Rd w 0 w.heap.size 1 A2 n2 (i64s l2)) (H2 : Hid (I64s l2)) :
    Calls Try.prog 10 #[.agg #[.int .i64 a0.f0, .int .i64 a0.f1], .slice A1 n1 c1, .slice A2 n2 c2] w fun e w' => e = .returned (.bool true) ∧ Below w.heap.size w w' := by
  have hm1 : n1 ≤ 9223372036854775807 := hm1
  have hm2 : n2 ≤ 9223372036854775807 := hm2
  by_cases hn2 : n2 ≤ 1048576
  · skip
    by_cases hz1 : n1 ≤ 1048576
    · skip
      have hl0 : (mOTb a0 l1 l2).length ≤ 1073741823 := by (have := rd_len TNode.len R1 (by decide); have := mOTb_len a0 l1 l2; omega)
      have hl1 : (noEd).length ≤ 1073741823 := by decide
      have hl2 : (mOTh a0 l1 l2).length ≤ 1073741823 := by (have := mOTh_len a0 l1 l2; have h2 : l2.length = n2 := (by simpa [i64s] using R2.1); omega)
      have hqn1 : n1 ≤ 17179869184 := by omega
      have hqn2 : n2 ≤ 17179869184 := by omega
      have G : Below w.heap.size w (w.alloc (.cells #[.int .i64 a0.f0, .int .i64 a0.f1] 83)) := (Below.refl _ _).alloc (by simp) _
      have S0 := Lib.hid (show (w.alloc (.cells #[.int .i64 a0.f0, .int .i64 a0.f1] 83)).heap.size = w.heap.size + 1 by simp)
      replace R1 := R1.alloc (.cells #[.int .i64 a0.f0, .int .i64 a0.f1] 83)
      replace R2 := R2.alloc (.cells #[.int .i64 a0.f0, .int .i64 a0.f1] 83)
      have KB0 : BoxAt (w.alloc (.cells #[.int .i64 a0.f0, .int .i64 a0.f1] 83)) (w.heap.size) 83 #[.int .i64 a0.f0, .int .i64 a0.f1] := box_new _ _ _
      go_enter Try.func10, Try.ntmps10
      go_wp2_with fail
      refine Calls.mono (sz_node A1 n1 c1 (1048576) _ hm1 (by omega) (by omega)) ?_
      rintro e w1 hq
      obtain ⟨rfl, B1⟩ := hq.says
      replace R1 := (R1).new B1
      replace R2 := (R2).new B1
      replace KB0 := (KB0).new B1
      replace G := below_trans G B1 (Nat.le_refl _)
      have S1 := Lib.hid (show (w.alloc (.cells #[.int .i64 a0.f0, .int .i64 a0.f1] 83)).heap.size + 0 ≤ w1.heap.size by have := B1.size; first | (simpa using this) | ((try simp at this); omega))
      clear B1
      have xKB0_0 : w1.cell? ⟨w.heap.size, 0, none⟩ = some (.int .i64 a0.f0) := KB0.at_ rfl
      have xKB0_1 : w1.cell? ⟨w.heap.size, 1, none⟩ = some (.int .i64 a0.f1) := KB0.at_ rfl
      go_wp2_with fail
      refine Calls.mono (to_site_one a0 _) ?_
      rintro e w2 ⟨rfl, B2⟩
      replace R1 := (R1).new B2
      replace R2 := (R2).new B2
      replace KB0 := (KB0).new B2
      replace G := below_trans G B2 (Nat.le_refl _)
      have S2 := Lib.hid (show w1.heap.size + 0 ≤ w2.heap.size by have := B2.size; first | (simpa using this) | ((try simp at this); omega))
      clear B2
      clear xKB0_0 xKB0_1
      go_wp2_with fail
      refine Calls.mono (to_node l1 A1 n1 c1 _ _ _ (Nat.le_trans hqn1 (by decide)) R1) ?_
      rintro e w3 ⟨T3, tc3, rfl, FT3, B3⟩
      replace R1 := (R1).new B3
      replace R2 := (R2).new B3
      replace KB0 := (KB0).new B3
      replace G := below_trans G B3 (Nat.le_refl _)
      have S3 := Lib.hid (show w2.heap.size + 0 ≤ w3.heap.size by have := B3.size; first | (simpa using this) | ((try simp at this); omega))
      clear B3
      go_wp2_with fail
      refine Calls.mono (to_int l2 A2 n2 c2 _ _ _ (Nat.le_trans hqn2 (by decide)) R2) ?_
      rintro e w4 ⟨T4, tc4, rfl, FT4, B4⟩
      replace R1 := (R1).new B4
      replace R2 := (R2).new B4
      replace KB0 := (KB0).new B4
      replace FT3 := (FT3).new B4
      replace G := below_trans G B4 (Nat.le_refl _)
      have S4 := Lib.hid (show w3.heap.size + 0 ≤ w4.heap.size by have := B4.size; first | (simpa using this) | ((try simp at this); omega))
      clear B4
      go_wp2_with fail
      refine Calls.mono (spec_OpenTab a0 l1 T3 n1 tc3 _ _ l2 T4 n2 tc4 _ _ _ H0 (by omega) FT3.rd FT3.cap H1 (by omega) FT4.rd FT4.cap H2) ?_
      rintro e w5 ⟨P5_0_1, P5_0_2, P5_0_3, pc5_0_1, plo5_0_1, phi5_0_1, pc5_0_2, plo5_0_2, phi5_0_2, pc5_0_3, plo5_0_3, phi5_0_3, rfl, FP5_0_1, FP5_0_2, FP5_0_3, MP5_0, B5⟩
      replace R1 := (R1).new B5
      replace R2 := (R2).new B5
      replace KB0 := (KB0).new B5
      replace FT3 := (FT3).new B5
      replace FT4 := (FT4).new B5
      replace G := below_trans G B5 (Nat.le_refl _)
      have S5 := Lib.hid (show w4.heap.size + 0 ≤ w5.heap.size by have := B5.size; first | (simpa using this) | ((try simp at this); omega))
      clear B5
      clear FT3
      clear FT4
      have SA7 := Lib.hid (show (w5.alloc (.cells #[.int .i64 (mOTs a0 l1 l2).f0, .int .i64 (mOTs a0 l1 l2).f1, .slice P5_0_1 ((mOTb a0 l1 l2).length) pc5_0_1, .slice P5_0_2 ((noEd).length) pc5_0_2, .slice P5_0_3 ((mOTh a0 l1 l2).length) pc5_0_3, .int .i64 (mOTc a0 l1 l2)] 86)).heap.size = w5.heap.size + 1 by simp)
      replace R1 := R1.alloc (.cells #[.int .i64 (mOTs a0 l1 l2).f0, .int .i64 (mOTs a0 l1 l2).f1, .slice P5_0_1 ((mOTb a0 l1 l2).length) pc5_0_1, .slice P5_0_2 ((noEd).length) pc5_0_2, .slice P5_0_3 ((mOTh a0 l1 l2).length) pc5_0_3, .int .i64 (mOTc a0 l1 l2)] 86)
      replace R2 := R2.alloc (.cells #[.int .i64 (mOTs a0 l1 l2).f0, .int .i64 (mOTs a0 l1 l2).f1, .slice P5_0_1 ((mOTb a0 l1 l2).length) pc5_0_1, .slice P5_0_2 ((noEd).length) pc5_0_2, .slice P5_0_3 ((mOTh a0 l1 l2).length) pc5_0_3, .int .i64 (mOTc a0 l1 l2)] 86)
      replace KB0 := KB0.alloc_ (.cells #[.int .i64 (mOTs a0 l1 l2).f0, .int .i64 (mOTs a0 l1 l2).f1, .slice P5_0_1 ((mOTb a0 l1 l2).length) pc5_0_1, .slice P5_0_2 ((noEd).length) pc5_0_2, .slice P5_0_3 ((mOTh a0 l1 l2).length) pc5_0_3, .int .i64 (mOTc a0 l1 l2)] 86)
      replace FP5_0_1 := FP5_0_1.alloc (.cells #[.int .i64 (mOTs a0 l1 l2).f0, .int .i64 (mOTs a0 l1 l2).f1, .slice P5_0_1 ((mOTb a0 l1 l2).length) pc5_0_1, .slice P5_0_2 ((noEd).length) pc5_0_2, .slice P5_0_3 ((mOTh a0 l1 l2).length) pc5_0_3, .int .i64 (mOTc a0 l1 l2)] 86)
      replace FP5_0_2 := FP5_0_2.alloc (.cells #[.int .i64 (mOTs a0 l1 l2).f0, .int .i64 (mOTs a0 l1 l2).f1, .slice P5_0_1 ((mOTb a0 l1 l2).length) pc5_0_1, .slice P5_0_2 ((noEd).length) pc5_0_2, .slice P5_0_3 ((mOTh a0 l1 l2).length) pc5_0_3, .int .i64 (mOTc a0 l1 l2)] 86)
      replace FP5_0_3 := FP5_0_3.alloc (.cells #[.int .i64 (mOTs a0 l1 l2).f0, .int .i64 (mOTs a0 l1 l2).f1, .slice P5_0_1 ((mOTb a0 l1 l2).length) pc5_0_1, .slice P5_0_2 ((noEd).length) pc5_0_2, .slice P5_0_3 ((mOTh a0 l1 l2).length) pc5_0_3, .int .i64 (mOTc a0 l1 l2)] 86)
      have KX6 : BoxAt (w5.alloc (.cells #[.int .i64 (mOTs a0 l1 l2).f0, .int .i64 (mOTs a0 l1 l2).f1, .slice P5_0_1 ((mOTb a0 l1 l2).length) pc5_0_1, .slice P5_0_2 ((noEd).length) pc5_0_2, .slice P5_0_3 ((mOTh a0 l1 l2).length) pc5_0_3, .int .i64 (mOTc a0 l1 l2)] 86)) (w5.heap.size) 86 #[.int .i64 (mOTs a0 l1 l2).f0, .int .i64 (mOTs a0 l1 l2).f1, .slice P5_0_1 ((mOTb a0 l1 l2).length) pc5_0_1, .slice P5_0_2 ((noEd).length) pc5_0_2, .slice P5_0_3 ((mOTh a0 l1 l2).length) pc5_0_3, .int .i64 (mOTc a0 l1 l2)] := box_new _ _ _
      replace G := G.alloc (by have := S0.out; have := S1.out; have := S2.out; have := S3.out; have := S4.out; have := S5.out; have := SA7.out; have := SepTab_bd MP5_0.out; first | omega | (simp; omega)) (.cells #[.int .i64 (mOTs a0 l1 l2).f0, .int .i64 (mOTs a0 l1 l2).f1, .slice P5_0_1 ((mOTb a0 l1 l2).length) pc5_0_1, .slice P5_0_2 ((noEd).length) pc5_0_2, .slice P5_0_3 ((mOTh a0 l1 l2).length) pc5_0_3, .int .i64 (mOTc a0 l1 l2)] 86)
      go_wp2_with fail
      refine Calls.mono (to_node l1 A1 n1 c1 _ _ _ (Nat.le_trans hqn1 (by decide)) R1) ?_
      rintro e w6 ⟨T8, tc8, rfl, FT8, B8⟩
      replace R1 := (R1).new B8
      replace R2 := (R2).new B8
      replace KB0 := (KB0).new B8
      replace FP5_0_1 := (FP5_0_1).new B8
      replace FP5_0_2 := (FP5_0_2).new B8
      replace FP5_0_3 := (FP5_0_3).new B8
      replace KX6 := (KX6).new B8
      replace G := below_trans G B8 (Nat.le_refl _)
      have S6 := Lib.hid (show (w5.alloc (.cells #[.int .i64 (mOTs a0 l1 l2).f0, .int .i64 (mOTs a0 l1 l2).f1, .slice P5_0_1 ((mOTb a0 l1 l2).length) pc5_0_1, .slice P5_0_2 ((noEd).length) pc5_0_2, .slice P5_0_3 ((mOTh a0 l1 l2).length) pc5_0_3, .int .i64 (mOTc a0 l1 l2)] 86)).heap.size + 0 ≤ w6.heap.size by have := B8.size; first | (simpa using this) | ((try simp at this); omega))
      clear B8
      go_wp2_with fail
      refine Calls.mono (to_int l2 A2 n2 c2 _ _ _ (Nat.le_trans hqn2 (by decide)) R2) ?_
      rintro e w7 ⟨T9, tc9, rfl, FT9, B9⟩
      replace R1 := (R1).new B9
      replace R2 := (R2).new B9
      replace KB0 := (KB0).new B9
      replace FP5_0_1 := (FP5_0_1).new B9
      replace FP5_0_2 := (FP5_0_2).new B9
      replace FP5_0_3 := (FP5_0_3).new B9
      replace KX6 := (KX6).new B9
      replace FT8 := (FT8).new B9
      replace G := below_trans G B9 (Nat.le_refl _)
      have S7 := Lib.hid (show w6.heap.size + 0 ≤ w7.heap.size by have := B9.size; first | (simpa using this) | ((try simp at this); omega))
      clear B9
      have xKB0_0 : w7.cell? ⟨w.heap.size, 0, none⟩ = some (.int .i64 a0.f0) := KB0.at_ rfl
      have xKB0_1 : w7.cell? ⟨w.heap.size, 1, none⟩ = some (.int .i64 a0.f1) := KB0.at_ rfl
      go_wp2_with fail
      refine Calls.mono (to_site_one a0 _) ?_
      rintro e w8 ⟨rfl, B10⟩
      replace R1 := (R1).new B10
      replace R2 := (R2).new B10
      replace KB0 := (KB0).new B10
      replace FP5_0_1 := (FP5_0_1).new B10
      replace FP5_0_2 := (FP5_0_2).new B10
      replace FP5_0_3 := (FP5_0_3).new B10
      replace KX6 := (KX6).new B10
      replace FT8 := (FT8).new B10
      replace FT9 := (FT9).new B10
      replace G := below_trans G B10 (Nat.le_refl _)
      have S8 := Lib.hid (show w7.heap.size + 0 ≤ w8.heap.size by have := B10.size; first | (simpa using this) | ((try simp at this); omega))
      clear B10
      clear xKB0_0 xKB0_1
      go_wp2_with fail
      refine Calls.mono (impl_OpenTabC a0 l1 T8 n1 tc8 _ _ l2 T9 n2 tc9 _ _ _ H0 (by omega) FT8.rd FT8.cap H1 (by omega) FT9.rd FT9.cap H2) ?_
      rintro e w9 ⟨P11_0_1, P11_0_2, P11_0_3, pc11_0_1, plo11_0_1, phi11_0_1, pc11_0_2, plo11_0_2, phi11_0_2, pc11_0_3, plo11_0_3, phi11_0_3, rfl, FP11_0_1, FP11_0_2, FP11_0_3, MP11_0, B11⟩
      replace R1 := (R1).new B11
      replace R2 := (R2).new B11
      replace KB0 := (KB0).new B11
      replace FP5_0_1 := (FP5_0_1).new B11
      replace FP5_0_2 := (FP5_0_2).new B11
      replace FP5_0_3 := (FP5_0_3).new B11
      replace KX6 := (KX6).new B11
      replace FT8 := (FT8).new B11
      replace FT9 := (FT9).new B11
      replace G := below_trans G B11 (Nat.le_refl _)
      have S9 := Lib.hid (show w8.heap.size + 0 ≤ w9.heap.size by have := B11.size; first | (simpa using this) | ((try simp at this); omega))
      clear B11
      have SA13 := Lib.hid (show (w9.alloc (.cells #[.int .i64 (mOTs a0 l1 l2).f0, .int .i64 (mOTs a0 l1 l2).f1, .slice P11_0_1 ((mOTb a0 l1 l2).length) pc11_0_1, .slice P11_0_2 ((noEd).length) pc11_0_2, .slice P11_0_3 ((mOTh a0 l1 l2).length) pc11_0_3, .int .i64 (mOTc a0 l1 l2)] 86)).heap.size = w9.heap.size + 1 by simp)
      replace R1 := R1.alloc (.cells #[.int .i64 (mOTs a0 l1 l2).f0, .int .i64 (mOTs a0 l1 l2).f1, .slice P11_0_1 ((mOTb a0 l1 l2).length) pc11_0_1, .slice P11_0_2 ((noEd).length) pc11_0_2, .slice P11_0_3 ((mOTh a0 l1 l2).length) pc11_0_3, .int .i64 (mOTc a0 l1 l2)] 86)
      replace R2 := R2.alloc (.cells #[.int .i64 (mOTs a0 l1 l2).f0, .int .i64 (mOTs a0 l1 l2).f1, .slice P11_0_1 ((mOTb a0 l1 l2).length) pc11_0_1, .slice P11_0_2 ((noEd).length) pc11_0_2, .slice P11_0_3 ((mOTh a0 l1 l2).length) pc11_0_3, .int .i64 (mOTc a0 l1 l2)] 86)
      replace KB0 := KB0.alloc_ (.cells #[.int .i64 (mOTs a0 l1 l2).f0, .int .i64 (mOTs a0 l1 l2).f1, .slice P11_0_1 ((mOTb a0 l1 l2).length) pc11_0_1, .slice P11_0_2 ((noEd).length) pc11_0_2, .slice P11_0_3 ((mOTh a0 l1 l2).length) pc11_0_3, .int .i64 (mOTc a0 l1 l2)] 86)
      replace FP5_0_1 := FP5_0_1.alloc (.cells #[.int .i64 (mOTs a0 l1 l2).f0, .int .i64 (mOTs a0 l1 l2).f1, .slice P11_0_1 ((mOTb a0 l1 l2).length) pc11_0_1, .slice P11_0_2 ((noEd).length) pc11_0_2, .slice P11_0_3 ((mOTh a0 l1 l2).length) pc11_0_3, .int .i64 (mOTc a0 l1 l2)] 86)
      replace FP5_0_2 := FP5_0_2.alloc (.cells #[.int .i64 (mOTs a0 l1 l2).f0, .int .i64 (mOTs a0 l1 l2).f1, .slice P11_0_1 ((mOTb a0 l1 l2).length) pc11_0_1, .slice P11_0_2 ((noEd).length) pc11_0_2, .slice P11_0_3 ((mOTh a0 l1 l2).length) pc11_0_3, .int .i64 (mOTc a0 l1 l2)] 86)
      replace FP5_0_3 := FP5_0_3.alloc (.cells #[.int .i64 (mOTs a0 l1 l2).f0, .int .i64 (mOTs a0 l1 l2).f1, .slice P11_0_1 ((mOTb a0 l1 l2).length) pc11_0_1, .slice P11_0_2 ((noEd).length) pc11_0_2, .slice P11_0_3 ((mOTh a0 l1 l2).length) pc11_0_3, .int .i64 (mOTc a0 l1 l2)] 86)
      replace KX6 := KX6.alloc_ (.cells #[.int .i64 (mOTs a0 l1 l2).f0, .int .i64 (mOTs a0 l1 l2).f1, .slice P11_0_1 ((mOTb a0 l1 l2).length) pc11_0_1, .slice P11_0_2 ((noEd).length) pc11_0_2, .slice P11_0_3 ((mOTh a0 l1 l2).length) pc11_0_3, .int .i64 (mOTc a0 l1 l2)] 86)
      replace FT8 := FT8.alloc (.cells #[.int .i64 (mOTs a0 l1 l2).f0, .int .i64 (mOTs a0 l1 l2).f1, .slice P11_0_1 ((mOTb a0 l1 l2).length) pc11_0_1, .slice P11_0_2 ((noEd).length) pc11_0_2, .slice P11_0_3 ((mOTh a0 l1 l2).length) pc11_0_3, .int .i64 (mOTc a0 l1 l2)] 86)
      replace FT9 := FT9.alloc (.cells #[.int .i64 (mOTs a0 l1 l2).f0, .int .i64 (mOTs a0 l1 l2).f1, .slice P11_0_1 ((mOTb a0 l1 l2).length) pc11_0_1, .slice P11_0_2 ((noEd).length) pc11_0_2, .slice P11_0_3 ((mOTh a0 l1 l2).length) pc11_0_3, .int .i64 (mOTc a0 l1 l2)] 86)
      replace FP11_0_1 := FP11_0_1.alloc (.cells #[.int .i64 (mOTs a0 l1 l2).f0, .int .i64 (mOTs a0 l1 l2).f1, .slice P11_0_1 ((mOTb a0 l1 l2).length) pc11_0_1, .slice P11_0_2 ((noEd).length) pc11_0_2, .slice P11_0_3 ((mOTh a0 l1 l2).length) pc11_0_3, .int .i64 (mOTc a0 l1 l2)] 86)
      replace FP11_0_2 := FP11_0_2.alloc (.cells #[.int .i64 (mOTs a0 l1 l2).f0, .int .i64 (mOTs a0 l1 l2).f1, .slice P11_0_1 ((mOTb a0 l1 l2).length) pc11_0_1, .slice P11_0_2 ((noEd).length) pc11_0_2, .slice P11_0_3 ((mOTh a0 l1 l2).length) pc11_0_3, .int .i64 (mOTc a0 l1 l2)] 86)
      replace FP11_0_3 := FP11_0_3.alloc (.cells #[.int .i64 (mOTs a0 l1 l2).f0, .int .i64 (mOTs a0 l1 l2).f1, .slice P11_0_1 ((mOTb a0 l1 l2).length) pc11_0_1, .slice P11_0_2 ((noEd).length) pc11_0_2, .slice P11_0_3 ((mOTh a0 l1 l2).length) pc11_0_3, .int .i64 (mOTc a0 l1 l2)] 86)
      have KX12 : BoxAt (w9.alloc (.cells #[.int .i64 (mOTs a0 l1 l2).f0, .int .i64 (mOTs a0 l1 l2).f1, .slice P11_0_1 ((mOTb a0 l1 l2).length) pc11_0_1, .slice P11_0_2 ((noEd).length) pc11_0_2, .slice P11_0_3 ((mOTh a0 l1 l2).length) pc11_0_3, .int .i64 (mOTc a0 l1 l2)] 86)) (w9.heap.size) 86 #[.int .i64 (mOTs a0 l1 l2).f0, .int .i64 (mOTs a0 l1 l2).f1, .slice P11_0_1 ((mOTb a0 l1 l2).length) pc11_0_1, .slice P11_0_2 ((noEd).length) pc11_0_2, .slice P11_0_3 ((mOTh a0 l1 l2).length) pc11_0_3, .int .i64 (mOTc a0 l1 l2)] := box_new _ _ _
      replace G := G.alloc (by have := S0.out; have := S1.out; have := S2.out; have := S3.out; have := S4.out; have := S5.out; have := SA7.out; have := S6.out; have := S7.out; have := S8.out; have := S9.out; have := SA13.out; have := SepTab_bd MP5_0.out; have := SepTab_bd MP11_0.out; first | omega | (simp; omega)) (.cells #[.int .i64 (mOTs a0 l1 l2).f0, .int .i64 (mOTs a0 l1 l2).f1, .slice P11_0_1 ((mOTb a0 l1 l2).length) pc11_0_1, .slice P11_0_2 ((noEd).length) pc11_0_2, .slice P11_0_3 ((mOTh a0 l1 l2).length) pc11_0_3, .int .i64 (mOTc a0 l1 l2)] 86)
      have xKX12_0 : (w9.alloc (.cells #[.int .i64 (mOTs a0 l1 l2).f0, .int .i64 (mOTs a0 l1 l2).f1, .slice P11_0_1 ((mOTb a0 l1 l2).length) pc11_0_1, .slice P11_0_2 ((noEd).length) pc11_0_2, .slice P11_0_3 ((mOTh a0 l1 l2).length) pc11_0_3, .int .i64 (mOTc a0 l1 l2)] 86)).cell? ⟨w9.heap.size, 0, none⟩ = some (.int .i64 (mOTs a0 l1 l2).f0) := KX12.at_ rfl
      have xKX12_1 : (w9.alloc (.cells #[.int .i64 (mOTs a0 l1 l2).f0, .int .i64 (mOTs a0 l1 l2).f1, .slice P11_0_1 ((mOTb a0 l1 l2).length) pc11_0_1, .slice P11_0_2 ((noEd).length) pc11_0_2, .slice P11_0_3 ((mOTh a0 l1 l2).length) pc11_0_3, .int .i64 (mOTc a0 l1 l2)] 86)).cell? ⟨w9.heap.size, 1, none⟩ = some (.int .i64 (mOTs a0 l1 l2).f1) := KX12.at_ rfl
      have xKX12_2 : (w9.alloc (.cells #[.int .i64 (mOTs a0 l1 l2).f0, .int .i64 (mOTs a0 l1 l2).f1, .slice P11_0_1 ((mOTb a0 l1 l2).length) pc11_0_1, .slice P11_0_2 ((noEd).length) pc11_0_2, .slice P11_0_3 ((mOTh a0 l1 l2).length) pc11_0_3, .int .i64 (mOTc a0 l1 l2)] 86)).cell? ⟨w9.heap.size, 2, none⟩ = some (.slice P11_0_1 ((mOTb a0 l1 l2).length) pc11_0_1) := KX12.at_ rfl
      have xKX12_3 : (w9.alloc (.cells #[.int .i64 (mOTs a0 l1 l2).f0, .int .i64 (mOTs a0 l1 l2).f1, .slice P11_0_1 ((mOTb a0 l1 l2).length) pc11_0_1, .slice P11_0_2 ((noEd).length) pc11_0_2, .slice P11_0_3 ((mOTh a0 l1 l2).length) pc11_0_3, .int .i64 (mOTc a0 l1 l2)] 86)).cell? ⟨w9.heap.size, 3, none⟩ = some (.slice P11_0_2 ((noEd).length) pc11_0_2) := KX12.at_ rfl
      have xKX12_4 : (w9.alloc (.cells #[.int .i64 (mOTs a0 l1 l2).f0, .int .i64 (mOTs a0 l1 l2).f1, .slice P11_0_1 ((mOTb a0 l1 l2).length) pc11_0_1, .slice P11_0_2 ((noEd).length) pc11_0_2, .slice P11_0_3 ((mOTh a0 l1 l2).length) pc11_0_3, .int .i64 (mOTc a0 l1 l2)] 86)).cell? ⟨w9.heap.size, 4, none⟩ = some (.slice P11_0_3 ((mOTh a0 l1 l2).length) pc11_0_3) := KX12.at_ rfl
      have xKX12_5 : (w9.alloc (.cells #[.int .i64 (mOTs a0 l1 l2).f0, .int .i64 (mOTs a0 l1 l2).f1, .slice P11_0_1 ((mOTb a0 l1 l2).length) pc11_0_1, .slice P11_0_2 ((noEd).length) pc11_0_2, .slice P11_0_3 ((mOTh a0 l1 l2).length) pc11_0_3, .int .i64 (mOTc a0 l1 l2)] 86)).cell? ⟨w9.heap.size, 5, none⟩ = some (.int .i64 (mOTc a0 l1 l2)) := KX12.at_ rfl
      have xKX6_0 : (w9.alloc (.cells #[.int .i64 (mOTs a0 l1 l2).f0, .int .i64 (mOTs a0 l1 l2).f1, .slice P11_0_1 ((mOTb a0 l1 l2).length) pc11_0_1, .slice P11_0_2 ((noEd).length) pc11_0_2, .slice P11_0_3 ((mOTh a0 l1 l2).length) pc11_0_3, .int .i64 (mOTc a0 l1 l2)] 86)).cell? ⟨w5.heap.size, 0, none⟩ = some (.int .i64 (mOTs a0 l1 l2).f0) := KX6.at_ rfl
      have xKX6_1 : (w9.alloc (.cells #[.int .i64 (mOTs a0 l1 l2).f0, .int .i64 (mOTs a0 l1 l2).f1, .slice P11_0_1 ((mOTb a0 l1 l2).length) pc11_0_1, .slice P11_0_2 ((noEd).length) pc11_0_2, .slice P11_0_3 ((mOTh a0 l1 l2).length) pc11_0_3, .int .i64 (mOTc a0 l1 l2)] 86)).cell? ⟨w5.heap.size, 1, none⟩ = some (.int .i64 (mOTs a0 l1 l2).f1) := KX6.at_ rfl
      have xKX6_2 : (w9.alloc (.cells #[.int .i64 (mOTs a0 l1 l2).f0, .int .i64 (mOTs a0 l1 l2).f1, .slice P11_0_1 ((mOTb a0 l1 l2).length) pc11_0_1, .slice P11_0_2 ((noEd).length) pc11_0_2, .slice P11_0_3 ((mOTh a0 l1 l2).length) pc11_0_3, .int .i64 (mOTc a0 l1 l2)] 86)).cell? ⟨w5.heap.size, 2, none⟩ = some (.slice P5_0_1 ((mOTb a0 l1 l2).length) pc5_0_1) := KX6.at_ rfl
      have xKX6_3 : (w9.alloc (.cells #[.int .i64 (mOTs a0 l1 l2).f0, .int .i64 (mOTs a0 l1 l2).f1, .slice P11_0_1 ((mOTb a0 l1 l2).length) pc11_0_1, .slice P11_0_2 ((noEd).length) pc11_0_2, .slice P11_0_3 ((mOTh a0 l1 l2).length) pc11_0_3, .int .i64 (mOTc a0 l1 l2)] 86)).cell? ⟨w5.heap.size, 3, none⟩ = some (.slice P5_0_2 ((noEd).length) pc5_0_2) := KX6.at_ rfl
      have xKX6_4 : (w9.alloc (.cells #[.int .i64 (mOTs a0 l1 l2).f0, .int .i64 (mOTs a0 l1 l2).f1, .slice P11_0_1 ((mOTb a0 l1 l2).length) pc11_0_1, .slice P11_0_2 ((noEd).length) pc11_0_2, .slice P11_0_3 ((mOTh a0 l1 l2).length) pc11_0_3, .int .i64 (mOTc a0 l1 l2)] 86)).cell? ⟨w5.heap.size, 4, none⟩ = some (.slice P5_0_3 ((mOTh a0 l1 l2).length) pc5_0_3) := KX6.at_ rfl
      have xKX6_5 : (w9.alloc (.cells #[.int .i64 (mOTs a0 l1 l2).f0, .int .i64 (mOTs a0 l1 l2).f1, .slice P11_0_1 ((mOTb a0 l1 l2).length) pc11_0_1, .slice P11_0_2 ((noEd).length) pc11_0_2, .slice P11_0_3 ((mOTh a0 l1 l2).length) pc11_0_3, .int .i64 (mOTc a0 l1 l2)] 86)).cell? ⟨w5.heap.size, 5, none⟩ = some (.int .i64 (mOTc a0 l1 l2)) := KX6.at_ rfl
      go_wp2_with fail
      refine Calls.mono (eq_tab_same (mOTs a0 l1 l2) (mOTb a0 l1 l2) ((mOTb a0 l1 l2).length) P11_0_1 P5_0_1 pc11_0_1 pc5_0_1 _ _ _ _ noEd ((noEd).length) P11_0_2 P5_0_2 pc11_0_2 pc5_0_2 _ _ _ _ (mOTh a0 l1 l2) ((mOTh a0 l1 l2).length) P11_0_3 P5_0_3 pc11_0_3 pc5_0_3 _ _ _ _ (mOTc a0 l1 l2) _ (by omega) (by omega) (by omega) FP11_0_1.rd FP11_0_2.rd FP11_0_3.rd FP5_0_1.rd FP5_0_2.rd FP5_0_3.rd) ?_
      rintro e w10 ⟨rfl, B14⟩
      replace R1 := (R1).new B14
      replace R2 := (R2).new B14
      replace KB0 := (KB0).new B14
      replace FP5_0_1 := (FP5_0_1).new B14
      replace FP5_0_2 := (FP5_0_2).new B14
      replace FP5_0_3 := (FP5_0_3).new B14
      replace KX6 := (KX6).new B14
      replace FT8 := (FT8).new B14
      replace FT9 := (FT9).new B14
      replace FP11_0_1 := (FP11_0_1).new B14
      replace FP11_0_2 := (FP11_0_2).new B14
      replace FP11_0_3 := (FP11_0_3).new B14
      replace KX12 := (KX12).new B14
      replace G := below_trans G B14 (Nat.le_refl _)
      have S10 := Lib.hid (show (w9.alloc (.cells #[.int .i64 (mOTs a0 l1 l2).f0, .int .i64 (mOTs a0 l1 l2).f1, .slice P11_0_1 ((mOTb a0 l1 l2).length) pc11_0_1, .slice P11_0_2 ((noEd).length) pc11_0_2, .slice P11_0_3 ((mOTh a0 l1 l2).length) pc11_0_3, .int .i64 (mOTc a0 l1 l2)] 86)).heap.size + 0 ≤ w10.heap.size by have := B14.size; first | (simpa using this) | ((try simp at this); omega))
      clear B14
      clear xKX12_0 xKX12_1 xKX12_2 xKX12_3 xKX12_4 xKX12_5 xKX6_0 xKX6_1 xKX6_2 xKX6_3 xKX6_4 xKX6_5
      go_wp2_with fail
      refine Calls.mono (to_node l1 A1 n1 c1 _ _ _ (Nat.le_trans hqn1 (by decide)) R1) ?_
      rintro e w11 ⟨T15, tc15, rfl, FT15, B15⟩
      replace R1 := (R1).new B15
      replace R2 := (R2).new B15
      replace KB0 := (KB0).new B15
      replace FP5_0_1 := (FP5_0_1).new B15
      replace FP5_0_2 := (FP5_0_2).new B15
      replace FP5_0_3 := (FP5_0_3).new B15
      replace KX6 := (KX6).new B15
      replace FT8 := (FT8).new B15
      replace FT9 := (FT9).new B15
      replace FP11_0_1 := (FP11_0_1).new B15
      replace FP11_0_2 := (FP11_0_2).new B15
      replace FP11_0_3 := (FP11_0_3).new B15
      replace KX12 := (KX12).new B15
      replace G := below_trans G B15 (Nat.le_refl _)
      have S11 := Lib.hid (show w10.heap.size + 0 ≤ w11.heap.size by have := B15.size; first | (simpa using this) | ((try simp at this); omega))
      clear B15
      go_wp2_with fail
      refine Calls.mono (eq_node_same l1 T8 T15 n1 n1 tc8 tc15 _ _ _ _ _ (by omega) (by omega) FT8.rd FT15.rd) ?_
      rintro e w12 ⟨rfl, B16⟩
      replace R1 := (R1).new B16
      replace R2 := (R2).new B16
      replace KB0 := (KB0).new B16
      replace FP5_0_1 := (FP5_0_1).new B16
      replace FP5_0_2 := (FP5_0_2).new B16
      replace FP5_0_3 := (FP5_0_3).new B16
      replace KX6 := (KX6).new B16
      replace FT8 := (FT8).new B16
      replace FT9 := (FT9).new B16
      replace FP11_0_1 := (FP11_0_1).new B16
      replace FP11_0_2 := (FP11_0_2).new B16
      replace FP11_0_3 := (FP11_0_3).new B16
      replace KX12 := (KX12).new B16
      replace FT15 := (FT15).new B16
      replace G := below_trans G B16 (Nat.le_refl _)
      have S12 := Lib.hid (show w11.heap.size + 0 ≤ w12.heap.size by have := B16.size; first | (simpa using this) | ((try simp at this); omega))
      clear B16
      clear FT15
      go_wp2_with fail
      refine Calls.mono (to_int l2 A2 n2 c2 _ _ _ (Nat.le_trans hqn2 (by decide)) R2) ?_
      rintro e w13 ⟨T17, tc17, rfl, FT17, B17⟩
      replace R1 := (R1).new B17
      replace R2 := (R2).new B17
      replace KB0 := (KB0).new B17
      replace FP5_0_1 := (FP5_0_1).new B17
      replace FP5_0_2 := (FP5_0_2).new B17
      replace FP5_0_3 := (FP5_0_3).new B17
      replace KX6 := (KX6).new B17
      replace FT8 := (FT8).new B17
      replace FT9 := (FT9).new B17
      replace FP11_0_1 := (FP11_0_1).new B17
      replace FP11_0_2 := (FP11_0_2).new B17
      replace FP11_0_3 := (FP11_0_3).new B17
      replace KX12 := (KX12).new B17
      replace G := below_trans G B17 (Nat.le_refl _)
      have S13 := Lib.hid (show w12.heap.size + 0 ≤ w13.heap.size by have := B17.size; first | (simpa using this) | ((try simp at this); omega))
      clear B17
      go_wp2_with fail
      refine Calls.mono (eq_int_same l2 T9 T17 n2 n2 tc9 tc17 _ _ _ _ _ (by omega) (by omega) FT9.rd FT17.rd) ?_
      rintro e w14 hq
      obtain ⟨rfl, B18⟩ := hq.says
      replace R1 := (R1).new B18
      replace R2 := (R2).new B18
      replace KB0 := (KB0).new B18
      replace FP5_0_1 := (FP5_0_1).new B18
      replace FP5_0_2 := (FP5_0_2).new B18
      replace FP5_0_3 := (FP5_0_3).new B18
      replace KX6 := (KX6).new B18
      replace FT8 := (FT8).new B18
      replace FT9 := (FT9).new B18
      replace FP11_0_1 := (FP11_0_1).new B18
      replace FP11_0_2 := (FP11_0_2).new B18
      replace FP11_0_3 := (FP11_0_3).new B18
      replace KX12 := (KX12).new B18
      replace FT17 := (FT17).new B18
      replace G := below_trans G B18 (Nat.le_refl _)
      have S14 := Lib.hid (show w13.heap.size + 0 ≤ w14.heap.size by have := B18.size; first | (simpa using this) | ((try simp at this); omega))
      clear B18
      clear FT17
      go_wp2_with fail
      refine Calls.mono (mark_node _ T8 n1 tc8 _ _ (1) _ (by omega) (by omega) FT8) ?_
      rintro e w15 ⟨rfl, FM19, B19, E19⟩
      replace R1 := (R1).chg B19 (by have := S0.out; have := S1.out; have := S2.out; have := S3.out; have := S4.out; have := S5.out; have := SA7.out; have := S6.out; have := S7.out; have := S8.out; have := S9.out; have := SA13.out; have := S10.out; have := S11.out; have := S12.out; have := S13.out; have := S14.out; have := SepTab_bd MP5_0.out; have := SepTab_bd MP11_0.out; omega)
      replace R2 := (R2).chg B19 (by have := S0.out; have := S1.out; have := S2.out; have := S3.out; have := S4.out; have := S5.out; have := SA7.out; have := S6.out; have := S7.out; have := S8.out; have := S9.out; have := SA13.out; have := S10.out; have := S11.out; have := S12.out; have := S13.out; have := S14.out; have := SepTab_bd MP5_0.out; have := SepTab_bd MP11_0.out; omega)
      replace KB0 := (KB0).chg B19 (by have := S0.out; have := S1.out; have := S2.out; have := S3.out; have := S4.out; have := S5.out; have := SA7.out; have := S6.out; have := S7.out; have := S8.out; have := S9.out; have := SA13.out; have := S10.out; have := S11.out; have := S12.out; have := S13.out; have := S14.out; have := SepTab_bd MP5_0.out; have := SepTab_bd MP11_0.out; omega)
      replace FP5_0_1 := (FP5_0_1).chg B19 (by have := S0.out; have := S1.out; have := S2.out; have := S3.out; have := S4.out; have := S5.out; have := SA7.out; have := S6.out; have := S7.out; have := S8.out; have := S9.out; have := SA13.out; have := S10.out; have := S11.out; have := S12.out; have := S13.out; have := S14.out; have := SepTab_bd MP5_0.out; have := SepTab_bd MP11_0.out; omega)
      replace FP5_0_2 := (FP5_0_2).chg B19 (by have := S0.out; have := S1.out; have := S2.out; have := S3.out; have := S4.out; have := S5.out; have := SA7.out; have := S6.out; have := S7.out; have := S8.out; have := S9.out; have := SA13.out; have := S10.out; have := S11.out; have := S12.out; have := S13.out; have := S14.out; have := SepTab_bd MP5_0.out; have := SepTab_bd MP11_0.out; omega)
      replace FP5_0_3 := (FP5_0_3).chg B19 (by have := S0.out; have := S1.out; have := S2.out; have := S3.out; have := S4.out; have := S5.out; have := SA7.out; have := S6.out; have := S7.out; have := S8.out; have := S9.out; have := SA13.out; have := S10.out; have := S11.out; have := S12.out; have := S13.out; have := S14.out; have := SepTab_bd MP5_0.out; have := SepTab_bd MP11_0.out; omega)
      replace KX6 := (KX6).chg B19 (by have := S0.out; have := S1.out; have := S2.out; have := S3.out; have := S4.out; have := S5.out; have := SA7.out; have := S6.out; have := S7.out; have := S8.out; have := S9.out; have := SA13.out; have := S10.out; have := S11.out; have := S12.out; have := S13.out; have := S14.out; have := SepTab_bd MP5_0.out; have := SepTab_bd MP11_0.out; omega)
      replace FT9 := (FT9).chg B19 (by have := S0.out; have := S1.out; have := S2.out; have := S3.out; have := S4.out; have := S5.out; have := SA7.out; have := S6.out; have := S7.out; have := S8.out; have := S9.out; have := SA13.out; have := S10.out; have := S11.out; have := S12.out; have := S13.out; have := S14.out; have := SepTab_bd MP5_0.out; have := SepTab_bd MP11_0.out; omega)
      replace FP11_0_1 := (FP11_0_1).chg B19 (by have := S0.out; have := S1.out; have := S2.out; have := S3.out; have := S4.out; have := S5.out; have := SA7.out; have := S6.out; have := S7.out; have := S8.out; have := S9.out; have := SA13.out; have := S10.out; have := S11.out; have := S12.out; have := S13.out; have := S14.out; have := SepTab_bd MP5_0.out; have := SepTab_bd MP11_0.out; omega)
      replace FP11_0_2 := (FP11_0_2).chg B19 (by have := S0.out; have := S1.out; have := S2.out; have := S3.out; have := S4.out; have := S5.out; have := SA7.out; have := S6.out; have := S7.out; have := S8.out; have := S9.out; have := SA13.out; have := S10.out; have := S11.out; have := S12.out; have := S13.out; have := S14.out; have := SepTab_bd MP5_0.out; have := SepTab_bd MP11_0.out; omega)
      replace FP11_0_3 := (FP11_0_3).chg B19 (by have := S0.out; have := S1.out; have := S2.out; have := S3.out; have := S4.out; have := S5.out; have := SA7.out; have := S6.out; have := S7.out; have := S8.out; have := S9.out; have := SA13.out; have := S10.out; have := S11.out; have := S12.out; have := S13.out; have := S14.out; have := SepTab_bd MP5_0.out; have := SepTab_bd MP11_0.out; omega)
      replace KX12 := (KX12).chg B19 (by have := S0.out; have := S1.out; have := S2.out; have := S3.out; have := S4.out; have := S5.out; have := SA7.out; have := S6.out; have := S7.out; have := S8.out; have := S9.out; have := SA13.out; have := S10.out; have := S11.out; have := S12.out; have := S13.out; have := S14.out; have := SepTab_bd MP5_0.out; have := SepTab_bd MP11_0.out; omega)
      replace G := G.trans (B19.below (.inl (by have := S0.out; have := S1.out; have := S2.out; have := S3.out; have := S4.out; have := S5.out; have := SA7.out; have := S6.out; have := S7.out; have := S8.out; have := S9.out; have := SA13.out; have := S10.out; have := S11.out; have := S12.out; have := S13.out; have := S14.out; have := SepTab_bd MP5_0.out; have := SepTab_bd MP11_0.out; omega)) (by have := S0.out; have := S1.out; have := S2.out; have := S3.out; have := S4.out; have := S5.out; have := SA7.out; have := S6.out; have := S7.out; have := S8.out; have := S9.out; have := SA13.out; have := S10.out; have := S11.out; have := S12.out; have := S13.out; have := S14.out; have := SepTab_bd MP5_0.out; have := SepTab_bd MP11_0.out; first | omega | (simp; omega)))
      have S15 := Lib.hid (show w14.heap.size + 0 ≤ w15.heap.size by have := B19.size; first | (simpa using this) | ((try simp at this); omega))
      clear FT8
      clear E19
      clear B19
      go_wp2_with fail
      refine Calls.mono (mark_int _ T9 n2 tc9 _ _ (1 + n1 * 5) _ (by omega) (by omega) FT9) ?_
      rintro e w16 ⟨rfl, FM20, B20, E20⟩
      replace R1 := (R1).chg B20 (by have := S0.out; have := S1.out; have := S2.out; have := S3.out; have := S4.out; have := S5.out; have := SA7.out; have := S6.out; have := S7.out; have := S8.out; have := S9.out; have := SA13.out; have := S10.out; have := S11.out; have := S12.out; have := S13.out; have := S14.out; have := S15.out; have := SepTab_bd MP5_0.out; have := SepTab_bd MP11_0.out; omega)
      replace R2 := (R2).chg B20 (by have := S0.out; have := S1.out; have := S2.out; have := S3.out; have := S4.out; have := S5.out; have := SA7.out; have := S6.out; have := S7.out; have := S8.out; have := S9.out; have := SA13.out; have := S10.out; have := S11.out; have := S12.out; have := S13.out; have := S14.out; have := S15.out; have := SepTab_bd MP5_0.out; have := SepTab_bd MP11_0.out; omega)
      replace KB0 := (KB0).chg B20 (by have := S0.out; have := S1.out; have := S2.out; have := S3.out; have := S4.out; have := S5.out; have := SA7.out; have := S6.out; have := S7.out; have := S8.out; have := S9.out; have := SA13.out; have := S10.out; have := S11.out; have := S12.out; have := S13.out; have := S14.out; have := S15.out; have := SepTab_bd MP5_0.out; have := SepTab_bd MP11_0.out; omega)
      replace FP5_0_1 := (FP5_0_1).chg B20 (by have := S0.out; have := S1.out; have := S2.out; have := S3.out; have := S4.out; have := S5.out; have := SA7.out; have := S6.out; have := S7.out; have := S8.out; have := S9.out; have := SA13.out; have := S10.out; have := S11.out; have := S12.out; have := S13.out; have := S14.out; have := S15.out; have := SepTab_bd MP5_0.out; have := SepTab_bd MP11_0.out; omega)
      replace FP5_0_2 := (FP5_0_2).chg B20 (by have := S0.out; have := S1.out; have := S2.out; have := S3.out; have := S4.out; have := S5.out; have := SA7.out; have := S6.out; have := S7.out; have := S8.out; have := S9.out; have := SA13.out; have := S10.out; have := S11.out; have := S12.out; have := S13.out; have := S14.out; have := S15.out; have := SepTab_bd MP5_0.out; have := SepTab_bd MP11_0.out; omega)
      replace FP5_0_3 := (FP5_0_3).chg B20 (by have := S0.out; have := S1.out; have := S2.out; have := S3.out; have := S4.out; have := S5.out; have := SA7.out; have := S6.out; have := S7.out; have := S8.out; have := S9.out; have := SA13.out; have := S10.out; have := S11.out; have := S12.out; have := S13.out; have := S14.out; have := S15.out; have := SepTab_bd MP5_0.out; have := SepTab_bd MP11_0.out; omega)
      replace KX6 := (KX6).chg B20 (by have := S0.out; have := S1.out; have := S2.out; have := S3.out; have := S4.out; have := S5.out; have := SA7.out; have := S6.out; have := S7.out; have := S8.out; have := S9.out; have := SA13.out; have := S10.out; have := S11.out; have := S12.out; have := S13.out; have := S14.out; have := S15.out; have := SepTab_bd MP5_0.out; have := SepTab_bd MP11_0.out; omega)
      replace FP11_0_1 := (FP11_0_1).chg B20 (by have := S0.out; have := S1.out; have := S2.out; have := S3.out; have := S4.out; have := S5.out; have := SA7.out; have := S6.out; have := S7.out; have := S8.out; have := S9.out; have := SA13.out; have := S10.out; have := S11.out; have := S12.out; have := S13.out; have := S14.out; have := S15.out; have := SepTab_bd MP5_0.out; have := SepTab_bd MP11_0.out; omega)
      replace FP11_0_2 := (FP11_0_2).chg B20 (by have := S0.out; have := S1.out; have := S2.out; have := S3.out; have := S4.out; have := S5.out; have := SA7.out; have := S6.out; have := S7.out; have := S8.out; have := S9.out; have := SA13.out; have := S10.out; have := S11.out; have := S12.out; have := S13.out; have := S14.out; have := S15.out; have := SepTab_bd MP5_0.out; have := SepTab_bd MP11_0.out; omega)
      replace FP11_0_3 := (FP11_0_3).chg B20 (by have := S0.out; have := S1.out; have := S2.out; have := S3.out; have := S4.out; have := S5.out; have := SA7.out; have := S6.out; have := S7.out; have := S8.out; have := S9.out; have := SA13.out; have := S10.out; have := S11.out; have := S12.out; have := S13.out; have := S14.out; have := S15.out; have := SepTab_bd MP5_0.out; have := SepTab_bd MP11_0.out; omega)
      replace KX12 := (KX12).chg B20 (by have := S0.out; have := S1.out; have := S2.out; have := S3.out; have := S4.out; have := S5.out; have := SA7.out; have := S6.out; have := S7.out; have := S8.out; have := S9.out; have := SA13.out; have := S10.out; have := S11.out; have := S12.out; have := S13.out; have := S14.out; have := S15.out; have := SepTab_bd MP5_0.out; have := SepTab_bd MP11_0.out; omega)
      replace FM19 := (FM19).chg B20 (by have := S0.out; have := S1.out; have := S2.out; have := S3.out; have := S4.out; have := S5.out; have := SA7.out; have := S6.out; have := S7.out; have := S8.out; have := S9.out; have := SA13.out; have := S10.out; have := S11.out; have := S12.out; have := S13.out; have := S14.out; have := S15.out; have := SepTab_bd MP5_0.out; have := SepTab_bd MP11_0.out; omega)
      replace G := G.trans (B20.below (.inl (by have := S0.out; have := S1.out; have := S2.out; have := S3.out; have := S4.out; have := S5.out; have := SA7.out; have := S6.out; have := S7.out; have := S8.out; have := S9.out; have := SA13.out; have := S10.out; have := S11.out; have := S12.out; have := S13.out; have := S14.out; have := S15.out; have := SepTab_bd MP5_0.out; have := SepTab_bd MP11_0.out; omega)) (by have := S0.out; have := S1.out; have := S2.out; have := S3.out; have := S4.out; have := S5.out; have := SA7.out; have := S6.out; have := S7.out; have := S8.out; have := S9.out; have := SA13.out; have := S10.out; have := S11.out; have := S12.out; have := S13.out; have := S14.out; have := S15.out; have := SepTab_bd MP5_0.out; have := SepTab_bd MP11_0.out; first | omega | (simp; omega)))
      have S16 := Lib.hid (show w15.heap.size + 0 ≤ w16.heap.size by have := B20.size; first | (simpa using this) | ((try simp at this); omega))
      clear FT9
      clear E20
      clear B20
      have xKX12_0 : w16.cell? ⟨w9.heap.size, 0, none⟩ = some (.int .i64 (mOTs a0 l1 l2).f0) := KX12.at_ rfl
      have xKX12_1 : w16.cell? ⟨w9.heap.size, 1, none⟩ = some (.int .i64 (mOTs a0 l1 l2).f1) := KX12.at_ rfl
      have xKX12_2 : w16.cell? ⟨w9.heap.size, 2, none⟩ = some (.slice P11_0_1 ((mOTb a0 l1 l2).length) pc11_0_1) := KX12.at_ rfl
      have xKX12_3 : w16.cell? ⟨w9.heap.size, 3, none⟩ = some (.slice P11_0_2 ((noEd).length) pc11_0_2) := KX12.at_ rfl
      have xKX12_4 : w16.cell? ⟨w9.heap.size, 4, none⟩ = some (.slice P11_0_3 ((mOTh a0 l1 l2).length) pc11_0_3) := KX12.at_ rfl
      have xKX12_5 : w16.cell? ⟨w9.heap.size, 5, none⟩ = some (.int .i64 (mOTc a0 l1 l2)) := KX12.at_ rfl
      have xKX6_0 : w16.cell? ⟨w5.heap.size, 0, none⟩ = some (.int .i64 (mOTs a0 l1 l2).f0) := KX6.at_ rfl
      have xKX6_1 : w16.cell? ⟨w5.heap.size, 1, none⟩ = some (.int .i64 (mOTs a0 l1 l2).f1) := KX6.at_ rfl
      have xKX6_2 : w16.cell? ⟨w5.heap.size, 2, none⟩ = some (.slice P5_0_1 ((mOTb a0 l1 l2).length) pc5_0_1) := KX6.at_ rfl
      have xKX6_3 : w16.cell? ⟨w5.heap.size, 3, none⟩ = some (.slice P5_0_2 ((noEd).length) pc5_0_2) := KX6.at_ rfl
      have xKX6_4 : w16.cell? ⟨w5.heap.size, 4, none⟩ = some (.slice P5_0_3 ((mOTh a0 l1 l2).length) pc5_0_3) := KX6.at_ rfl
      have xKX6_5 : w16.cell? ⟨w5.heap.size, 5, none⟩ = some (.int .i64 (mOTc a0 l1 l2)) := KX6.at_ rfl
      go_wp2_with fail
      refine Calls.mono (eq_tab_same (mOTs a0 l1 l2) (mOTb a0 l1 l2) ((mOTb a0 l1 l2).length) P11_0_1 P5_0_1 pc11_0_1 pc5_0_1 _ _ _ _ noEd ((noEd).length) P11_0_2 P5_0_2 pc11_0_2 pc5_0_2 _ _ _ _ (mOTh a0 l1 l2) ((mOTh a0 l1 l2).length) P11_0_3 P5_0_3 pc11_0_3 pc5_0_3 _ _ _ _ (mOTc a0 l1 l2) _ (by omega) (by omega) (by omega) FP11_0_1.rd FP11_0_2.rd FP11_0_3.rd FP5_0_1.rd FP5_0_2.rd FP5_0_3.rd) ?_
      rintro e w17 ⟨rfl, B21⟩
      replace R1 := (R1).new B21
      replace R2 := (R2).new B21
      replace KB0 := (KB0).new B21
      replace FP5_0_1 := (FP5_0_1).new B21
      replace FP5_0_2 := (FP5_0_2).new B21
      replace FP5_0_3 := (FP5_0_3).new B21
      replace KX6 := (KX6).new B21
      replace FP11_0_1 := (FP11_0_1).new B21
      replace FP11_0_2 := (FP11_0_2).new B21
      replace FP11_0_3 := (FP11_0_3).new B21
      replace KX12 := (KX12).new B21
      replace FM19 := (FM19).new B21
      replace FM20 := (FM20).new B21
      replace G := below_trans G B21 (Nat.le_refl _)
      have S17 := Lib.hid (show w16.heap.size + 0 ≤ w17.heap.size by have := B21.size; first | (simpa using this) | ((try simp at this); omega))
      clear B21
      clear xKX12_0 xKX12_1 xKX12_2 xKX12_3 xKX12_4 xKX12_5 xKX6_0 xKX6_1 xKX6_2 xKX6_3 xKX6_4 xKX6_5
      have xKX12_0 : w17.cell? ⟨w9.heap.size, 0, none⟩ = some (.int .i64 (mOTs a0 l1 l2).f0) := KX12.at_ rfl
      have xKX12_1 : w17.cell? ⟨w9.heap.size, 1, none⟩ = some (.int .i64 (mOTs a0 l1 l2).f1) := KX12.at_ rfl
      have xKX12_2 : w17.cell? ⟨w9.heap.size, 2, none⟩ = some (.slice P11_0_1 ((mOTb a0 l1 l2).length) pc11_0_1) := KX12.at_ rfl
      have xKX12_3 : w17.cell? ⟨w9.heap.size, 3, none⟩ = some (.slice P11_0_2 ((noEd).length) pc11_0_2) := KX12.at_ rfl
      have xKX12_4 : w17.cell? ⟨w9.heap.size, 4, none⟩ = some (.slice P11_0_3 ((mOTh a0 l1 l2).length) pc11_0_3) := KX12.at_ rfl
      have xKX12_5 : w17.cell? ⟨w9.heap.size, 5, none⟩ = some (.int .i64 (mOTc a0 l1 l2)) := KX12.at_ rfl
      go_wp2_with fail
      refine Calls.mono (mark_tab (mOTs a0 l1 l2) _ P11_0_1 ((mOTb a0 l1 l2).length) pc11_0_1 _ _ _ P11_0_2 ((noEd).length) pc11_0_2 _ _ _ P11_0_3 ((mOTh a0 l1 l2).length) pc11_0_3 _ _ (mOTc a0 l1 l2) (1) w8.heap.size w9.heap.size _ (by omega) (by omega) (by omega) (by omega) (by have := S0.out; have := S1.out; have := S2.out; have := S3.out; have := S4.out; have := S5.out; have := SA7.out; have := S6.out; have := S7.out; have := S8.out; have := S9.out; have := SA13.out; have := S10.out; have := S11.out; have := S12.out; have := S13.out; have := S14.out; have := S15.out; have := S16.out; have := S17.out; have := SepTab_bd MP5_0.out; have := SepTab_bd MP11_0.out; omega) MP11_0 FP11_0_1 FP11_0_2 FP11_0_3) ?_
      rintro e w18 ⟨rfl, FM22_1, FM22_2, FM22_3, B22⟩
      replace R1 := (R1).chg B22 (by have := S0.out; have := S1.out; have := S2.out; have := S3.out; have := S4.out; have := S5.out; have := SA7.out; have := S6.out; have := S7.out; have := S8.out; have := S9.out; have := SA13.out; have := S10.out; have := S11.out; have := S12.out; have := S13.out; have := S14.out; have := S15.out; have := S16.out; have := S17.out; have := SepTab_bd MP5_0.out; have := SepTab_bd MP11_0.out; omega)
      replace R2 := (R2).chg B22 (by have := S0.out; have := S1.out; have := S2.out; have := S3.out; have := S4.out; have := S5.out; have := SA7.out; have := S6.out; have := S7.out; have := S8.out; have := S9.out; have := SA13.out; have := S10.out; have := S11.out; have := S12.out; have := S13.out; have := S14.out; have := S15.out; have := S16.out; have := S17.out; have := SepTab_bd MP5_0.out; have := SepTab_bd MP11_0.out; omega)
      replace KB0 := (KB0).chg B22 (by have := S0.out; have := S1.out; have := S2.out; have := S3.out; have := S4.out; have := S5.out; have := SA7.out; have := S6.out; have := S7.out; have := S8.out; have := S9.out; have := SA13.out; have := S10.out; have := S11.out; have := S12.out; have := S13.out; have := S14.out; have := S15.out; have := S16.out; have := S17.out; have := SepTab_bd MP5_0.out; have := SepTab_bd MP11_0.out; omega)
      replace FP5_0_1 := (FP5_0_1).chg B22 (by have := S0.out; have := S1.out; have := S2.out; have := S3.out; have := S4.out; have := S5.out; have := SA7.out; have := S6.out; have := S7.out; have := S8.out; have := S9.out; have := SA13.out; have := S10.out; have := S11.out; have := S12.out; have := S13.out; have := S14.out; have := S15.out; have := S16.out; have := S17.out; have := SepTab_bd MP5_0.out; have := SepTab_bd MP11_0.out; omega)
      replace FP5_0_2 := (FP5_0_2).chg B22 (by have := S0.out; have := S1.out; have := S2.out; have := S3.out; have := S4.out; have := S5.out; have := SA7.out; have := S6.out; have := S7.out; have := S8.out; have := S9.out; have := SA13.out; have := S10.out; have := S11.out; have := S12.out; have := S13.out; have := S14.out; have := S15.out; have := S16.out; have := S17.out; have := SepTab_bd MP5_0.out; have := SepTab_bd MP11_0.out; omega)
      replace FP5_0_3 := (FP5_0_3).chg B22 (by have := S0.out; have := S1.out; have := S2.out; have := S3.out; have := S4.out; have := S5.out; have := SA7.out; have := S6.out; have := S7.out; have := S8.out; have := S9.out; have := SA13.out; have := S10.out; have := S11.out; have := S12.out; have := S13.out; have := S14.out; have := S15.out; have := S16.out; have := S17.out; have := SepTab_bd MP5_0.out; have := SepTab_bd MP11_0.out; omega)
      replace KX6 := (KX6).chg B22 (by have := S0.out; have := S1.out; have := S2.out; have := S3.out; have := S4.out; have := S5.out; have := SA7.out; have := S6.out; have := S7.out; have := S8.out; have := S9.out; have := SA13.out; have := S10.out; have := S11.out; have := S12.out; have := S13.out; have := S14.out; have := S15.out; have := S16.out; have := S17.out; have := SepTab_bd MP5_0.out; have := SepTab_bd MP11_0.out; omega)
      replace KX12 := (KX12).chg B22 (by have := S0.out; have := S1.out; have := S2.out; have := S3.out; have := S4.out; have := S5.out; have := SA7.out; have := S6.out; have := S7.out; have := S8.out; have := S9.out; have := SA13.out; have := S10.out; have := S11.out; have := S12.out; have := S13.out; have := S14.out; have := S15.out; have := S16.out; have := S17.out; have := SepTab_bd MP5_0.out; have := SepTab_bd MP11_0.out; omega)
      replace FM19 := (FM19).chg B22 (by have := S0.out; have := S1.out; have := S2.out; have := S3.out; have := S4.out; have := S5.out; have := SA7.out; have := S6.out; have := S7.out; have := S8.out; have := S9.out; have := SA13.out; have := S10.out; have := S11.out; have := S12.out; have := S13.out; have := S14.out; have := S15.out; have := S16.out; have := S17.out; have := SepTab_bd MP5_0.out; have := SepTab_bd MP11_0.out; omega)
      replace FM20 := (FM20).chg B22 (by have := S0.out; have := S1.out; have := S2.out; have := S3.out; have := S4.out; have := S5.out; have := SA7.out; have := S6.out; have := S7.out; have := S8.out; have := S9.out; have := SA13.out; have := S10.out; have := S11.out; have := S12.out; have := S13.out; have := S14.out; have := S15.out; have := S16.out; have := S17.out; have := SepTab_bd MP5_0.out; have := SepTab_bd MP11_0.out; omega)
      replace G := G.trans (B22.below (.inl (by have := S0.out; have := S1.out; have := S2.out; have := S3.out; have := S4.out; have := S5.out; have := SA7.out; have := S6.out; have := S7.out; have := S8.out; have := S9.out; have := SA13.out; have := S10.out; have := S11.out; have := S12.out; have := S13.out; have := S14.out; have := S15.out; have := S16.out; have := S17.out; have := SepTab_bd MP5_0.out; have := SepTab_bd MP11_0.out; omega)) (by have := S0.out; have := S1.out; have := S2.out; have := S3.out; have := S4.out; have := S5.out; have := SA7.out; have := S6.out; have := S7.out; have := S8.out; have := S9.out; have := SA13.out; have := S10.out; have := S11.out; have := S12.out; have := S13.out; have := S14.out; have := S15.out; have := S16.out; have := S17.out; have := SepTab_bd MP5_0.out; have := SepTab_bd MP11_0.out; first | omega | (simp; omega)))
      have S18 := Lib.hid (show w17.heap.size + 0 ≤ w18.heap.size by have := B22.size; first | (simpa using this) | ((try simp at this); omega))
      clear FP11_0_1
      clear FP11_0_2
      clear FP11_0_3
      clear B22
      clear xKX12_0 xKX12_1 xKX12_2 xKX12_3 xKX12_4 xKX12_5
      have xKX12_0 : w18.cell? ⟨w9.heap.size, 0, none⟩ = some (.int .i64 (mOTs a0 l1 l2).f0) := KX12.at_ rfl
      have xKX12_1 : w18.cell? ⟨w9.heap.size, 1, none⟩ = some (.int .i64 (mOTs a0 l1 l2).f1) := KX12.at_ rfl
      have xKX12_2 : w18.cell? ⟨w9.heap.size, 2, none⟩ = some (.slice P11_0_1 ((mOTb a0 l1 l2).length) pc11_0_1) := KX12.at_ rfl
      have xKX12_3 : w18.cell? ⟨w9.heap.size, 3, none⟩ = some (.slice P11_0_2 ((noEd).length) pc11_0_2) := KX12.at_ rfl
      have xKX12_4 : w18.cell? ⟨w9.heap.size, 4, none⟩ = some (.slice P11_0_3 ((mOTh a0 l1 l2).length) pc11_0_3) := KX12.at_ rfl
      have xKX12_5 : w18.cell? ⟨w9.heap.size, 5, none⟩ = some (.int .i64 (mOTc a0 l1 l2)) := KX12.at_ rfl
      go_wp2_with fail
      refine Calls.mono (held_tab (mOTs a0 l1 l2) P11_0_1 ((mOTb a0 l1 l2).length) pc11_0_1 _ _ P11_0_2 ((noEd).length) pc11_0_2 _ _ P11_0_3 ((mOTh a0 l1 l2).length) pc11_0_3 _ _ (mOTc a0 l1 l2) (1) _ (by omega) (by omega) (by omega) (by omega) FM22_1.rd FM22_2.rd FM22_3.rd) ?_
      rintro e w19 ⟨rfl, B23⟩
      replace R1 := (R1).new B23
      replace R2 := (R2).new B23
      replace KB0 := (KB0).new B23
      replace FP5_0_1 := (FP5_0_1).new B23
      replace FP5_0_2 := (FP5_0_2).new B23
      replace FP5_0_3 := (FP5_0_3).new B23
      replace KX6 := (KX6).new B23
      replace KX12 := (KX12).new B23
      replace FM19 := (FM19).new B23
      replace FM20 := (FM20).new B23
      replace FM22_1 := (FM22_1).new B23
      replace FM22_2 := (FM22_2).new B23
      replace FM22_3 := (FM22_3).new B23
      replace G := below_trans G B23 (Nat.le_refl _)
      have S19 := Lib.hid (show w18.heap.size + 0 ≤ w19.heap.size by have := B23.size; first | (simpa using this) | ((try simp at this); omega))
      clear B23
      clear xKX12_0 xKX12_1 xKX12_2 xKX12_3 xKX12_4 xKX12_5
      have xKB0_0 : w19.cell? ⟨w.heap.size, 0, none⟩ = some (.int .i64 a0.f0) := KB0.at_ rfl
      have xKB0_1 : w19.cell? ⟨w.heap.size, 1, none⟩ = some (.int .i64 a0.f1) := KB0.at_ rfl
      go_wp2_with fail
      refine Calls.mono (to_site_one a0 _) ?_
      rintro e w20 ⟨rfl, B24⟩
      replace R1 := (R1).new B24
      replace R2 := (R2).new B24
      replace KB0 := (KB0).new B24
      replace FP5_0_1 := (FP5_0_1).new B24
      replace FP5_0_2 := (FP5_0_2).new B24
      replace FP5_0_3 := (FP5_0_3).new B24
      replace KX6 := (KX6).new B24
      replace KX12 := (KX12).new B24
      replace FM19 := (FM19).new B24
      replace FM20 := (FM20).new B24
      replace FM22_1 := (FM22_1).new B24
      replace FM22_2 := (FM22_2).new B24
      replace FM22_3 := (FM22_3).new B24
      replace G := below_trans G B24 (Nat.le_refl _)
      have S20 := Lib.hid (show w19.heap.size + 0 ≤ w20.heap.size by have := B24.size; first | (simpa using this) | ((try simp at this); omega))
      clear B24
      clear xKB0_0 xKB0_1
      go_wp2_with fail
      refine Calls.mono (to_node l1 A1 n1 c1 _ _ _ (Nat.le_trans hqn1 (by decide)) R1) ?_
      rintro e w21 ⟨T25, tc25, rfl, FT25, B25⟩
      replace R1 := (R1).new B25
      replace R2 := (R2).new B25
      replace KB0 := (KB0).new B25
      replace FP5_0_1 := (FP5_0_1).new B25
      replace FP5_0_2 := (FP5_0_2).new B25
      replace FP5_0_3 := (FP5_0_3).new B25
      replace KX6 := (KX6).new B25
      replace KX12 := (KX12).new B25
      replace FM19 := (FM19).new B25
      replace FM20 := (FM20).new B25
      replace FM22_1 := (FM22_1).new B25
      replace FM22_2 := (FM22_2).new B25
      replace FM22_3 := (FM22_3).new B25
      replace G := below_trans G B25 (Nat.le_refl _)
      have S21 := Lib.hid (show w20.heap.size + 0 ≤ w21.heap.size by have := B25.size; first | (simpa using this) | ((try simp at this); omega))
      clear B25
      go_wp2_with fail
      refine Calls.mono (to_int l2 A2 n2 c2 _ _ _ (Nat.le_trans hqn2 (by decide)) R2) ?_
      rintro e w22 ⟨T26, tc26, rfl, FT26, B26⟩
      replace R1 := (R1).new B26
      replace R2 := (R2).new B26
      replace KB0 := (KB0).new B26
      replace FP5_0_1 := (FP5_0_1).new B26
      replace FP5_0_2 := (FP5_0_2).new B26
      replace FP5_0_3 := (FP5_0_3).new B26
      replace KX6 := (KX6).new B26
      replace KX12 := (KX12).new B26
      replace FM19 := (FM19).new B26
      replace FM20 := (FM20).new B26
      replace FM22_1 := (FM22_1).new B26
      replace FM22_2 := (FM22_2).new B26
      replace FM22_3 := (FM22_3).new B26
      replace FT25 := (FT25).new B26
      replace G := below_trans G B26 (Nat.le_refl _)
      have S22 := Lib.hid (show w21.heap.size + 0 ≤ w22.heap.size by have := B26.size; first | (simpa using this) | ((try simp at this); omega))
      clear B26
      go_wp2_with fail
      refine Calls.mono (impl_OpenTabC a0 l1 T25 n1 tc25 _ _ l2 T26 n2 tc26 _ _ _ H0 (by omega) FT25.rd FT25.cap H1 (by omega) FT26.rd FT26.cap H2) ?_
      rintro e w23 ⟨P27_0_1, P27_0_2, P27_0_3, pc27_0_1, plo27_0_1, phi27_0_1, pc27_0_2, plo27_0_2, phi27_0_2, pc27_0_3, plo27_0_3, phi27_0_3, rfl, FP27_0_1, FP27_0_2, FP27_0_3, MP27_0, B27⟩
      replace R1 := (R1).new B27
      replace R2 := (R2).new B27
      replace KB0 := (KB0).new B27
      replace FP5_0_1 := (FP5_0_1).new B27
      replace FP5_0_2 := (FP5_0_2).new B27
      replace FP5_0_3 := (FP5_0_3).new B27
      replace KX6 := (KX6).new B27
      replace KX12 := (KX12).new B27
      replace FM19 := (FM19).new B27
      replace FM20 := (FM20).new B27
      replace FM22_1 := (FM22_1).new B27
      replace FM22_2 := (FM22_2).new B27
      replace FM22_3 := (FM22_3).new B27
      replace FT25 := (FT25).new B27
      replace FT26 := (FT26).new B27
      replace G := below_trans G B27 (Nat.le_refl _)
      have S23 := Lib.hid (show w22.heap.size + 0 ≤ w23.heap.size by have := B27.size; first | (simpa using this) | ((try simp at this); omega))
      clear B27
      have SA29 := Lib.hid (show (w23.alloc (.cells #[.int .i64 (mOTs a0 l1 l2).f0, .int .i64 (mOTs a0 l1 l2).f1, .slice P27_0_1 ((mOTb a0 l1 l2).length) pc27_0_1, .slice P27_0_2 ((noEd).length) pc27_0_2, .slice P27_0_3 ((mOTh a0 l1 l2).length) pc27_0_3, .int .i64 (mOTc a0 l1 l2)] 86)).heap.size = w23.heap.size + 1 by simp)
      replace R1 := R1.alloc (.cells #[.int .i64 (mOTs a0 l1 l2).f0, .int .i64 (mOTs a0 l1 l2).f1, .slice P27_0_1 ((mOTb a0 l1 l2).length) pc27_0_1, .slice P27_0_2 ((noEd).length) pc27_0_2, .slice P27_0_3 ((mOTh a0 l1 l2).length) pc27_0_3, .int .i64 (mOTc a0 l1 l2)] 86)
      replace R2 := R2.alloc (.cells #[.int .i64 (mOTs a0 l1 l2).f0, .int .i64 (mOTs a0 l1 l2).f1, .slice P27_0_1 ((mOTb a0 l1 l2).length) pc27_0_1, .slice P27_0_2 ((noEd).length) pc27_0_2, .slice P27_0_3 ((mOTh a0 l1 l2).length) pc27_0_3, .int .i64 (mOTc a0 l1 l2)] 86)
      replace KB0 := KB0.alloc_ (.cells #[.int .i64 (mOTs a0 l1 l2).f0, .int .i64 (mOTs a0 l1 l2).f1, .slice P27_0_1 ((mOTb a0 l1 l2).length) pc27_0_1, .slice P27_0_2 ((noEd).length) pc27_0_2, .slice P27_0_3 ((mOTh a0 l1 l2).length) pc27_0_3, .int .i64 (mOTc a0 l1 l2)] 86)
      replace FP5_0_1 := FP5_0_1.alloc (.cells #[.int .i64 (mOTs a0 l1 l2).f0, .int .i64 (mOTs a0 l1 l2).f1, .slice P27_0_1 ((mOTb a0 l1 l2).length) pc27_0_1, .slice P27_0_2 ((noEd).length) pc27_0_2, .slice P27_0_3 ((mOTh a0 l1 l2).length) pc27_0_3, .int .i64 (mOTc a0 l1 l2)] 86)
      replace FP5_0_2 := FP5_0_2.alloc (.cells #[.int .i64 (mOTs a0 l1 l2).f0, .int .i64 (mOTs a0 l1 l2).f1, .slice P27_0_1 ((mOTb a0 l1 l2).length) pc27_0_1, .slice P27_0_2 ((noEd).length) pc27_0_2, .slice P27_0_3 ((mOTh a0 l1 l2).length) pc27_0_3, .int .i64 (mOTc a0 l1 l2)] 86)
      replace FP5_0_3 := FP5_0_3.alloc (.cells #[.int .i64 (mOTs a0 l1 l2).f0, .int .i64 (mOTs a0 l1 l2).f1, .slice P27_0_1 ((mOTb a0 l1 l2).length) pc27_0_1, .slice P27_0_2 ((noEd).length) pc27_0_2, .slice P27_0_3 ((mOTh a0 l1 l2).length) pc27_0_3, .int .i64 (mOTc a0 l1 l2)] 86)
      replace KX6 := KX6.alloc_ (.cells #[.int .i64 (mOTs a0 l1 l2).f0, .int .i64 (mOTs a0 l1 l2).f1, .slice P27_0_1 ((mOTb a0 l1 l2).length) pc27_0_1, .slice P27_0_2 ((noEd).length) pc27_0_2, .slice P27_0_3 ((mOTh a0 l1 l2).length) pc27_0_3, .int .i64 (mOTc a0 l1 l2)] 86)
      replace KX12 := KX12.alloc_ (.cells #[.int .i64 (mOTs a0 l1 l2).f0, .int .i64 (mOTs a0 l1 l2).f1, .slice P27_0_1 ((mOTb a0 l1 l2).length) pc27_0_1, .slice P27_0_2 ((noEd).length) pc27_0_2, .slice P27_0_3 ((mOTh a0 l1 l2).length) pc27_0_3, .int .i64 (mOTc a0 l1 l2)] 86)
      replace FM19 := FM19.alloc (.cells #[.int .i64 (mOTs a0 l1 l2).f0, .int .i64 (mOTs a0 l1 l2).f1, .slice P27_0_1 ((mOTb a0 l1 l2).length) pc27_0_1, .slice P27_0_2 ((noEd).length) pc27_0_2, .slice P27_0_3 ((mOTh a0 l1 l2).length) pc27_0_3, .int .i64 (mOTc a0 l1 l2)] 86)
      replace FM20 := FM20.alloc (.cells #[.int .i64 (mOTs a0 l1 l2).f0, .int .i64 (mOTs a0 l1 l2).f1, .slice P27_0_1 ((mOTb a0 l1 l2).length) pc27_0_1, .slice P27_0_2 ((noEd).length) pc27_0_2, .slice P27_0_3 ((mOTh a0 l1 l2).length) pc27_0_3, .int .i64 (mOTc a0 l1 l2)] 86)
      replace FM22_1 := FM22_1.alloc (.cells #[.int .i64 (mOTs a0 l1 l2).f0, .int .i64 (mOTs a0 l1 l2).f1, .slice P27_0_1 ((mOTb a0 l1 l2).length) pc27_0_1, .slice P27_0_2 ((noEd).length) pc27_0_2, .slice P27_0_3 ((mOTh a0 l1 l2).length) pc27_0_3, .int .i64 (mOTc a0 l1 l2)] 86)
      replace FM22_2 := FM22_2.alloc (.cells #[.int .i64 (mOTs a0 l1 l2).f0, .int .i64 (mOTs a0 l1 l2).f1, .slice P27_0_1 ((mOTb a0 l1 l2).length) pc27_0_1, .slice P27_0_2 ((noEd).length) pc27_0_2, .slice P27_0_3 ((mOTh a0 l1 l2).length) pc27_0_3, .int .i64 (mOTc a0 l1 l2)] 86)
      replace FM22_3 := FM22_3.alloc (.cells #[.int .i64 (mOTs a0 l1 l2).f0, .int .i64 (mOTs a0 l1 l2).f1, .slice P27_0_1 ((mOTb a0 l1 l2).length) pc27_0_1, .slice P27_0_2 ((noEd).length) pc27_0_2, .slice P27_0_3 ((mOTh a0 l1 l2).length) pc27_0_3, .int .i64 (mOTc a0 l1 l2)] 86)
      replace FT25 := FT25.alloc (.cells #[.int .i64 (mOTs a0 l1 l2).f0, .int .i64 (mOTs a0 l1 l2).f1, .slice P27_0_1 ((mOTb a0 l1 l2).length) pc27_0_1, .slice P27_0_2 ((noEd).length) pc27_0_2, .slice P27_0_3 ((mOTh a0 l1 l2).length) pc27_0_3, .int .i64 (mOTc a0 l1 l2)] 86)
      replace FT26 := FT26.alloc (.cells #[.int .i64 (mOTs a0 l1 l2).f0, .int .i64 (mOTs a0 l1 l2).f1, .slice P27_0_1 ((mOTb a0 l1 l2).length) pc27_0_1, .slice P27_0_2 ((noEd).length) pc27_0_2, .slice P27_0_3 ((mOTh a0 l1 l2).length) pc27_0_3, .int .i64 (mOTc a0 l1 l2)] 86)
      replace FP27_0_1 := FP27_0_1.alloc (.cells #[.int .i64 (mOTs a0 l1 l2).f0, .int .i64 (mOTs a0 l1 l2).f1, .slice P27_0_1 ((mOTb a0 l1 l2).length) pc27_0_1, .slice P27_0_2 ((noEd).length) pc27_0_2, .slice P27_0_3 ((mOTh a0 l1 l2).length) pc27_0_3, .int .i64 (mOTc a0 l1 l2)] 86)
      replace FP27_0_2 := FP27_0_2.alloc (.cells #[.int .i64 (mOTs a0 l1 l2).f0, .int .i64 (mOTs a0 l1 l2).f1, .slice P27_0_1 ((mOTb a0 l1 l2).length) pc27_0_1, .slice P27_0_2 ((noEd).length) pc27_0_2, .slice P27_0_3 ((mOTh a0 l1 l2).length) pc27_0_3, .int .i64 (mOTc a0 l1 l2)] 86)
      replace FP27_0_3 := FP27_0_3.alloc (.cells #[.int .i64 (mOTs a0 l1 l2).f0, .int .i64 (mOTs a0 l1 l2).f1, .slice P27_0_1 ((mOTb a0 l1 l2).length) pc27_0_1, .slice P27_0_2 ((noEd).length) pc27_0_2, .slice P27_0_3 ((mOTh a0 l1 l2).length) pc27_0_3, .int .i64 (mOTc a0 l1 l2)] 86)
      have KX28 : BoxAt (w23.alloc (.cells #[.int .i64 (mOTs a0 l1 l2).f0, .int .i64 (mOTs a0 l1 l2).f1, .slice P27_0_1 ((mOTb a0 l1 l2).length) pc27_0_1, .slice P27_0_2 ((noEd).length) pc27_0_2, .slice P27_0_3 ((mOTh a0 l1 l2).length) pc27_0_3, .int .i64 (mOTc a0 l1 l2)] 86)) (w23.heap.size) 86 #[.int .i64 (mOTs a0 l1 l2).f0, .int .i64 (mOTs a0 l1 l2).f1, .slice P27_0_1 ((mOTb a0 l1 l2).length) pc27_0_1, .slice P27_0_2 ((noEd).length) pc27_0_2, .slice P27_0_3 ((mOTh a0 l1 l2).length) pc27_0_3, .int .i64 (mOTc a0 l1 l2)] := box_new _ _ _
      replace G := G.alloc (by have := S0.out; have := S1.out; have := S2.out; have := S3.out; have := S4.out; have := S5.out; have := SA7.out; have := S6.out; have := S7.out; have := S8.out; have := S9.out; have := SA13.out; have := S10.out; have := S11.out; have := S12.out; have := S13.out; have := S14.out; have := S15.out; have := S16.out; have := S17.out; have := S18.out; have := S19.out; have := S20.out; have := S21.out; have := S22.out; have := S23.out; have := SA29.out; have := SepTab_bd MP5_0.out; have := SepTab_bd MP11_0.out; have := SepTab_bd MP27_0.out; first | omega | (simp; omega)) (.cells #[.int .i64 (mOTs a0 l1 l2).f0, .int .i64 (mOTs a0 l1 l2).f1, .slice P27_0_1 ((mOTb a0 l1 l2).length) pc27_0_1, .slice P27_0_2 ((noEd).length) pc27_0_2, .slice P27_0_3 ((mOTh a0 l1 l2).length) pc27_0_3, .int .i64 (mOTc a0 l1 l2)] 86)
      have xKX28_0 : (w23.alloc (.cells #[.int .i64 (mOTs a0 l1 l2).f0, .int .i64 (mOTs a0 l1 l2).f1, .slice P27_0_1 ((mOTb a0 l1 l2).length) pc27_0_1, .slice P27_0_2 ((noEd).length) pc27_0_2, .slice P27_0_3 ((mOTh a0 l1 l2).length) pc27_0_3, .int .i64 (mOTc a0 l1 l2)] 86)).cell? ⟨w23.heap.size, 0, none⟩ = some (.int .i64 (mOTs a0 l1 l2).f0) := KX28.at_ rfl
      have xKX28_1 : (w23.alloc (.cells #[.int .i64 (mOTs a0 l1 l2).f0, .int .i64 (mOTs a0 l1 l2).f1, .slice P27_0_1 ((mOTb a0 l1 l2).length) pc27_0_1, .slice P27_0_2 ((noEd).length) pc27_0_2, .slice P27_0_3 ((mOTh a0 l1 l2).length) pc27_0_3, .int .i64 (mOTc a0 l1 l2)] 86)).cell? ⟨w23.heap.size, 1, none⟩ = some (.int .i64 (mOTs a0 l1 l2).f1) := KX28.at_ rfl
      have xKX28_2 : (w23.alloc (.cells #[.int .i64 (mOTs a0 l1 l2).f0, .int .i64 (mOTs a0 l1 l2).f1, .slice P27_0_1 ((mOTb a0 l1 l2).length) pc27_0_1, .slice P27_0_2 ((noEd).length) pc27_0_2, .slice P27_0_3 ((mOTh a0 l1 l2).length) pc27_0_3, .int .i64 (mOTc a0 l1 l2)] 86)).cell? ⟨w23.heap.size, 2, none⟩ = some (.slice P27_0_1 ((mOTb a0 l1 l2).length) pc27_0_1) := KX28.at_ rfl
      have xKX28_3 : (w23.alloc (.cells #[.int .i64 (mOTs a0 l1 l2).f0, .int .i64 (mOTs a0 l1 l2).f1, .slice P27_0_1 ((mOTb a0 l1 l2).length) pc27_0_1, .slice P27_0_2 ((noEd).length) pc27_0_2, .slice P27_0_3 ((mOTh a0 l1 l2).length) pc27_0_3, .int .i64 (mOTc a0 l1 l2)] 86)).cell? ⟨w23.heap.size, 3, none⟩ = some (.slice P27_0_2 ((noEd).length) pc27_0_2) := KX28.at_ rfl
      have xKX28_4 : (w23.alloc (.cells #[.int .i64 (mOTs a0 l1 l2).f0, .int .i64 (mOTs a0 l1 l2).f1, .slice P27_0_1 ((mOTb a0 l1 l2).length) pc27_0_1, .slice P27_0_2 ((noEd).length) pc27_0_2, .slice P27_0_3 ((mOTh a0 l1 l2).length) pc27_0_3, .int .i64 (mOTc a0 l1 l2)] 86)).cell? ⟨w23.heap.size, 4, none⟩ = some (.slice P27_0_3 ((mOTh a0 l1 l2).length) pc27_0_3) := KX28.at_ rfl
      have xKX28_5 : (w23.alloc (.cells #[.int .i64 (mOTs a0 l1 l2).f0, .int .i64 (mOTs a0 l1 l2).f1, .slice P27_0_1 ((mOTb a0 l1 l2).length) pc27_0_1, .slice P27_0_2 ((noEd).length) pc27_0_2, .slice P27_0_3 ((mOTh a0 l1 l2).length) pc27_0_3, .int .i64 (mOTc a0 l1 l2)] 86)).cell? ⟨w23.heap.size, 5, none⟩ = some (.int .i64 (mOTc a0 l1 l2)) := KX28.at_ rfl
      have xKX6_0 : (w23.alloc (.cells #[.int .i64 (mOTs a0 l1 l2).f0, .int .i64 (mOTs a0 l1 l2).f1, .slice P27_0_1 ((mOTb a0 l1 l2).length) pc27_0_1, .slice P27_0_2 ((noEd).length) pc27_0_2, .slice P27_0_3 ((mOTh a0 l1 l2).length) pc27_0_3, .int .i64 (mOTc a0 l1 l2)] 86)).cell? ⟨w5.heap.size, 0, none⟩ = some (.int .i64 (mOTs a0 l1 l2).f0) := KX6.at_ rfl
      have xKX6_1 : (w23.alloc (.cells #[.int .i64 (mOTs a0 l1 l2).f0, .int .i64 (mOTs a0 l1 l2).f1, .slice P27_0_1 ((mOTb a0 l1 l2).length) pc27_0_1, .slice P27_0_2 ((noEd).length) pc27_0_2, .slice P27_0_3 ((mOTh a0 l1 l2).length) pc27_0_3, .int .i64 (mOTc a0 l1 l2)] 86)).cell? ⟨w5.heap.size, 1, none⟩ = some (.int .i64 (mOTs a0 l1 l2).f1) := KX6.at_ rfl
      have xKX6_2 : (w23.alloc (.cells #[.int .i64 (mOTs a0 l1 l2).f0, .int .i64 (mOTs a0 l1 l2).f1, .slice P27_0_1 ((mOTb a0 l1 l2).length) pc27_0_1, .slice P27_0_2 ((noEd).length) pc27_0_2, .slice P27_0_3 ((mOTh a0 l1 l2).length) pc27_0_3, .int .i64 (mOTc a0 l1 l2)] 86)).cell? ⟨w5.heap.size, 2, none⟩ = some (.slice P5_0_1 ((mOTb a0 l1 l2).length) pc5_0_1) := KX6.at_ rfl
      have xKX6_3 : (w23.alloc (.cells #[.int .i64 (mOTs a0 l1 l2).f0, .int .i64 (mOTs a0 l1 l2).f1, .slice P27_0_1 ((mOTb a0 l1 l2).length) pc27_0_1, .slice P27_0_2 ((noEd).length) pc27_0_2, .slice P27_0_3 ((mOTh a0 l1 l2).length) pc27_0_3, .int .i64 (mOTc a0 l1 l2)] 86)).cell? ⟨w5.heap.size, 3, none⟩ = some (.slice P5_0_2 ((noEd).length) pc5_0_2) := KX6.at_ rfl
      have xKX6_4 : (w23.alloc (.cells #[.int .i64 (mOTs a0 l1 l2).f0, .int .i64 (mOTs a0 l1 l2).f1, .slice P27_0_1 ((mOTb a0 l1 l2).length) pc27_0_1, .slice P27_0_2 ((noEd).length) pc27_0_2, .slice P27_0_3 ((mOTh a0 l1 l2).length) pc27_0_3, .int .i64 (mOTc a0 l1 l2)] 86)).cell? ⟨w5.heap.size, 4, none⟩ = some (.slice P5_0_3 ((mOTh a0 l1 l2).length) pc5_0_3) := KX6.at_ rfl
      have xKX6_5 : (w23.alloc (.cells #[.int .i64 (mOTs a0 l1 l2).f0, .int .i64 (mOTs a0 l1 l2).f1, .slice P27_0_1 ((mOTb a0 l1 l2).length) pc27_0_1, .slice P27_0_2 ((noEd).length) pc27_0_2, .slice P27_0_3 ((mOTh a0 l1 l2).length) pc27_0_3, .int .i64 (mOTc a0 l1 l2)] 86)).cell? ⟨w5.heap.size, 5, none⟩ = some (.int .i64 (mOTc a0 l1 l2)) := KX6.at_ rfl
      go_wp2_with fail
      refine Calls.mono (eq_tab_same (mOTs a0 l1 l2) (mOTb a0 l1 l2) ((mOTb a0 l1 l2).length) P27_0_1 P5_0_1 pc27_0_1 pc5_0_1 _ _ _ _ noEd ((noEd).length) P27_0_2 P5_0_2 pc27_0_2 pc5_0_2 _ _ _ _ (mOTh a0 l1 l2) ((mOTh a0 l1 l2).length) P27_0_3 P5_0_3 pc27_0_3 pc5_0_3 _ _ _ _ (mOTc a0 l1 l2) _ (by omega) (by omega) (by omega) FP27_0_1.rd FP27_0_2.rd FP27_0_3.rd FP5_0_1.rd FP5_0_2.rd FP5_0_3.rd) ?_
      rintro e w24 ⟨rfl, B30⟩
      replace R1 := (R1).new B30
      replace R2 := (R2).new B30
      replace KB0 := (KB0).new B30
      replace FP5_0_1 := (FP5_0_1).new B30
      replace FP5_0_2 := (FP5_0_2).new B30
      replace FP5_0_3 := (FP5_0_3).new B30
      replace KX6 := (KX6).new B30
      replace KX12 := (KX12).new B30
      replace FM19 := (FM19).new B30
      replace FM20 := (FM20).new B30
      replace FM22_1 := (FM22_1).new B30
      replace FM22_2 := (FM22_2).new B30
      replace FM22_3 := (FM22_3).new B30
      replace FT25 := (FT25).new B30
      replace FT26 := (FT26).new B30
      replace FP27_0_1 := (FP27_0_1).new B30
      replace FP27_0_2 := (FP27_0_2).new B30
      replace FP27_0_3 := (FP27_0_3).new B30
      replace KX28 := (KX28).new B30
      replace G := below_trans G B30 (Nat.le_refl _)
      have S24 := Lib.hid (show (w23.alloc (.cells #[.int .i64 (mOTs a0 l1 l2).f0, .int .i64 (mOTs a0 l1 l2).f1, .slice P27_0_1 ((mOTb a0 l1 l2).length) pc27_0_1, .slice P27_0_2 ((noEd).length) pc27_0_2, .slice P27_0_3 ((mOTh a0 l1 l2).length) pc27_0_3, .int .i64 (mOTc a0 l1 l2)] 86)).heap.size + 0 ≤ w24.heap.size by have := B30.size; first | (simpa using this) | ((try simp at this); omega))
      clear B30
      clear xKX28_0 xKX28_1 xKX28_2 xKX28_3 xKX28_4 xKX28_5 xKX6_0 xKX6_1 xKX6_2 xKX6_3 xKX6_4 xKX6_5
      have xKX12_0 : w24.cell? ⟨w9.heap.size, 0, none⟩ = some (.int .i64 (mOTs a0 l1 l2).f0) := KX12.at_ rfl
      have xKX12_1 : w24.cell? ⟨w9.heap.size, 1, none⟩ = some (.int .i64 (mOTs a0 l1 l2).f1) := KX12.at_ rfl
      have xKX12_2 : w24.cell? ⟨w9.heap.size, 2, none⟩ = some (.slice P11_0_1 ((mOTb a0 l1 l2).length) pc11_0_1) := KX12.at_ rfl
      have xKX12_3 : w24.cell? ⟨w9.heap.size, 3, none⟩ = some (.slice P11_0_2 ((noEd).length) pc11_0_2) := KX12.at_ rfl
      have xKX12_4 : w24.cell? ⟨w9.heap.size, 4, none⟩ = some (.slice P11_0_3 ((mOTh a0 l1 l2).length) pc11_0_3) := KX12.at_ rfl
      have xKX12_5 : w24.cell? ⟨w9.heap.size, 5, none⟩ = some (.int .i64 (mOTc a0 l1 l2)) := KX12.at_ rfl
      go_wp2_with fail
      refine Calls.mono (held_tab (mOTs a0 l1 l2) P11_0_1 ((mOTb a0 l1 l2).length) pc11_0_1 _ _ P11_0_2 ((noEd).length) pc11_0_2 _ _ P11_0_3 ((mOTh a0 l1 l2).length) pc11_0_3 _ _ (mOTc a0 l1 l2) (1) _ (by omega) (by omega) (by omega) (by omega) FM22_1.rd FM22_2.rd FM22_3.rd) ?_
      rintro e w25 ⟨rfl, B31⟩
      replace R1 := (R1).new B31
      replace R2 := (R2).new B31
      replace KB0 := (KB0).new B31
      replace FP5_0_1 := (FP5_0_1).new B31
      replace FP5_0_2 := (FP5_0_2).new B31
      replace FP5_0_3 := (FP5_0_3).new B31
      replace KX6 := (KX6).new B31
      replace KX12 := (KX12).new B31
      replace FM19 := (FM19).new B31
      replace FM20 := (FM20).new B31
      replace FM22_1 := (FM22_1).new B31
      replace FM22_2 := (FM22_2).new B31
      replace FM22_3 := (FM22_3).new B31
      replace FT25 := (FT25).new B31
      replace FT26 := (FT26).new B31
      replace FP27_0_1 := (FP27_0_1).new B31
      replace FP27_0_2 := (FP27_0_2).new B31
      replace FP27_0_3 := (FP27_0_3).new B31
      replace KX28 := (KX28).new B31
      replace G := below_trans G B31 (Nat.le_refl _)
      have S25 := Lib.hid (show w24.heap.size + 0 ≤ w25.heap.size by have := B31.size; first | (simpa using this) | ((try simp at this); omega))
      clear B31
      clear xKX12_0 xKX12_1 xKX12_2 xKX12_3 xKX12_4 xKX12_5
      go_wp2_with fail
      go_ret
      exact ⟨rfl, G⟩
    · skip
      have G : Below w.heap.size w (w.alloc (.cells #[.int .i64 a0.f0, .int .i64 a0.f1] 83)) := (Below.refl _ _).alloc (by simp) _
      have S0 := Lib.hid (show (w.alloc (.cells #[.int .i64 a0.f0, .int .i64 a0.f1] 83)).heap.size = w.heap.size + 1 by simp)
      replace R1 := R1.alloc (.cells #[.int .i64 a0.f0, .int .i64 a0.f1] 83)
      replace R2 := R2.alloc (.cells #[.int .i64 a0.f0, .int .i64 a0.f1] 83)
      have KB0 : BoxAt (w.alloc (.cells #[.int .i64 a0.f0, .int .i64 a0.f1] 83)) (w.heap.size) 83 #[.int .i64 a0.f0, .int .i64 a0.f1] := box_new _ _ _
      go_enter Try.func10, Try.ntmps10
      go_wp2_with fail
      refine (szno_node A1 n1 c1 (1048576) _ hm1 (by omega) (by omega) (by omega)).mono ?_
      rintro e w1 hq
      obtain ⟨rfl, B32⟩ := hq.says
      go_wp2_with fail
      go_ret
      exact ⟨rfl, below_trans G B32 (Nat.le_refl _)⟩
  · go_enter Try.func10, Try.ntmps10
    go_wp2_with fail
    go_ret
    exact ⟨rfl, by repeat (first | exact Below.refl _ _ | (refine Below.alloc ?_ (by simp <;> omega) _))⟩

set_option maxRecDepth 100000 in
theorem lifted (os : Os) (started : os.Started) (H : Type) (enc : TypeId × Value → H) :
    ReturnsInHanded {} Try.checked os 10 .any (Rows.fnExactOpenTabSpec.pre6 enc Try.prog Try.f10 Rows.fnExactOpenTabRow.domain false) (Rows.fnExactOpenTabSpec.post enc Try.prog Try.f10 false true false false) := by
  refine law_lifted Try.func10 (by kernel_rfl) rfl rfl (by kernel_rfl) os started
    (ChangeSpec.witness6 (enc := enc) (C := Try.checked) false ⟨#[], #[.agg #[.int .i64 0, .int .i64 0], .slice none 0 0, .slice none 0 0], []⟩ 8 (by kernel_rfl) (by kernel_rfl) (by kernel_rfl) (by kernel_rfl)) ?_
  intro W base args ds p hval hA hlt
  rw [Try.params10] at hA hval
  obtain ⟨v0, vs0, d0, ds0, p0, q0, hargs, rfl, rfl, h0, r0⟩ := trodAll_cons hA
  obtain ⟨v1, vs1, d1, ds1, p1, q1, rfl, rfl, rfl, h1, r1⟩ := trodAll_cons r0
  obtain ⟨v2, vs2, d2, ds2, p2, q2, rfl, rfl, rfl, h2, r2⟩ := trodAll_cons r1
  obtain ⟨rfl, rfl, rfl⟩ := trodAll_nil r2
  obtain rfl : args = #[v0, v1, v2] := by cases args; simp_all
  obtain ⟨a0, rfl, H0⟩ := open_site (hval 0 83 v0 rfl rfl) h0
  obtain ⟨A1, n1, c1, l1, rfl, m1, R1, H1⟩ := open_node_list (hval 1 22 v1 rfl rfl) h1 (fun x hx => hlt x (by simp [hx]))
  obtain ⟨A2, n2, c2, l2, rfl, m2, R2, H2⟩ := open_int_list (hval 2 24 v2 rfl rfl) h2 (fun x hx => hlt x (by simp [hx]))
  exact ⟨⟨rfl, rfl, rfl⟩, walk a0 l1 A1 n1 c1 l2 A2 n2 c2 W H0 m1 R1 H1 m2 R2 H2⟩

set_option maxRecDepth 100000 in
set_option maxHeartbeats 8000000 in
theorem closed : joinedFacts Try.pinned.checked.prog 10 Try.f10 Rows.fnExactOpenTabSpec Rows.fnExactOpenTabRow = true :=
  (and_i (and_i (and_i (and_i (and_i (and_i (and_i (and_i (and_i (and_i (and_i (and_i (and_i (and_i (and_i (and_i (and_i (and_i (and_i (and_i (and_i (and_i (and_i (and_i (and_i (and_i (and_i (and_i (and_i (and_i (and_i (by as_aux_lemma => kernel_rfl) seatLaid) sf_maps) (by as_aux_lemma => kernel_rfl)) (by as_aux_lemma => kernel_rfl)) (by as_aux_lemma => kernel_rfl)) (by as_aux_lemma => kernel_rfl)) (by as_aux_lemma => kernel_rfl)) (by as_aux_lemma => kernel_rfl)) (by as_aux_lemma => kernel_rfl)) (by as_aux_lemma => kernel_rfl)) (by as_aux_lemma => kernel_rfl)) (by as_aux_lemma => kernel_rfl)) (by as_aux_lemma => kernel_rfl)) (by as_aux_lemma => kernel_rfl)) (by as_aux_lemma => kernel_rfl)) (by as_aux_lemma => kernel_rfl)) (by as_aux_lemma => kernel_rfl)) (by as_aux_lemma => kernel_rfl)) (by as_aux_lemma => kernel_rfl)) (by as_aux_lemma => kernel_rfl)) (by as_aux_lemma => kernel_rfl)) sf_plain) (by as_aux_lemma => kernel_rfl)) sf_heard) sf_enter) sf_lifts) sf_make) (by as_aux_lemma => kernel_rfl)) (by as_aux_lemma => kernel_rfl)) (by as_aux_lemma => kernel_rfl)) (by as_aux_lemma => kernel_rfl))

theorem over : Rows.fnExactOpenTabRow.holds Try.pinned (OpenSpec.ofChange Rows.fnExactOpenTabSpec) :=
  OpenClaim.holds_of_wide 10 Try.f10 rfl rfl rfl rfl rfl rfl rfl ⟨rfl, rfl, rfl, rfl, rfl⟩ rfl rfl rfl rfl rfl (by kernel_rfl) Try.func10 closed
    (of_decide_eq_true (by kernel_rfl)) (by unfold Func.isWrapper; first | (rw [if_pos (by decide +kernel)]; kernel_rfl) | (rw [if_neg (by decide +kernel)]; exact ⟨rfl, rfl⟩))
    (fun os started H enc _ => lifted os started H enc)

theorem proved : Rows.FnExactOpenTabSaid := over
#print axioms proved
end Go.Proofs.Ytoclpdbgmpdbmaa.fnExactOpenTab
