/- The law FnExactGuardEdit answers true for every argument, and leaves each argument as it was. No condition. -/
import Derived.Test.YtomoigbhikihfaaSlI
import Derived.Test.YtomoigbhikihfaaTEdit
import Derived.Test.YtomoigbhikihfaaTNode
import Derived.Test.YtomoigbhikihfaaSgK
namespace Go.Proofs.Ytomoigbhikihfaa.fnExactGuardEdit
open Go Go.ChangeShapes Go.WideShapes Go.ChangeAt Go.RowKit Go.Lib
open Go.ChangeMaps (open_string)
set_option linter.unusedVariables false
set_option linter.unusedSimpArgs false
set_option maxRecDepth 100000

theorem drw_size {W w' : World} (hb : Below W.drew.heap.size W.drew w') : W.heap.size ≤ w'.heap.size := hb.size
set_option maxRecDepth 100000 in
set_option maxHeartbeats 20000000 in
theorem walk (l0 : List TNode) (A0 : Option Addr) (n0 c0 : Nat) (l1 : List Int) (A1 : Option Addr) (n1 c1 : Nat) (a2 : TEdit) (w : World) (hm0 : n0 ≤ maxLen) (R0 : Rd w 0 w.heap.size 5 A0 n0 (cNode l0)) (H0 : Hid (cNodeOk l0)) (hm1 : n1 ≤ maxLen) (R1 : Rd w 0 w.heap.size 1 A1 n1 (i64s l1)) (H1 : Hid (I64s l1)) (H2 : Hid (TEdit.fit a2)) :
    Calls Try.prog 7 #[.slice A0 n0 c0, .slice A1 n1 c1, .agg #[.int .i64 a2.f0, .int .i64 a2.f1, .int .i64 a2.f2, .int .i64 a2.f3, .int .i64 a2.f4, .int .i64 a2.f5]] w fun e w' => e = .returned (.bool true) ∧ Below w.heap.size w w' := by
  have hm1 : n1 ≤ 9223372036854775807 := hm1
  have hm0 : n0 ≤ 9223372036854775807 := hm0
  by_cases hn1 : n1 ≤ 1048576
  · skip
    by_cases hz0 : n0 ≤ 1048576
    · skip
      have hl0 : (mGuard l0 l1 a2).length ≤ 17179869184 := by (have := rd_len TNode.len R0 (by decide); have := mGuard_len l1 H0.out H2.out; omega)
      have G : Below w.heap.size w (w.alloc (.cells #[.int .i64 a2.f0, .int .i64 a2.f1, .int .i64 a2.f2, .int .i64 a2.f3, .int .i64 a2.f4, .int .i64 a2.f5] 38)) := (Below.refl _ _).alloc (by simp) _
      have S0 := Lib.hid (show (w.alloc (.cells #[.int .i64 a2.f0, .int .i64 a2.f1, .int .i64 a2.f2, .int .i64 a2.f3, .int .i64 a2.f4, .int .i64 a2.f5] 38)).heap.size = w.heap.size + 1 by simp)
      replace R0 := R0.alloc (.cells #[.int .i64 a2.f0, .int .i64 a2.f1, .int .i64 a2.f2, .int .i64 a2.f3, .int .i64 a2.f4, .int .i64 a2.f5] 38)
      replace R1 := R1.alloc (.cells #[.int .i64 a2.f0, .int .i64 a2.f1, .int .i64 a2.f2, .int .i64 a2.f3, .int .i64 a2.f4, .int .i64 a2.f5] 38)
      have KB2 : BoxAt (w.alloc (.cells #[.int .i64 a2.f0, .int .i64 a2.f1, .int .i64 a2.f2, .int .i64 a2.f3, .int .i64 a2.f4, .int .i64 a2.f5] 38)) (w.heap.size) 38 #[.int .i64 a2.f0, .int .i64 a2.f1, .int .i64 a2.f2, .int .i64 a2.f3, .int .i64 a2.f4, .int .i64 a2.f5] := box_new _ _ _
      go_enter Try.func7, Try.ntmps7
      go_wp2_with fail
      refine (sz_node A0 n0 c0 (1048576) _ hm0 (by omega) (by omega)).mono ?_
      rintro e w1 hq
      obtain ⟨rfl, B1⟩ := hq.says
      replace R0 := R0.new B1
      replace R1 := R1.new B1
      replace KB2 := KB2.new B1
      replace G := below_trans G B1 (Nat.le_refl _)
      have S1 := Lib.hid B1.size
      clear B1
      go_wp2_with fail
      replace R0 := R0.drw
      replace R1 := R1.drw
      replace KB2 := KB2.drw
      replace G := G.drew
      go_region_held3 (fun w' => w'.cell? ⟨w.heap.size, 0, none⟩ = some (.int .i64 a2.f0) ∧ w'.cell? ⟨w.heap.size, 1, none⟩ = some (.int .i64 a2.f1) ∧ w'.cell? ⟨w.heap.size, 2, none⟩ = some (.int .i64 a2.f2) ∧ w'.cell? ⟨w.heap.size, 3, none⟩ = some (.int .i64 a2.f3) ∧ w'.cell? ⟨w.heap.size, 4, none⟩ = some (.int .i64 a2.f4) ∧ w'.cell? ⟨w.heap.size, 5, none⟩ = some (.int .i64 a2.f5))
        (exact ⟨KB2.at_ rfl, KB2.at_ rfl, KB2.at_ rfl, KB2.at_ rfl, KB2.at_ rfl, KB2.at_ rfl⟩)
        (first
          | (go_at_call 14; refine Calls.mono (to_node l0 A0 n0 c0 _ _ _ (by omega) R0) ?_; rintro e w2 ⟨T2, tc2, rfl, FT2, B2⟩; (replace R0 := rd_nw B2 R0); (replace R1 := rd_nw B2 R1); (replace KB2 := box_nw B2 KB2); (replace G := below_trans G B2 (Nat.le_refl _)); (have S2 := Lib.hid (drw_size B2)))
          | (go_at_call 15; refine Calls.mono (to_int l1 A1 n1 c1 _ _ _ (by omega) R1) ?_; rintro e w3 ⟨T3, tc3, rfl, FT3, B3⟩; (replace R0 := rd_nw B3 R0); (replace R1 := rd_nw B3 R1); (replace KB2 := box_nw B3 KB2); (replace FT2 := fr_nw B3 FT2); (replace G := below_trans G B3 (Nat.le_refl _)); (have S3 := Lib.hid (show w2.heap.size ≤ w3.heap.size from B3.size)))
          | (go_at_call 27; (with_reducible refine Calls.mono (to_edit_one a2 _) ?_); rintro e w4 ⟨rfl, B4⟩; (replace R0 := rd_nw B4 R0); (replace R1 := rd_nw B4 R1); (replace KB2 := box_nw B4 KB2); (replace FT2 := fr_nw B4 FT2); (replace FT3 := fr_nw B4 FT3); (replace G := below_trans G B4 (Nat.le_refl _)); (have S4 := Lib.hid (show w3.heap.size ≤ w4.heap.size from B4.size)))
          | (go_at_call 29; refine Calls.mono (spec_GuardEdit l0 T2 n0 tc2 _ _ l1 T3 n1 tc3 _ _ a2 _ (by omega) FT2.rd FT2.cap H0 (by omega) FT3.rd FT3.cap H1 H2) ?_; rintro e w5 ⟨P5_0, pc5_0, rfl, FP5_0, B5⟩; (replace R0 := rd_nw B5 R0); (replace R1 := rd_nw B5 R1); (replace KB2 := box_nw B5 KB2); (replace FT2 := fr_nw B5 FT2); (replace FT3 := fr_nw B5 FT3); (replace G := below_trans G B5 (Nat.le_refl _)); (have S5 := Lib.hid (show w4.heap.size ≤ w5.heap.size from B5.size))))
      clear B2
      clear B3
      clear B4
      clear B5
      clear FT2
      clear FT3
      go_wp2_with fail
      refine (to_node l0 A0 n0 c0 _ _ _ (by omega) R0).mono ?_
      rintro e w6 ⟨T6, tc6, rfl, FT6, B6⟩
      replace R0 := R0.new B6
      replace R1 := R1.new B6
      replace KB2 := KB2.new B6
      replace FP5_0 := FP5_0.new B6
      replace G := below_trans G B6 (Nat.le_refl _)
      have S6 := Lib.hid B6.size
      clear B6
      go_wp2_with fail
      refine (to_int l1 A1 n1 c1 _ _ _ (by omega) R1).mono ?_
      rintro e w7 ⟨T7, tc7, rfl, FT7, B7⟩
      replace R0 := R0.new B7
      replace R1 := R1.new B7
      replace KB2 := KB2.new B7
      replace FP5_0 := FP5_0.new B7
      replace FT6 := FT6.new B7
      replace G := below_trans G B7 (Nat.le_refl _)
      have S7 := Lib.hid B7.size
      clear B7
      have x8_0 : w7.cell? ⟨w.heap.size, 0, none⟩ = some (.int .i64 a2.f0) := KB2.at_ rfl
      have x8_1 : w7.cell? ⟨w.heap.size, 1, none⟩ = some (.int .i64 a2.f1) := KB2.at_ rfl
      have x8_2 : w7.cell? ⟨w.heap.size, 2, none⟩ = some (.int .i64 a2.f2) := KB2.at_ rfl
      have x8_3 : w7.cell? ⟨w.heap.size, 3, none⟩ = some (.int .i64 a2.f3) := KB2.at_ rfl
      have x8_4 : w7.cell? ⟨w.heap.size, 4, none⟩ = some (.int .i64 a2.f4) := KB2.at_ rfl
      have x8_5 : w7.cell? ⟨w.heap.size, 5, none⟩ = some (.int .i64 a2.f5) := KB2.at_ rfl
      go_wp2_with fail
      clear x8_0 x8_1 x8_2 x8_3 x8_4 x8_5
      refine (to_edit_one a2 _).mono ?_
      rintro e w8 ⟨rfl, B8⟩
      replace R0 := R0.new B8
      replace R1 := R1.new B8
      replace KB2 := KB2.new B8
      replace FP5_0 := FP5_0.new B8
      replace FT6 := FT6.new B8
      replace FT7 := FT7.new B8
      replace G := below_trans G B8 (Nat.le_refl _)
      have S8 := Lib.hid B8.size
      clear B8
      go_wp2_with fail
      refine (impl_GuardEditC l0 T6 n0 tc6 _ _ l1 T7 n1 tc7 _ _ a2 _ (by omega) FT6.rd FT6.cap H0 (by omega) FT7.rd FT7.cap H1 H2).mono ?_
      rintro e w9 ⟨P9_0, pc9_0, rfl, FP9_0, B9⟩
      replace R0 := R0.new B9
      replace R1 := R1.new B9
      replace KB2 := KB2.new B9
      replace FP5_0 := FP5_0.new B9
      replace FT6 := FT6.new B9
      replace FT7 := FT7.new B9
      replace G := below_trans G B9 (Nat.le_refl _)
      have S9 := Lib.hid B9.size
      clear B9
      go_wp2_with fail
      refine (eq_node_same (mGuard l0 l1 a2) P9_0 P5_0 _ _ pc9_0 pc5_0 _ _ _ _ _ (by omega) (by omega) FP9_0.rd FP5_0.rd).mono ?_
      rintro e w10 ⟨rfl, B10⟩
      replace R0 := R0.new B10
      replace R1 := R1.new B10
      replace KB2 := KB2.new B10
      replace FP5_0 := FP5_0.new B10
      replace FT6 := FT6.new B10
      replace FT7 := FT7.new B10
      replace FP9_0 := FP9_0.new B10
      replace G := below_trans G B10 (Nat.le_refl _)
      have S10 := Lib.hid B10.size
      clear B10
      go_wp2_with fail
      refine (to_node l0 A0 n0 c0 _ _ _ (by omega) R0).mono ?_
      rintro e w11 ⟨T11, tc11, rfl, FT11, B11⟩
      replace R0 := R0.new B11
      replace R1 := R1.new B11
      replace KB2 := KB2.new B11
      replace FP5_0 := FP5_0.new B11
      replace FT6 := FT6.new B11
      replace FT7 := FT7.new B11
      replace FP9_0 := FP9_0.new B11
      replace G := below_trans G B11 (Nat.le_refl _)
      have S11 := Lib.hid B11.size
      clear B11
      go_wp2_with fail
      refine (eq_node_same l0 T6 T11 n0 n0 tc6 tc11 _ _ _ _ _ (by omega) (by omega) FT6.rd FT11.rd).mono ?_
      rintro e w12 ⟨rfl, B12⟩
      replace R0 := R0.new B12
      replace R1 := R1.new B12
      replace KB2 := KB2.new B12
      replace FP5_0 := FP5_0.new B12
      replace FT6 := FT6.new B12
      replace FT7 := FT7.new B12
      replace FP9_0 := FP9_0.new B12
      replace FT11 := FT11.new B12
      replace G := below_trans G B12 (Nat.le_refl _)
      have S12 := Lib.hid B12.size
      clear B12
      clear FT11
      go_wp2_with fail
      refine (to_int l1 A1 n1 c1 _ _ _ (by omega) R1).mono ?_
      rintro e w13 ⟨T13, tc13, rfl, FT13, B13⟩
      replace R0 := R0.new B13
      replace R1 := R1.new B13
      replace KB2 := KB2.new B13
      replace FP5_0 := FP5_0.new B13
      replace FT6 := FT6.new B13
      replace FT7 := FT7.new B13
      replace FP9_0 := FP9_0.new B13
      replace G := below_trans G B13 (Nat.le_refl _)
      have S13 := Lib.hid B13.size
      clear B13
      go_wp2_with fail
      refine (eq_int_same l1 T7 T13 n1 n1 tc7 tc13 _ _ _ _ _ (by omega) (by omega) FT7.rd FT13.rd).mono ?_
      rintro e w14 hq
      obtain ⟨rfl, B14⟩ := hq.says
      replace R0 := R0.new B14
      replace R1 := R1.new B14
      replace KB2 := KB2.new B14
      replace FP5_0 := FP5_0.new B14
      replace FT6 := FT6.new B14
      replace FT7 := FT7.new B14
      replace FP9_0 := FP9_0.new B14
      replace FT13 := FT13.new B14
      replace G := below_trans G B14 (Nat.le_refl _)
      have S14 := Lib.hid B14.size
      clear B14
      clear FT13
      go_wp2_with fail
      refine (mark_node _ T6 n0 tc6 _ _ (1) _ (by omega) (by omega) FT6).mono ?_
      rintro e w15 ⟨rfl, FM15, C15, E15⟩
      replace R0 := R0.chg C15 (by have := S0.out; have := S1.out; have := S2.out; have := S3.out; have := S4.out; have := S5.out; have := S6.out; have := S7.out; have := S8.out; have := S9.out; have := S10.out; have := S11.out; have := S12.out; have := S13.out; have := S14.out; omega)
      replace R1 := R1.chg C15 (by have := S0.out; have := S1.out; have := S2.out; have := S3.out; have := S4.out; have := S5.out; have := S6.out; have := S7.out; have := S8.out; have := S9.out; have := S10.out; have := S11.out; have := S12.out; have := S13.out; have := S14.out; omega)
      replace KB2 := KB2.chg C15 (by have := S0.out; have := S1.out; have := S2.out; have := S3.out; have := S4.out; have := S5.out; have := S6.out; have := S7.out; have := S8.out; have := S9.out; have := S10.out; have := S11.out; have := S12.out; have := S13.out; have := S14.out; omega)
      replace FP5_0 := FP5_0.chg C15 (by have := S0.out; have := S1.out; have := S2.out; have := S3.out; have := S4.out; have := S5.out; have := S6.out; have := S7.out; have := S8.out; have := S9.out; have := S10.out; have := S11.out; have := S12.out; have := S13.out; have := S14.out; omega)
      replace FT7 := FT7.chg C15 (by have := S0.out; have := S1.out; have := S2.out; have := S3.out; have := S4.out; have := S5.out; have := S6.out; have := S7.out; have := S8.out; have := S9.out; have := S10.out; have := S11.out; have := S12.out; have := S13.out; have := S14.out; omega)
      replace FP9_0 := FP9_0.chg C15 (by have := S0.out; have := S1.out; have := S2.out; have := S3.out; have := S4.out; have := S5.out; have := S6.out; have := S7.out; have := S8.out; have := S9.out; have := S10.out; have := S11.out; have := S12.out; have := S13.out; have := S14.out; omega)
      replace G := G.trans (C15.below (.inl (by have := S0.out; have := S1.out; have := S2.out; have := S3.out; have := S4.out; have := S5.out; have := S6.out; have := S7.out; have := S8.out; have := S9.out; have := S10.out; have := S11.out; have := S12.out; have := S13.out; have := S14.out; omega)) (by have := S0.out; have := S1.out; have := S2.out; have := S3.out; have := S4.out; have := S5.out; have := S6.out; have := S7.out; have := S8.out; have := S9.out; have := S10.out; have := S11.out; have := S12.out; have := S13.out; have := S14.out; omega))
      clear FT6
      have S15 := Lib.hid (show w15.heap.size = w14.heap.size from E15)
      clear E15
      clear C15
      go_wp2_with fail
      refine (mark_int _ T7 n1 tc7 _ _ (1 + n0 * 5) _ (by omega) (by omega) FT7).mono ?_
      rintro e w16 ⟨rfl, FM16, C16, E16⟩
      replace R0 := R0.chg C16 (by have := S0.out; have := S1.out; have := S2.out; have := S3.out; have := S4.out; have := S5.out; have := S6.out; have := S7.out; have := S8.out; have := S9.out; have := S10.out; have := S11.out; have := S12.out; have := S13.out; have := S14.out; have := S15.out; omega)
      replace R1 := R1.chg C16 (by have := S0.out; have := S1.out; have := S2.out; have := S3.out; have := S4.out; have := S5.out; have := S6.out; have := S7.out; have := S8.out; have := S9.out; have := S10.out; have := S11.out; have := S12.out; have := S13.out; have := S14.out; have := S15.out; omega)
      replace KB2 := KB2.chg C16 (by have := S0.out; have := S1.out; have := S2.out; have := S3.out; have := S4.out; have := S5.out; have := S6.out; have := S7.out; have := S8.out; have := S9.out; have := S10.out; have := S11.out; have := S12.out; have := S13.out; have := S14.out; have := S15.out; omega)
      replace FP5_0 := FP5_0.chg C16 (by have := S0.out; have := S1.out; have := S2.out; have := S3.out; have := S4.out; have := S5.out; have := S6.out; have := S7.out; have := S8.out; have := S9.out; have := S10.out; have := S11.out; have := S12.out; have := S13.out; have := S14.out; have := S15.out; omega)
      replace FP9_0 := FP9_0.chg C16 (by have := S0.out; have := S1.out; have := S2.out; have := S3.out; have := S4.out; have := S5.out; have := S6.out; have := S7.out; have := S8.out; have := S9.out; have := S10.out; have := S11.out; have := S12.out; have := S13.out; have := S14.out; have := S15.out; omega)
      replace FM15 := FM15.chg C16 (by have := S0.out; have := S1.out; have := S2.out; have := S3.out; have := S4.out; have := S5.out; have := S6.out; have := S7.out; have := S8.out; have := S9.out; have := S10.out; have := S11.out; have := S12.out; have := S13.out; have := S14.out; have := S15.out; omega)
      replace G := G.trans (C16.below (.inl (by have := S0.out; have := S1.out; have := S2.out; have := S3.out; have := S4.out; have := S5.out; have := S6.out; have := S7.out; have := S8.out; have := S9.out; have := S10.out; have := S11.out; have := S12.out; have := S13.out; have := S14.out; have := S15.out; omega)) (by have := S0.out; have := S1.out; have := S2.out; have := S3.out; have := S4.out; have := S5.out; have := S6.out; have := S7.out; have := S8.out; have := S9.out; have := S10.out; have := S11.out; have := S12.out; have := S13.out; have := S14.out; have := S15.out; omega))
      clear FT7
      have S16 := Lib.hid (show w16.heap.size = w15.heap.size from E16)
      clear E16
      clear C16
      clear FM15
      clear FM16
      go_wp2_with fail
      refine (eq_node_same (mGuard l0 l1 a2) P9_0 P5_0 _ _ pc9_0 pc5_0 _ _ _ _ _ (by omega) (by omega) FP9_0.rd FP5_0.rd).mono ?_
      rintro e w17 ⟨rfl, B17⟩
      replace R0 := R0.new B17
      replace R1 := R1.new B17
      replace KB2 := KB2.new B17
      replace FP5_0 := FP5_0.new B17
      replace FP9_0 := FP9_0.new B17
      replace G := below_trans G B17 (Nat.le_refl _)
      have S17 := Lib.hid B17.size
      clear B17
      go_wp2_with fail
      refine (mark_node _ P9_0 _ pc9_0 _ _ (1) _ (by omega) (by omega) FP9_0).mono ?_
      rintro e w18 ⟨rfl, FM18, C18, E18⟩
      replace R0 := R0.chg C18 (by have := S0.out; have := S1.out; have := S2.out; have := S3.out; have := S4.out; have := S5.out; have := S6.out; have := S7.out; have := S8.out; have := S9.out; have := S10.out; have := S11.out; have := S12.out; have := S13.out; have := S14.out; have := S15.out; have := S16.out; have := S17.out; omega)
      replace R1 := R1.chg C18 (by have := S0.out; have := S1.out; have := S2.out; have := S3.out; have := S4.out; have := S5.out; have := S6.out; have := S7.out; have := S8.out; have := S9.out; have := S10.out; have := S11.out; have := S12.out; have := S13.out; have := S14.out; have := S15.out; have := S16.out; have := S17.out; omega)
      replace KB2 := KB2.chg C18 (by have := S0.out; have := S1.out; have := S2.out; have := S3.out; have := S4.out; have := S5.out; have := S6.out; have := S7.out; have := S8.out; have := S9.out; have := S10.out; have := S11.out; have := S12.out; have := S13.out; have := S14.out; have := S15.out; have := S16.out; have := S17.out; omega)
      replace FP5_0 := FP5_0.chg C18 (by have := S0.out; have := S1.out; have := S2.out; have := S3.out; have := S4.out; have := S5.out; have := S6.out; have := S7.out; have := S8.out; have := S9.out; have := S10.out; have := S11.out; have := S12.out; have := S13.out; have := S14.out; have := S15.out; have := S16.out; have := S17.out; omega)
      replace G := G.trans (C18.below (.inl (by have := S0.out; have := S1.out; have := S2.out; have := S3.out; have := S4.out; have := S5.out; have := S6.out; have := S7.out; have := S8.out; have := S9.out; have := S10.out; have := S11.out; have := S12.out; have := S13.out; have := S14.out; have := S15.out; have := S16.out; have := S17.out; omega)) (by have := S0.out; have := S1.out; have := S2.out; have := S3.out; have := S4.out; have := S5.out; have := S6.out; have := S7.out; have := S8.out; have := S9.out; have := S10.out; have := S11.out; have := S12.out; have := S13.out; have := S14.out; have := S15.out; have := S16.out; have := S17.out; omega))
      clear FP9_0
      have S18 := Lib.hid (show w18.heap.size = w17.heap.size from E18)
      clear E18
      clear C18
      go_wp2_with fail
      refine (held_node P9_0 _ pc9_0 _ _ (1) _ (by omega) (by omega) FM18.rd).mono ?_
      rintro e w19 hq
      obtain ⟨rfl, B19⟩ := hq.says
      replace R0 := R0.new B19
      replace R1 := R1.new B19
      replace KB2 := KB2.new B19
      replace FP5_0 := FP5_0.new B19
      replace FM18 := FM18.new B19
      replace G := below_trans G B19 (Nat.le_refl _)
      have S19 := Lib.hid B19.size
      clear B19
      go_wp2_with fail
      replace R0 := R0.drw
      replace R1 := R1.drw
      replace KB2 := KB2.drw
      replace FP5_0 := FP5_0.drw
      replace FM18 := FM18.drw
      replace G := G.drew
      go_region_held3 (fun w' => w'.cell? ⟨w.heap.size, 0, none⟩ = some (.int .i64 a2.f0) ∧ w'.cell? ⟨w.heap.size, 1, none⟩ = some (.int .i64 a2.f1) ∧ w'.cell? ⟨w.heap.size, 2, none⟩ = some (.int .i64 a2.f2) ∧ w'.cell? ⟨w.heap.size, 3, none⟩ = some (.int .i64 a2.f3) ∧ w'.cell? ⟨w.heap.size, 4, none⟩ = some (.int .i64 a2.f4) ∧ w'.cell? ⟨w.heap.size, 5, none⟩ = some (.int .i64 a2.f5))
        (exact ⟨KB2.at_ rfl, KB2.at_ rfl, KB2.at_ rfl, KB2.at_ rfl, KB2.at_ rfl, KB2.at_ rfl⟩)
        (first
          | (go_at_call 14; refine Calls.mono (to_node l0 A0 n0 c0 _ _ _ (by omega) R0) ?_; rintro e w20 ⟨T20, tc20, rfl, FT20, B20⟩; (replace R0 := rd_nw B20 R0); (replace R1 := rd_nw B20 R1); (replace KB2 := box_nw B20 KB2); (replace FP5_0 := fr_nw B20 FP5_0); (replace FM18 := fr_nw B20 FM18); (replace G := below_trans G B20 (Nat.le_refl _)); (have S20 := Lib.hid (drw_size B20)))
          | (go_at_call 15; refine Calls.mono (to_int l1 A1 n1 c1 _ _ _ (by omega) R1) ?_; rintro e w21 ⟨T21, tc21, rfl, FT21, B21⟩; (replace R0 := rd_nw B21 R0); (replace R1 := rd_nw B21 R1); (replace KB2 := box_nw B21 KB2); (replace FP5_0 := fr_nw B21 FP5_0); (replace FM18 := fr_nw B21 FM18); (replace FT20 := fr_nw B21 FT20); (replace G := below_trans G B21 (Nat.le_refl _)); (have S21 := Lib.hid (show w20.heap.size ≤ w21.heap.size from B21.size)))
          | (go_at_call 27; (with_reducible refine Calls.mono (to_edit_one a2 _) ?_); rintro e w22 ⟨rfl, B22⟩; (replace R0 := rd_nw B22 R0); (replace R1 := rd_nw B22 R1); (replace KB2 := box_nw B22 KB2); (replace FP5_0 := fr_nw B22 FP5_0); (replace FM18 := fr_nw B22 FM18); (replace FT20 := fr_nw B22 FT20); (replace FT21 := fr_nw B22 FT21); (replace G := below_trans G B22 (Nat.le_refl _)); (have S22 := Lib.hid (show w21.heap.size ≤ w22.heap.size from B22.size)))
          | (go_at_call 30; refine Calls.mono (impl_GuardEditC l0 T20 n0 tc20 _ _ l1 T21 n1 tc21 _ _ a2 _ (by omega) FT20.rd FT20.cap H0 (by omega) FT21.rd FT21.cap H1 H2) ?_; rintro e w23 ⟨P23_0, pc23_0, rfl, FP23_0, B23⟩; (replace R0 := rd_nw B23 R0); (replace R1 := rd_nw B23 R1); (replace KB2 := box_nw B23 KB2); (replace FP5_0 := fr_nw B23 FP5_0); (replace FM18 := fr_nw B23 FM18); (replace FT20 := fr_nw B23 FT20); (replace FT21 := fr_nw B23 FT21); (replace G := below_trans G B23 (Nat.le_refl _)); (have S23 := Lib.hid (show w22.heap.size ≤ w23.heap.size from B23.size))))
      clear B20
      clear B21
      clear B22
      clear B23
      clear FT20
      clear FT21
      go_wp2_with fail
      refine (eq_node_same (mGuard l0 l1 a2) P23_0 P5_0 _ _ pc23_0 pc5_0 _ _ _ _ _ (by omega) (by omega) FP23_0.rd FP5_0.rd).mono ?_
      rintro e w24 ⟨rfl, B24⟩
      replace R0 := R0.new B24
      replace R1 := R1.new B24
      replace KB2 := KB2.new B24
      replace FP5_0 := FP5_0.new B24
      replace FM18 := FM18.new B24
      replace FP23_0 := FP23_0.new B24
      replace G := below_trans G B24 (Nat.le_refl _)
      have S24 := Lib.hid B24.size
      clear B24
      go_wp2_with fail
      refine (held_node P9_0 _ pc9_0 _ _ (1) _ (by omega) (by omega) FM18.rd).mono ?_
      rintro e w25 hq
      obtain ⟨rfl, B25⟩ := hq.says
      replace R0 := R0.new B25
      replace R1 := R1.new B25
      replace KB2 := KB2.new B25
      replace FP5_0 := FP5_0.new B25
      replace FM18 := FM18.new B25
      replace FP23_0 := FP23_0.new B25
      replace G := below_trans G B25 (Nat.le_refl _)
      have S25 := Lib.hid B25.size
      clear B25
      go_wp2_with fail
      go_ret
      exact ⟨rfl, G⟩
    · skip
      have G : Below w.heap.size w (w.alloc (.cells #[.int .i64 a2.f0, .int .i64 a2.f1, .int .i64 a2.f2, .int .i64 a2.f3, .int .i64 a2.f4, .int .i64 a2.f5] 38)) := (Below.refl _ _).alloc (by simp) _
      have S0 := Lib.hid (show (w.alloc (.cells #[.int .i64 a2.f0, .int .i64 a2.f1, .int .i64 a2.f2, .int .i64 a2.f3, .int .i64 a2.f4, .int .i64 a2.f5] 38)).heap.size = w.heap.size + 1 by simp)
      have KB2 : BoxAt (w.alloc (.cells #[.int .i64 a2.f0, .int .i64 a2.f1, .int .i64 a2.f2, .int .i64 a2.f3, .int .i64 a2.f4, .int .i64 a2.f5] 38)) (w.heap.size) 38 #[.int .i64 a2.f0, .int .i64 a2.f1, .int .i64 a2.f2, .int .i64 a2.f3, .int .i64 a2.f4, .int .i64 a2.f5] := box_new _ _ _
      go_enter Try.func7, Try.ntmps7
      go_wp2_with fail
      refine (szno_node A0 n0 c0 (1048576) _ hm0 (by omega) (by omega) (by omega)).mono ?_
      rintro e w1 hq
      obtain ⟨rfl, B26⟩ := hq.says
      replace KB2 := KB2.new B26
      replace G := below_trans G B26 (Nat.le_refl _)
      have S1 := Lib.hid B26.size
      clear B26
      go_wp2_with fail
      go_ret
      exact ⟨rfl, G⟩
  · go_enter Try.func7, Try.ntmps7
    go_wp2_with fail
    go_ret
    exact ⟨rfl, by repeat (first | exact Below.refl _ _ | (refine Below.alloc ?_ (by simp <;> omega) _))⟩

set_option maxRecDepth 100000 in
theorem lifted (os : Os) (started : os.Started) (H : Type) (enc : TypeId × Value → H) :
    ReturnsInHanded {} Try.checked os 7 .any (Rows.fnExactGuardEditSpec.pre6 enc Try.prog Try.f7 Rows.fnExactGuardEditRow.domain false) (Rows.fnExactGuardEditSpec.post enc Try.prog Try.f7 false true false false) := by
  refine law_lifted Try.func7 (by kernel_rfl) rfl rfl (by kernel_rfl) os started
    (ChangeSpec.witness6 (enc := enc) (C := Try.checked) false ⟨#[], #[.slice none 0 0, .slice none 0 0, .agg #[.int .i64 0, .int .i64 0, .int .i64 0, .int .i64 0, .int .i64 0, .int .i64 0]], []⟩ 8 (by kernel_rfl) (by kernel_rfl) (by kernel_rfl) (by kernel_rfl)) ?_
  intro W base args ds p hval hA hlt
  rw [Try.params7] at hA hval
  obtain ⟨v0, vs0, d0, ds0, p0, q0, hargs, rfl, rfl, h0, r0⟩ := trodAll_cons hA
  obtain ⟨v1, vs1, d1, ds1, p1, q1, rfl, rfl, rfl, h1, r1⟩ := trodAll_cons r0
  obtain ⟨v2, vs2, d2, ds2, p2, q2, rfl, rfl, rfl, h2, r2⟩ := trodAll_cons r1
  obtain ⟨rfl, rfl, rfl⟩ := trodAll_nil r2
  obtain rfl : args = #[v0, v1, v2] := by cases args; simp_all
  obtain ⟨A0, n0, c0, l0, rfl, m0, R0, H0⟩ := open_node_list (hval 0 22 v0 rfl rfl) h0 (fun x hx => hlt x (by simp [hx]))
  obtain ⟨A1, n1, c1, l1, rfl, m1, R1, H1⟩ := open_int_list (hval 1 23 v1 rfl rfl) h1 (fun x hx => hlt x (by simp [hx]))
  obtain ⟨a2, rfl, H2⟩ := open_edit (hval 2 38 v2 rfl rfl) h2
  exact ⟨⟨rfl, rfl, rfl⟩, walk l0 A0 n0 c0 l1 A1 n1 c1 a2 W m0 R0 H0 m1 R1 H1 H2⟩

theorem over : Rows.fnExactGuardEditRow.holds Try.pinned (OpenSpec.ofChange Rows.fnExactGuardEditSpec) :=
  OpenClaim.holds_of_wide 7 Try.f7 rfl rfl rfl rfl rfl rfl rfl ⟨rfl, rfl, rfl, rfl, rfl⟩ rfl rfl rfl rfl rfl (by kernel_rfl) Try.func7 (by kernel_rfl)
    (of_decide_eq_true (by kernel_rfl)) (by unfold Func.isWrapper; first | (rw [if_pos (by decide +kernel)]; kernel_rfl) | (rw [if_neg (by decide +kernel)]; exact ⟨rfl, rfl⟩))
    (fun os started H enc _ => lifted os started H enc)

theorem proved : Rows.FnExactGuardEditSaid := over
#print axioms proved
end Go.Proofs.Ytomoigbhikihfaa.fnExactGuardEdit
