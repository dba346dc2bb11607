/- The law FnExactEditByHandle answers true for every argument, and leaves each argument as it was. No condition. -/
import Derived.Test.YtomoigbhikihfaaSlI
import Derived.Test.YtomoigbhikihfaaTNode
import Derived.Test.YtomoigbhikihfaaHdC
namespace Go.Proofs.Ytomoigbhikihfaa.fnExactEditByHandle
open Go Go.ChangeShapes Go.WideShapes Go.ChangeAt Go.RowKit Go.Lib
open Go.ChangeMaps (open_string)
set_option linter.unusedVariables false
set_option linter.unusedSimpArgs false
set_option maxRecDepth 100000

theorem drw_size {W w' : World} (hb : Below W.drew.heap.size W.drew w') : W.heap.size ≤ w'.heap.size := hb.size
set_option maxRecDepth 100000 in
set_option maxHeartbeats 20000000 in
theorem walk (l0 : List TNode) (A0 : Option Addr) (n0 c0 : Nat) (l1 : List Int) (A1 : Option Addr) (n1 c1 : Nat) (a2 : Int) (a3 : Int) (a4 : Int) (a5 : Int) (w : World) (hm0 : n0 ≤ maxLen) (R0 : Rd w 0 w.heap.size 5 A0 n0 (cNode l0)) (H0 : Hid (cNodeOk l0)) (hm1 : n1 ≤ maxLen) (R1 : Rd w 0 w.heap.size 1 A1 n1 (i64s l1)) (H1 : Hid (I64s l1)) (wf2 : (Lit.int .i64 a2).wf = true) (wf3 : (Lit.int .i64 a3).wf = true) (wf4 : (Lit.int .i64 a4).wf = true) (wf5 : (Lit.int .i64 a5).wf = true) :
    Calls Try.prog 10 #[.slice A0 n0 c0, .slice A1 n1 c1, .int .i64 a2, .int .i64 a3, .int .i64 a4, .int .i64 a5] w fun e w' => e = .returned (.bool true) ∧ Below w.heap.size w w' := by
  have hm1 : n1 ≤ 9223372036854775807 := hm1
  have hm0 : n0 ≤ 9223372036854775807 := hm0
  have Wf2 := Lib.hid wf2
  clear wf2
  have Wf3 := Lib.hid wf3
  clear wf3
  have Wf4 := Lib.hid wf4
  clear wf4
  have Wf5 := Lib.hid wf5
  clear wf5
  by_cases hn1 : n1 ≤ 1048576
  · skip
    by_cases hz0 : n0 ≤ 1048576
    · skip
      have hl0 : (mEBH l0 l1 a2 a3 a4 a5).length ≤ 17179869184 := by (have := rd_len TNode.len R0 (by decide); have := mEBH_len (l := l0) (h := l1) (s := a2) (z := a3) H0.out Wf4.out Wf5.out; omega)
      go_enter Try.func10, Try.ntmps10
      go_wp2_with fail
      refine (sz_node A0 n0 c0 (1048576) _ hm0 (by omega) (by omega)).mono ?_
      rintro e w1 hq
      obtain ⟨rfl, B1⟩ := hq.says
      replace R0 := R0.new B1
      replace R1 := R1.new B1
      have G := B1
      have S1 := Lib.hid B1.size
      clear B1
      go_wp2_with fail
      refine (to_node l0 A0 n0 c0 _ _ _ (by omega) R0).mono ?_
      rintro e w2 ⟨T2, tc2, rfl, FT2, B2⟩
      replace R0 := R0.new B2
      replace R1 := R1.new B2
      replace G := below_trans G B2 (Nat.le_refl _)
      have S2 := Lib.hid B2.size
      clear B2
      go_wp2_with fail
      refine (to_int l1 A1 n1 c1 _ _ _ (by omega) R1).mono ?_
      rintro e w3 ⟨T3, tc3, rfl, FT3, B3⟩
      replace R0 := R0.new B3
      replace R1 := R1.new B3
      replace FT2 := FT2.new B3
      replace G := below_trans G B3 (Nat.le_refl _)
      have S3 := Lib.hid B3.size
      clear B3
      go_wp2_with fail
      refine (spec_EditByHandle l0 T2 n0 tc2 _ _ l1 T3 n1 tc3 _ _ a2 a3 a4 a5 _ (by omega) FT2.rd FT2.cap H0 (by omega) FT3.rd FT3.cap H1 Wf2.out Wf3.out Wf4.out Wf5.out).mono ?_
      rintro e w4 ⟨P4_0, pc4_0, rfl, FP4_0, B4⟩
      replace R0 := R0.new B4
      replace R1 := R1.new B4
      replace FT2 := FT2.new B4
      replace FT3 := FT3.new B4
      replace G := below_trans G B4 (Nat.le_refl _)
      have S4 := Lib.hid B4.size
      clear B4
      clear FT2
      clear FT3
      go_wp2_with fail
      refine (to_node l0 A0 n0 c0 _ _ _ (by omega) R0).mono ?_
      rintro e w5 ⟨T5, tc5, rfl, FT5, B5⟩
      replace R0 := R0.new B5
      replace R1 := R1.new B5
      replace FP4_0 := FP4_0.new B5
      replace G := below_trans G B5 (Nat.le_refl _)
      have S5 := Lib.hid B5.size
      clear B5
      go_wp2_with fail
      refine (to_int l1 A1 n1 c1 _ _ _ (by omega) R1).mono ?_
      rintro e w6 ⟨T6, tc6, rfl, FT6, B6⟩
      replace R0 := R0.new B6
      replace R1 := R1.new B6
      replace FP4_0 := FP4_0.new B6
      replace FT5 := FT5.new B6
      replace G := below_trans G B6 (Nat.le_refl _)
      have S6 := Lib.hid B6.size
      clear B6
      go_wp2_with fail
      refine (impl_EditByHandleC l0 T5 n0 tc5 _ _ l1 T6 n1 tc6 _ _ a2 a3 a4 a5 _ (by omega) FT5.rd FT5.cap H0 (by omega) FT6.rd FT6.cap H1 Wf2.out Wf3.out Wf4.out Wf5.out).mono ?_
      rintro e w7 ⟨P7_0, pc7_0, rfl, FP7_0, B7⟩
      replace R0 := R0.new B7
      replace R1 := R1.new B7
      replace FP4_0 := FP4_0.new B7
      replace FT5 := FT5.new B7
      replace FT6 := FT6.new B7
      replace G := below_trans G B7 (Nat.le_refl _)
      have S7 := Lib.hid B7.size
      clear B7
      go_wp2_with fail
      refine (eq_node_same (mEBH l0 l1 a2 a3 a4 a5) P7_0 P4_0 _ _ pc7_0 pc4_0 _ _ _ _ _ (by omega) (by omega) FP7_0.rd FP4_0.rd).mono ?_
      rintro e w8 ⟨rfl, B8⟩
      replace R0 := R0.new B8
      replace R1 := R1.new B8
      replace FP4_0 := FP4_0.new B8
      replace FT5 := FT5.new B8
      replace FT6 := FT6.new B8
      replace FP7_0 := FP7_0.new B8
      replace G := below_trans G B8 (Nat.le_refl _)
      have S8 := Lib.hid B8.size
      clear B8
      go_wp2_with fail
      refine (to_node l0 A0 n0 c0 _ _ _ (by omega) R0).mono ?_
      rintro e w9 ⟨T9, tc9, rfl, FT9, B9⟩
      replace R0 := R0.new B9
      replace R1 := R1.new B9
      replace FP4_0 := FP4_0.new B9
      replace FT5 := FT5.new B9
      replace FT6 := FT6.new B9
      replace FP7_0 := FP7_0.new B9
      replace G := below_trans G B9 (Nat.le_refl _)
      have S9 := Lib.hid B9.size
      clear B9
      go_wp2_with fail
      refine (eq_node_same l0 T5 T9 n0 n0 tc5 tc9 _ _ _ _ _ (by omega) (by omega) FT5.rd FT9.rd).mono ?_
      rintro e w10 ⟨rfl, B10⟩
      replace R0 := R0.new B10
      replace R1 := R1.new B10
      replace FP4_0 := FP4_0.new B10
      replace FT5 := FT5.new B10
      replace FT6 := FT6.new B10
      replace FP7_0 := FP7_0.new B10
      replace FT9 := FT9.new B10
      replace G := below_trans G B10 (Nat.le_refl _)
      have S10 := Lib.hid B10.size
      clear B10
      clear FT9
      go_wp2_with fail
      refine (to_int l1 A1 n1 c1 _ _ _ (by omega) R1).mono ?_
      rintro e w11 ⟨T11, tc11, rfl, FT11, B11⟩
      replace R0 := R0.new B11
      replace R1 := R1.new B11
      replace FP4_0 := FP4_0.new B11
      replace FT5 := FT5.new B11
      replace FT6 := FT6.new B11
      replace FP7_0 := FP7_0.new B11
      replace G := below_trans G B11 (Nat.le_refl _)
      have S11 := Lib.hid B11.size
      clear B11
      go_wp2_with fail
      refine (eq_int_same l1 T6 T11 n1 n1 tc6 tc11 _ _ _ _ _ (by omega) (by omega) FT6.rd FT11.rd).mono ?_
      rintro e w12 hq
      obtain ⟨rfl, B12⟩ := hq.says
      replace R0 := R0.new B12
      replace R1 := R1.new B12
      replace FP4_0 := FP4_0.new B12
      replace FT5 := FT5.new B12
      replace FT6 := FT6.new B12
      replace FP7_0 := FP7_0.new B12
      replace FT11 := FT11.new B12
      replace G := below_trans G B12 (Nat.le_refl _)
      have S12 := Lib.hid B12.size
      clear B12
      clear FT11
      go_wp2_with fail
      refine (mark_node _ T5 n0 tc5 _ _ (1) _ (by omega) (by omega) FT5).mono ?_
      rintro e w13 ⟨rfl, FM13, C13, E13⟩
      replace R0 := R0.chg C13 (by have := S1.out; have := S2.out; have := S3.out; have := S4.out; have := S5.out; have := S6.out; have := S7.out; have := S8.out; have := S9.out; have := S10.out; have := S11.out; have := S12.out; omega)
      replace R1 := R1.chg C13 (by have := S1.out; have := S2.out; have := S3.out; have := S4.out; have := S5.out; have := S6.out; have := S7.out; have := S8.out; have := S9.out; have := S10.out; have := S11.out; have := S12.out; omega)
      replace FP4_0 := FP4_0.chg C13 (by have := S1.out; have := S2.out; have := S3.out; have := S4.out; have := S5.out; have := S6.out; have := S7.out; have := S8.out; have := S9.out; have := S10.out; have := S11.out; have := S12.out; omega)
      replace FT6 := FT6.chg C13 (by have := S1.out; have := S2.out; have := S3.out; have := S4.out; have := S5.out; have := S6.out; have := S7.out; have := S8.out; have := S9.out; have := S10.out; have := S11.out; have := S12.out; omega)
      replace FP7_0 := FP7_0.chg C13 (by have := S1.out; have := S2.out; have := S3.out; have := S4.out; have := S5.out; have := S6.out; have := S7.out; have := S8.out; have := S9.out; have := S10.out; have := S11.out; have := S12.out; omega)
      replace G := G.trans (C13.below (.inl (by have := S1.out; have := S2.out; have := S3.out; have := S4.out; have := S5.out; have := S6.out; have := S7.out; have := S8.out; have := S9.out; have := S10.out; have := S11.out; have := S12.out; omega)) (by have := S1.out; have := S2.out; have := S3.out; have := S4.out; have := S5.out; have := S6.out; have := S7.out; have := S8.out; have := S9.out; have := S10.out; have := S11.out; have := S12.out; omega))
      clear FT5
      have S13 := Lib.hid (show w13.heap.size = w12.heap.size from E13)
      clear E13
      clear C13
      go_wp2_with fail
      refine (mark_int _ T6 n1 tc6 _ _ (1 + n0 * 5) _ (by omega) (by omega) FT6).mono ?_
      rintro e w14 ⟨rfl, FM14, C14, E14⟩
      replace R0 := R0.chg C14 (by have := S1.out; have := S2.out; have := S3.out; have := S4.out; have := S5.out; have := S6.out; have := S7.out; have := S8.out; have := S9.out; have := S10.out; have := S11.out; have := S12.out; have := S13.out; omega)
      replace R1 := R1.chg C14 (by have := S1.out; have := S2.out; have := S3.out; have := S4.out; have := S5.out; have := S6.out; have := S7.out; have := S8.out; have := S9.out; have := S10.out; have := S11.out; have := S12.out; have := S13.out; omega)
      replace FP4_0 := FP4_0.chg C14 (by have := S1.out; have := S2.out; have := S3.out; have := S4.out; have := S5.out; have := S6.out; have := S7.out; have := S8.out; have := S9.out; have := S10.out; have := S11.out; have := S12.out; have := S13.out; omega)
      replace FP7_0 := FP7_0.chg C14 (by have := S1.out; have := S2.out; have := S3.out; have := S4.out; have := S5.out; have := S6.out; have := S7.out; have := S8.out; have := S9.out; have := S10.out; have := S11.out; have := S12.out; have := S13.out; omega)
      replace FM13 := FM13.chg C14 (by have := S1.out; have := S2.out; have := S3.out; have := S4.out; have := S5.out; have := S6.out; have := S7.out; have := S8.out; have := S9.out; have := S10.out; have := S11.out; have := S12.out; have := S13.out; omega)
      replace G := G.trans (C14.below (.inl (by have := S1.out; have := S2.out; have := S3.out; have := S4.out; have := S5.out; have := S6.out; have := S7.out; have := S8.out; have := S9.out; have := S10.out; have := S11.out; have := S12.out; have := S13.out; omega)) (by have := S1.out; have := S2.out; have := S3.out; have := S4.out; have := S5.out; have := S6.out; have := S7.out; have := S8.out; have := S9.out; have := S10.out; have := S11.out; have := S12.out; have := S13.out; omega))
      clear FT6
      have S14 := Lib.hid (show w14.heap.size = w13.heap.size from E14)
      clear E14
      clear C14
      clear FM13
      clear FM14
      go_wp2_with fail
      refine (eq_node_same (mEBH l0 l1 a2 a3 a4 a5) P7_0 P4_0 _ _ pc7_0 pc4_0 _ _ _ _ _ (by omega) (by omega) FP7_0.rd FP4_0.rd).mono ?_
      rintro e w15 ⟨rfl, B15⟩
      replace R0 := R0.new B15
      replace R1 := R1.new B15
      replace FP4_0 := FP4_0.new B15
      replace FP7_0 := FP7_0.new B15
      replace G := below_trans G B15 (Nat.le_refl _)
      have S15 := Lib.hid B15.size
      clear B15
      go_wp2_with fail
      refine (mark_node _ P7_0 _ pc7_0 _ _ (1) _ (by omega) (by omega) FP7_0).mono ?_
      rintro e w16 ⟨rfl, FM16, C16, E16⟩
      replace R0 := R0.chg C16 (by have := S1.out; have := S2.out; have := S3.out; have := S4.out; have := S5.out; have := S6.out; have := S7.out; have := S8.out; have := S9.out; have := S10.out; have := S11.out; have := S12.out; have := S13.out; have := S14.out; have := S15.out; omega)
      replace R1 := R1.chg C16 (by have := S1.out; have := S2.out; have := S3.out; have := S4.out; have := S5.out; have := S6.out; have := S7.out; have := S8.out; have := S9.out; have := S10.out; have := S11.out; have := S12.out; have := S13.out; have := S14.out; have := S15.out; omega)
      replace FP4_0 := FP4_0.chg C16 (by have := S1.out; have := S2.out; have := S3.out; have := S4.out; have := S5.out; have := S6.out; have := S7.out; have := S8.out; have := S9.out; have := S10.out; have := S11.out; have := S12.out; have := S13.out; have := S14.out; have := S15.out; omega)
      replace G := G.trans (C16.below (.inl (by have := S1.out; have := S2.out; have := S3.out; have := S4.out; have := S5.out; have := S6.out; have := S7.out; have := S8.out; have := S9.out; have := S10.out; have := S11.out; have := S12.out; have := S13.out; have := S14.out; have := S15.out; omega)) (by have := S1.out; have := S2.out; have := S3.out; have := S4.out; have := S5.out; have := S6.out; have := S7.out; have := S8.out; have := S9.out; have := S10.out; have := S11.out; have := S12.out; have := S13.out; have := S14.out; have := S15.out; omega))
      clear FP7_0
      have S16 := Lib.hid (show w16.heap.size = w15.heap.size from E16)
      clear E16
      clear C16
      go_wp2_with fail
      refine (held_node P7_0 _ pc7_0 _ _ (1) _ (by omega) (by omega) FM16.rd).mono ?_
      rintro e w17 hq
      obtain ⟨rfl, B17⟩ := hq.says
      replace R0 := R0.new B17
      replace R1 := R1.new B17
      replace FP4_0 := FP4_0.new B17
      replace FM16 := FM16.new B17
      replace G := below_trans G B17 (Nat.le_refl _)
      have S17 := Lib.hid B17.size
      clear B17
      go_wp2_with fail
      refine (to_node l0 A0 n0 c0 _ _ _ (by omega) R0).mono ?_
      rintro e w18 ⟨T18, tc18, rfl, FT18, B18⟩
      replace R0 := R0.new B18
      replace R1 := R1.new B18
      replace FP4_0 := FP4_0.new B18
      replace FM16 := FM16.new B18
      replace G := below_trans G B18 (Nat.le_refl _)
      have S18 := Lib.hid B18.size
      clear B18
      go_wp2_with fail
      refine (to_int l1 A1 n1 c1 _ _ _ (by omega) R1).mono ?_
      rintro e w19 ⟨T19, tc19, rfl, FT19, B19⟩
      replace R0 := R0.new B19
      replace R1 := R1.new B19
      replace FP4_0 := FP4_0.new B19
      replace FM16 := FM16.new B19
      replace FT18 := FT18.new B19
      replace G := below_trans G B19 (Nat.le_refl _)
      have S19 := Lib.hid B19.size
      clear B19
      go_wp2_with fail
      refine (impl_EditByHandleC l0 T18 n0 tc18 _ _ l1 T19 n1 tc19 _ _ a2 a3 a4 a5 _ (by omega) FT18.rd FT18.cap H0 (by omega) FT19.rd FT19.cap H1 Wf2.out Wf3.out Wf4.out Wf5.out).mono ?_
      rintro e w20 ⟨P20_0, pc20_0, rfl, FP20_0, B20⟩
      replace R0 := R0.new B20
      replace R1 := R1.new B20
      replace FP4_0 := FP4_0.new B20
      replace FM16 := FM16.new B20
      replace FT18 := FT18.new B20
      replace FT19 := FT19.new B20
      replace G := below_trans G B20 (Nat.le_refl _)
      have S20 := Lib.hid B20.size
      clear B20
      clear FT18
      clear FT19
      go_wp2_with fail
      refine (eq_node_same (mEBH l0 l1 a2 a3 a4 a5) P20_0 P4_0 _ _ pc20_0 pc4_0 _ _ _ _ _ (by omega) (by omega) FP20_0.rd FP4_0.rd).mono ?_
      rintro e w21 ⟨rfl, B21⟩
      replace R0 := R0.new B21
      replace R1 := R1.new B21
      replace FP4_0 := FP4_0.new B21
      replace FM16 := FM16.new B21
      replace FP20_0 := FP20_0.new B21
      replace G := below_trans G B21 (Nat.le_refl _)
      have S21 := Lib.hid B21.size
      clear B21
      go_wp2_with fail
      refine (held_node P7_0 _ pc7_0 _ _ (1) _ (by omega) (by omega) FM16.rd).mono ?_
      rintro e w22 hq
      obtain ⟨rfl, B22⟩ := hq.says
      replace R0 := R0.new B22
      replace R1 := R1.new B22
      replace FP4_0 := FP4_0.new B22
      replace FM16 := FM16.new B22
      replace FP20_0 := FP20_0.new B22
      replace G := below_trans G B22 (Nat.le_refl _)
      have S22 := Lib.hid B22.size
      clear B22
      go_wp2_with fail
      go_ret
      exact ⟨rfl, G⟩
    · skip
      go_enter Try.func10, Try.ntmps10
      go_wp2_with fail
      refine (szno_node A0 n0 c0 (1048576) _ hm0 (by omega) (by omega) (by omega)).mono ?_
      rintro e w1 hq
      obtain ⟨rfl, B23⟩ := hq.says
      have G := B23
      have S1 := Lib.hid B23.size
      clear B23
      go_wp2_with fail
      go_ret
      exact ⟨rfl, G⟩
  · go_enter Try.func10, Try.ntmps10
    go_wp2_with fail
    go_ret
    exact ⟨rfl, by repeat (first | exact Below.refl _ _ | (refine Below.alloc ?_ (by simp <;> omega) _))⟩

set_option maxRecDepth 100000 in
theorem lifted (os : Os) (started : os.Started) (H : Type) (enc : TypeId × Value → H) :
    ReturnsInHanded {} Try.checked os 10 .any (Rows.fnExactEditByHandleSpec.pre6 enc Try.prog Try.f10 Rows.fnExactEditByHandleRow.domain false) (Rows.fnExactEditByHandleSpec.post enc Try.prog Try.f10 false true false false) := by
  refine law_lifted Try.func10 (by kernel_rfl) rfl rfl (by kernel_rfl) os started
    (ChangeSpec.witness6 (enc := enc) (C := Try.checked) false ⟨#[], #[.slice none 0 0, .slice none 0 0, .int .i64 0, .int .i64 0, .int .i64 0, .int .i64 0], []⟩ 8 (by kernel_rfl) (by kernel_rfl) (by kernel_rfl) (by kernel_rfl)) ?_
  intro W base args ds p hval hA hlt
  rw [Try.params10] at hA hval
  obtain ⟨v0, vs0, d0, ds0, p0, q0, hargs, rfl, rfl, h0, r0⟩ := trodAll_cons hA
  obtain ⟨v1, vs1, d1, ds1, p1, q1, rfl, rfl, rfl, h1, r1⟩ := trodAll_cons r0
  obtain ⟨v2, vs2, d2, ds2, p2, q2, rfl, rfl, rfl, h2, r2⟩ := trodAll_cons r1
  obtain ⟨v3, vs3, d3, ds3, p3, q3, rfl, rfl, rfl, h3, r3⟩ := trodAll_cons r2
  obtain ⟨v4, vs4, d4, ds4, p4, q4, rfl, rfl, rfl, h4, r4⟩ := trodAll_cons r3
  obtain ⟨v5, vs5, d5, ds5, p5, q5, rfl, rfl, rfl, h5, r5⟩ := trodAll_cons r4
  obtain ⟨rfl, rfl, rfl⟩ := trodAll_nil r5
  obtain rfl : args = #[v0, v1, v2, v3, v4, v5] := by cases args; simp_all
  obtain ⟨A0, n0, c0, l0, rfl, m0, R0, H0⟩ := open_node_list (hval 0 22 v0 rfl rfl) h0 (fun x hx => hlt x (by simp [hx]))
  obtain ⟨A1, n1, c1, l1, rfl, m1, R1, H1⟩ := open_int_list (hval 1 23 v1 rfl rfl) h1 (fun x hx => hlt x (by simp [hx]))
  obtain ⟨a2, rfl, rfl, rfl, wf2⟩ := open_int Try.underlying3 (hval 2 3 v2 rfl rfl) h2
  obtain ⟨a3, rfl, rfl, rfl, wf3⟩ := open_int Try.underlying3 (hval 3 3 v3 rfl rfl) h3
  obtain ⟨a4, rfl, rfl, rfl, wf4⟩ := open_int Try.underlying3 (hval 4 3 v4 rfl rfl) h4
  obtain ⟨a5, rfl, rfl, rfl, wf5⟩ := open_int Try.underlying3 (hval 5 3 v5 rfl rfl) h5
  exact ⟨⟨rfl, rfl, rfl⟩, walk l0 A0 n0 c0 l1 A1 n1 c1 a2 a3 a4 a5 W m0 R0 H0 m1 R1 H1 wf2 wf3 wf4 wf5⟩

theorem over : Rows.fnExactEditByHandleRow.holds Try.pinned (OpenSpec.ofChange Rows.fnExactEditByHandleSpec) :=
  OpenClaim.holds_of_wide 10 Try.f10 rfl rfl rfl rfl rfl rfl rfl ⟨rfl, rfl, rfl, rfl, rfl⟩ rfl rfl rfl rfl rfl (by kernel_rfl) Try.func10 (by kernel_rfl)
    (of_decide_eq_true (by kernel_rfl)) (by unfold Func.isWrapper; first | (rw [if_pos (by decide +kernel)]; kernel_rfl) | (rw [if_neg (by decide +kernel)]; exact ⟨rfl, rfl⟩))
    (fun os started H enc _ => lifted os started H enc)

theorem proved : Rows.FnExactEditByHandleSaid := over
#print axioms proved
end Go.Proofs.Ytomoigbhikihfaa.fnExactEditByHandle
