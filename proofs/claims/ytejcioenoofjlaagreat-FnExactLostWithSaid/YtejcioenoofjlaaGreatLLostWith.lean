/- The law FnExactLostWith answers true for every argument, and leaves each argument as it was. No condition. -/
import Derived.Test.YtejcioenoofjlaaGreatFacts
import Derived.Test.YtejcioenoofjlaaGreatSlI
import Derived.Test.YtejcioenoofjlaaGreatTEdit
import Derived.Test.YtejcioenoofjlaaGreatTNode
import Derived.Test.YtejcioenoofjlaaGreatLost
namespace Go.Proofs.YtejcioenoofjlaaGreat.fnExactLostWith
open Go Go.ChangeShapes Go.WideShapes Go.ChangeAt Go.RowKit Go.Lib
open Go.ChangeMaps (open_string)
set_option linter.unusedVariables false
set_option linter.unusedSimpArgs false
set_option maxRecDepth 100000

theorem drw_size {W w' : World} (hb : Below W.drew.heap.size W.drew w') : W.heap.size ≤ w'.heap.size := hb.size
set_option maxRecDepth 100000 in
set_option maxHeartbeats 20000000 in
theorem walk (l0 : List TNode) (A0 : Option Addr) (n0 c0 : Nat) (l1 : List TEdit) (A1 : Option Addr) (n1 c1 : Nat) (a2 : Int) (w : World) (hm0 : n0 ≤ maxLen) (R0 : Rd w 0 w.heap.size 5 A0 n0 (cNode l0)) (H0 : Hid (cNodeOk l0)) (hm1 : n1 ≤ maxLen) (R1 : Rd w 0 w.heap.size 6 A1 n1 (cEdit l1)) (H1 : Hid (cEditOk l1)) (wf2 : (Lit.int .i64 a2).wf = true) :
    Calls Tryz.prog 3 #[.slice A0 n0 c0, .slice A1 n1 c1, .int .i64 a2] w fun e w' => e = .returned (.bool true) ∧ Below w.heap.size w w' := by
  have hm0 : n0 ≤ 9223372036854775807 := hm0
  have hm1 : n1 ≤ 9223372036854775807 := hm1
  have Wf2 := Lib.hid wf2
  clear wf2
  by_cases hz0 : n0 ≤ 1048576
  · skip
    by_cases hz1 : n0 + n1 ≤ 1048576
    · skip
      have hl0 : (mLost l0 l1 a2).length ≤ 17179869184 := by (have := rd_len TNode.len R0 (by decide); have := mLost_len l1 a2 H0.out; omega)
      go_enter Tryz.func3, Tryz.ntmps3
      go_wp2_with fail
      refine (sz_node A0 n0 c0 (1048576) _ hm0 (by omega) (by omega)).mono ?_
      rintro e w1 hq
      obtain ⟨rfl, B1⟩ := hq.says
      replace R0 := R0.new B1
      replace R1 := R1.new B1
      have G := B1
      have S1 := Lib.hid B1.size
      clear B1
      go_wp2_with fail
      refine (sz_edit A1 n1 c1 (1048576 - (n0 : Int)) _ hm1 (by omega) (by omega)).mono ?_
      rintro e w2 hq
      obtain ⟨rfl, B2⟩ := hq.says
      replace R0 := R0.new B2
      replace R1 := R1.new B2
      replace G := below_trans G B2 (Nat.le_refl _)
      have S2 := Lib.hid B2.size
      clear B2
      go_wp2_with fail
      refine (to_node l0 A0 n0 c0 _ _ _ (by omega) R0).mono ?_
      rintro e w3 ⟨T3, tc3, rfl, FT3, B3⟩
      replace R0 := R0.new B3
      replace R1 := R1.new B3
      replace G := below_trans G B3 (Nat.le_refl _)
      have S3 := Lib.hid B3.size
      clear B3
      go_wp2_with fail
      refine (to_edit l1 A1 n1 c1 _ _ _ (by omega) R1).mono ?_
      rintro e w4 ⟨T4, tc4, rfl, FT4, B4⟩
      replace R0 := R0.new B4
      replace R1 := R1.new B4
      replace FT3 := FT3.new B4
      replace G := below_trans G B4 (Nat.le_refl _)
      have S4 := Lib.hid B4.size
      clear B4
      go_wp2_with fail
      refine (spec_LostWith l0 T3 n0 tc3 _ _ l1 T4 n1 tc4 _ _ a2 _ (by omega) FT3.rd H0 (by omega) FT4.rd H1 Wf2.out).mono ?_
      rintro e w5 ⟨P5_0, pc5_0, rfl, FP5_0, B5⟩
      replace R0 := R0.new B5
      replace R1 := R1.new B5
      replace FT3 := FT3.new B5
      replace FT4 := FT4.new B5
      replace G := below_trans G B5 (Nat.le_refl _)
      have S5 := Lib.hid B5.size
      clear B5
      clear FT3
      clear FT4
      go_wp2_with fail
      refine (to_node l0 A0 n0 c0 _ _ _ (by omega) R0).mono ?_
      rintro e w6 ⟨T6, tc6, rfl, FT6, B6⟩
      replace R0 := R0.new B6
      replace R1 := R1.new B6
      replace FP5_0 := FP5_0.new B6
      replace G := below_trans G B6 (Nat.le_refl _)
      have S6 := Lib.hid B6.size
      clear B6
      go_wp2_with fail
      refine (to_edit l1 A1 n1 c1 _ _ _ (by omega) R1).mono ?_
      rintro e w7 ⟨T7, tc7, rfl, FT7, B7⟩
      replace R0 := R0.new B7
      replace R1 := R1.new B7
      replace FP5_0 := FP5_0.new B7
      replace FT6 := FT6.new B7
      replace G := below_trans G B7 (Nat.le_refl _)
      have S7 := Lib.hid B7.size
      clear B7
      go_wp2_with fail
      refine (impl_LostWith l0 T6 n0 tc6 _ _ l1 T7 n1 tc7 _ _ a2 _ (by omega) FT6.rd H0 (by omega) FT7.rd H1 Wf2.out).mono ?_
      rintro e w8 ⟨P8_0, pc8_0, rfl, FP8_0, B8⟩
      replace R0 := R0.new B8
      replace R1 := R1.new B8
      replace FP5_0 := FP5_0.new B8
      replace FT6 := FT6.new B8
      replace FT7 := FT7.new B8
      replace G := below_trans G B8 (Nat.le_refl _)
      have S8 := Lib.hid B8.size
      clear B8
      go_wp2_with fail
      refine (eq_int_same (mLost l0 l1 a2) P8_0 P5_0 _ _ pc8_0 pc5_0 _ _ _ _ _ (by omega) (by omega) FP8_0.rd FP5_0.rd).mono ?_
      rintro e w9 hq
      obtain ⟨rfl, B9⟩ := hq.says
      replace R0 := R0.new B9
      replace R1 := R1.new B9
      replace FP5_0 := FP5_0.new B9
      replace FT6 := FT6.new B9
      replace FT7 := FT7.new B9
      replace FP8_0 := FP8_0.new B9
      replace G := below_trans G B9 (Nat.le_refl _)
      have S9 := Lib.hid B9.size
      clear B9
      go_wp2_with fail
      refine (to_node l0 A0 n0 c0 _ _ _ (by omega) R0).mono ?_
      rintro e w10 ⟨T10, tc10, rfl, FT10, B10⟩
      replace R0 := R0.new B10
      replace R1 := R1.new B10
      replace FP5_0 := FP5_0.new B10
      replace FT6 := FT6.new B10
      replace FT7 := FT7.new B10
      replace FP8_0 := FP8_0.new B10
      replace G := below_trans G B10 (Nat.le_refl _)
      have S10 := Lib.hid B10.size
      clear B10
      go_wp2_with fail
      refine (eq_node_same l0 T6 T10 n0 n0 tc6 tc10 _ _ _ _ _ (by omega) (by omega) FT6.rd FT10.rd).mono ?_
      rintro e w11 ⟨rfl, B11⟩
      replace R0 := R0.new B11
      replace R1 := R1.new B11
      replace FP5_0 := FP5_0.new B11
      replace FT6 := FT6.new B11
      replace FT7 := FT7.new B11
      replace FP8_0 := FP8_0.new B11
      replace FT10 := FT10.new B11
      replace G := below_trans G B11 (Nat.le_refl _)
      have S11 := Lib.hid B11.size
      clear B11
      clear FT10
      go_wp2_with fail
      refine (to_edit l1 A1 n1 c1 _ _ _ (by omega) R1).mono ?_
      rintro e w12 ⟨T12, tc12, rfl, FT12, B12⟩
      replace R0 := R0.new B12
      replace R1 := R1.new B12
      replace FP5_0 := FP5_0.new B12
      replace FT6 := FT6.new B12
      replace FT7 := FT7.new B12
      replace FP8_0 := FP8_0.new B12
      replace G := below_trans G B12 (Nat.le_refl _)
      have S12 := Lib.hid B12.size
      clear B12
      go_wp2_with fail
      refine (eq_edit_same l1 T7 T12 n1 n1 tc7 tc12 _ _ _ _ _ (by omega) (by omega) FT7.rd FT12.rd).mono ?_
      rintro e w13 ⟨rfl, B13⟩
      replace R0 := R0.new B13
      replace R1 := R1.new B13
      replace FP5_0 := FP5_0.new B13
      replace FT6 := FT6.new B13
      replace FT7 := FT7.new B13
      replace FP8_0 := FP8_0.new B13
      replace FT12 := FT12.new B13
      replace G := below_trans G B13 (Nat.le_refl _)
      have S13 := Lib.hid B13.size
      clear B13
      clear FT12
      go_wp2_with fail
      refine (mark_node _ T6 n0 tc6 _ _ (1) _ (by omega) (by omega) FT6).mono ?_
      rintro e w14 ⟨rfl, FM14, C14, E14⟩
      replace R0 := R0.chg C14 (by have := S1.out; have := S2.out; have := S3.out; have := S4.out; have := S5.out; have := S6.out; have := S7.out; have := S8.out; have := S9.out; have := S10.out; have := S11.out; have := S12.out; have := S13.out; omega)
      replace R1 := R1.chg C14 (by have := S1.out; have := S2.out; have := S3.out; have := S4.out; have := S5.out; have := S6.out; have := S7.out; have := S8.out; have := S9.out; have := S10.out; have := S11.out; have := S12.out; have := S13.out; omega)
      replace FP5_0 := FP5_0.chg C14 (by have := S1.out; have := S2.out; have := S3.out; have := S4.out; have := S5.out; have := S6.out; have := S7.out; have := S8.out; have := S9.out; have := S10.out; have := S11.out; have := S12.out; have := S13.out; omega)
      replace FT7 := FT7.chg C14 (by have := S1.out; have := S2.out; have := S3.out; have := S4.out; have := S5.out; have := S6.out; have := S7.out; have := S8.out; have := S9.out; have := S10.out; have := S11.out; have := S12.out; have := S13.out; omega)
      replace FP8_0 := FP8_0.chg C14 (by have := S1.out; have := S2.out; have := S3.out; have := S4.out; have := S5.out; have := S6.out; have := S7.out; have := S8.out; have := S9.out; have := S10.out; have := S11.out; have := S12.out; have := S13.out; omega)
      replace G := G.trans (C14.below (.inl (by have := S1.out; have := S2.out; have := S3.out; have := S4.out; have := S5.out; have := S6.out; have := S7.out; have := S8.out; have := S9.out; have := S10.out; have := S11.out; have := S12.out; have := S13.out; omega)) (by have := S1.out; have := S2.out; have := S3.out; have := S4.out; have := S5.out; have := S6.out; have := S7.out; have := S8.out; have := S9.out; have := S10.out; have := S11.out; have := S12.out; have := S13.out; omega))
      clear FT6
      have S14 := Lib.hid (show w14.heap.size = w13.heap.size from E14)
      clear E14
      clear C14
      go_wp2_with fail
      refine (mark_edit _ T7 n1 tc7 _ _ (1 + n0 * 5) _ (by omega) (by omega) FT7).mono ?_
      rintro e w15 ⟨rfl, FM15, C15, E15⟩
      replace R0 := R0.chg C15 (by have := S1.out; have := S2.out; have := S3.out; have := S4.out; have := S5.out; have := S6.out; have := S7.out; have := S8.out; have := S9.out; have := S10.out; have := S11.out; have := S12.out; have := S13.out; have := S14.out; omega)
      replace R1 := R1.chg C15 (by have := S1.out; have := S2.out; have := S3.out; have := S4.out; have := S5.out; have := S6.out; have := S7.out; have := S8.out; have := S9.out; have := S10.out; have := S11.out; have := S12.out; have := S13.out; have := S14.out; omega)
      replace FP5_0 := FP5_0.chg C15 (by have := S1.out; have := S2.out; have := S3.out; have := S4.out; have := S5.out; have := S6.out; have := S7.out; have := S8.out; have := S9.out; have := S10.out; have := S11.out; have := S12.out; have := S13.out; have := S14.out; omega)
      replace FP8_0 := FP8_0.chg C15 (by have := S1.out; have := S2.out; have := S3.out; have := S4.out; have := S5.out; have := S6.out; have := S7.out; have := S8.out; have := S9.out; have := S10.out; have := S11.out; have := S12.out; have := S13.out; have := S14.out; omega)
      replace FM14 := FM14.chg C15 (by have := S1.out; have := S2.out; have := S3.out; have := S4.out; have := S5.out; have := S6.out; have := S7.out; have := S8.out; have := S9.out; have := S10.out; have := S11.out; have := S12.out; have := S13.out; have := S14.out; omega)
      replace G := G.trans (C15.below (.inl (by have := S1.out; have := S2.out; have := S3.out; have := S4.out; have := S5.out; have := S6.out; have := S7.out; have := S8.out; have := S9.out; have := S10.out; have := S11.out; have := S12.out; have := S13.out; have := S14.out; omega)) (by have := S1.out; have := S2.out; have := S3.out; have := S4.out; have := S5.out; have := S6.out; have := S7.out; have := S8.out; have := S9.out; have := S10.out; have := S11.out; have := S12.out; have := S13.out; have := S14.out; omega))
      clear FT7
      have S15 := Lib.hid (show w15.heap.size = w14.heap.size from E15)
      clear E15
      clear C15
      clear FM14
      clear FM15
      go_wp2_with fail
      refine (eq_int_same (mLost l0 l1 a2) P8_0 P5_0 _ _ pc8_0 pc5_0 _ _ _ _ _ (by omega) (by omega) FP8_0.rd FP5_0.rd).mono ?_
      rintro e w16 hq
      obtain ⟨rfl, B16⟩ := hq.says
      replace R0 := R0.new B16
      replace R1 := R1.new B16
      replace FP5_0 := FP5_0.new B16
      replace FP8_0 := FP8_0.new B16
      replace G := below_trans G B16 (Nat.le_refl _)
      have S16 := Lib.hid B16.size
      clear B16
      go_wp2_with fail
      refine (mark_int _ P8_0 _ pc8_0 _ _ (1) _ (by omega) (by omega) FP8_0).mono ?_
      rintro e w17 ⟨rfl, FM17, C17, E17⟩
      replace R0 := R0.chg C17 (by have := S1.out; have := S2.out; have := S3.out; have := S4.out; have := S5.out; have := S6.out; have := S7.out; have := S8.out; have := S9.out; have := S10.out; have := S11.out; have := S12.out; have := S13.out; have := S14.out; have := S15.out; have := S16.out; omega)
      replace R1 := R1.chg C17 (by have := S1.out; have := S2.out; have := S3.out; have := S4.out; have := S5.out; have := S6.out; have := S7.out; have := S8.out; have := S9.out; have := S10.out; have := S11.out; have := S12.out; have := S13.out; have := S14.out; have := S15.out; have := S16.out; omega)
      replace FP5_0 := FP5_0.chg C17 (by have := S1.out; have := S2.out; have := S3.out; have := S4.out; have := S5.out; have := S6.out; have := S7.out; have := S8.out; have := S9.out; have := S10.out; have := S11.out; have := S12.out; have := S13.out; have := S14.out; have := S15.out; have := S16.out; omega)
      replace G := G.trans (C17.below (.inl (by have := S1.out; have := S2.out; have := S3.out; have := S4.out; have := S5.out; have := S6.out; have := S7.out; have := S8.out; have := S9.out; have := S10.out; have := S11.out; have := S12.out; have := S13.out; have := S14.out; have := S15.out; have := S16.out; omega)) (by have := S1.out; have := S2.out; have := S3.out; have := S4.out; have := S5.out; have := S6.out; have := S7.out; have := S8.out; have := S9.out; have := S10.out; have := S11.out; have := S12.out; have := S13.out; have := S14.out; have := S15.out; have := S16.out; omega))
      clear FP8_0
      have S17 := Lib.hid (show w17.heap.size = w16.heap.size from E17)
      clear E17
      clear C17
      go_wp2_with fail
      refine (held_int P8_0 _ pc8_0 _ _ (1) _ (by omega) (by omega) FM17.rd).mono ?_
      rintro e w18 hq
      obtain ⟨rfl, B18⟩ := hq.says
      replace R0 := R0.new B18
      replace R1 := R1.new B18
      replace FP5_0 := FP5_0.new B18
      replace FM17 := FM17.new B18
      replace G := below_trans G B18 (Nat.le_refl _)
      have S18 := Lib.hid B18.size
      clear B18
      go_wp2_with fail
      refine (to_node l0 A0 n0 c0 _ _ _ (by omega) R0).mono ?_
      rintro e w19 ⟨T19, tc19, rfl, FT19, B19⟩
      replace R0 := R0.new B19
      replace R1 := R1.new B19
      replace FP5_0 := FP5_0.new B19
      replace FM17 := FM17.new B19
      replace G := below_trans G B19 (Nat.le_refl _)
      have S19 := Lib.hid B19.size
      clear B19
      go_wp2_with fail
      refine (to_edit l1 A1 n1 c1 _ _ _ (by omega) R1).mono ?_
      rintro e w20 ⟨T20, tc20, rfl, FT20, B20⟩
      replace R0 := R0.new B20
      replace R1 := R1.new B20
      replace FP5_0 := FP5_0.new B20
      replace FM17 := FM17.new B20
      replace FT19 := FT19.new B20
      replace G := below_trans G B20 (Nat.le_refl _)
      have S20 := Lib.hid B20.size
      clear B20
      go_wp2_with fail
      refine (impl_LostWith l0 T19 n0 tc19 _ _ l1 T20 n1 tc20 _ _ a2 _ (by omega) FT19.rd H0 (by omega) FT20.rd H1 Wf2.out).mono ?_
      rintro e w21 ⟨P21_0, pc21_0, rfl, FP21_0, B21⟩
      replace R0 := R0.new B21
      replace R1 := R1.new B21
      replace FP5_0 := FP5_0.new B21
      replace FM17 := FM17.new B21
      replace FT19 := FT19.new B21
      replace FT20 := FT20.new B21
      replace G := below_trans G B21 (Nat.le_refl _)
      have S21 := Lib.hid B21.size
      clear B21
      clear FT19
      clear FT20
      go_wp2_with fail
      refine (eq_int_same (mLost l0 l1 a2) P21_0 P5_0 _ _ pc21_0 pc5_0 _ _ _ _ _ (by omega) (by omega) FP21_0.rd FP5_0.rd).mono ?_
      rintro e w22 hq
      obtain ⟨rfl, B22⟩ := hq.says
      replace R0 := R0.new B22
      replace R1 := R1.new B22
      replace FP5_0 := FP5_0.new B22
      replace FM17 := FM17.new B22
      replace FP21_0 := FP21_0.new B22
      replace G := below_trans G B22 (Nat.le_refl _)
      have S22 := Lib.hid B22.size
      clear B22
      go_wp2_with fail
      refine (held_int P8_0 _ pc8_0 _ _ (1) _ (by omega) (by omega) FM17.rd).mono ?_
      rintro e w23 hq
      obtain ⟨rfl, B23⟩ := hq.says
      replace R0 := R0.new B23
      replace R1 := R1.new B23
      replace FP5_0 := FP5_0.new B23
      replace FM17 := FM17.new B23
      replace FP21_0 := FP21_0.new B23
      replace G := below_trans G B23 (Nat.le_refl _)
      have S23 := Lib.hid B23.size
      clear B23
      go_wp2_with fail
      go_ret
      exact ⟨rfl, G⟩
    · skip
      go_enter Tryz.func3, Tryz.ntmps3
      go_wp2_with fail
      refine (sz_node A0 n0 c0 (1048576) _ hm0 (by omega) (by omega)).mono ?_
      rintro e w1 hq
      obtain ⟨rfl, B24⟩ := hq.says
      have G := B24
      have S1 := Lib.hid B24.size
      clear B24
      go_wp2_with fail
      refine (szno_edit A1 n1 c1 (1048576 - (n0 : Int)) _ hm1 (by omega) (by omega) (by omega)).mono ?_
      rintro e w2 hq
      obtain ⟨rfl, B25⟩ := hq.says
      replace G := below_trans G B25 (Nat.le_refl _)
      have S2 := Lib.hid B25.size
      clear B25
      go_wp2_with fail
      go_ret
      exact ⟨rfl, G⟩
  · skip
    go_enter Tryz.func3, Tryz.ntmps3
    go_wp2_with fail
    refine (szno_node A0 n0 c0 (1048576) _ hm0 (by omega) (by omega) (by omega)).mono ?_
    rintro e w1 hq
    obtain ⟨rfl, B26⟩ := hq.says
    have G := B26
    have S1 := Lib.hid B26.size
    clear B26
    go_wp2_with fail
    go_ret
    exact ⟨rfl, G⟩

set_option maxRecDepth 100000 in
theorem lifted (os : Os) (started : os.Started) (H : Type) (enc : TypeId × Value → H) :
    ReturnsInHanded {} Tryz.checked os 3 .any (Rows.fnExactLostWithSpec.pre6 enc Tryz.prog Tryz.f3 Rows.fnExactLostWithRow.domain false) (Rows.fnExactLostWithSpec.post enc Tryz.prog Tryz.f3 false true false false) := by
  refine law_lifted Tryz.func3 (by kernel_rfl) rfl rfl (by kernel_rfl) os started
    (ChangeSpec.witness6 (enc := enc) (C := Tryz.checked) false ⟨#[], #[.slice none 0 0, .slice none 0 0, .int .i64 0], []⟩ 8 (by kernel_rfl) (by kernel_rfl) (by kernel_rfl) (by kernel_rfl)) ?_
  intro W base args ds p hval hA hlt
  rw [Tryz.params3] at hA hval
  obtain ⟨v0, vs0, d0, ds0, p0, q0, hargs, rfl, rfl, h0, r0⟩ := trodAll_cons hA
  obtain ⟨v1, vs1, d1, ds1, p1, q1, rfl, rfl, rfl, h1, r1⟩ := trodAll_cons r0
  obtain ⟨v2, vs2, d2, ds2, p2, q2, rfl, rfl, rfl, h2, r2⟩ := trodAll_cons r1
  obtain ⟨rfl, rfl, rfl⟩ := trodAll_nil r2
  obtain rfl : args = #[v0, v1, v2] := by cases args; simp_all
  obtain ⟨A0, n0, c0, l0, rfl, m0, R0, H0⟩ := open_node_list (hval 0 22 v0 rfl rfl) h0 (fun x hx => hlt x (by simp [hx]))
  obtain ⟨A1, n1, c1, l1, rfl, m1, R1, H1⟩ := open_edit_list (hval 1 23 v1 rfl rfl) h1 (fun x hx => hlt x (by simp [hx]))
  obtain ⟨a2, rfl, rfl, rfl, wf2⟩ := open_int Tryz.underlying3 (hval 2 3 v2 rfl rfl) h2
  exact ⟨⟨rfl, rfl, rfl⟩, walk l0 A0 n0 c0 l1 A1 n1 c1 a2 W m0 R0 H0 m1 R1 H1 wf2⟩

set_option maxRecDepth 100000 in
set_option maxHeartbeats 8000000 in
theorem closed : joinedFacts Tryz.pinned.checked.prog 3 Tryz.f3 Rows.fnExactLostWithSpec Rows.fnExactLostWithRow = true :=
  (and_i (and_i (and_i (and_i (and_i (and_i (and_i (and_i (and_i (and_i (and_i (and_i (and_i (and_i (and_i (and_i (and_i (and_i (and_i (and_i (and_i (and_i (and_i (and_i (and_i (and_i (and_i (and_i (and_i (and_i (and_i (by as_aux_lemma => kernel_rfl) seatLaid) sf_maps) (by as_aux_lemma => kernel_rfl)) (by as_aux_lemma => kernel_rfl)) (by as_aux_lemma => kernel_rfl)) (by as_aux_lemma => kernel_rfl)) (by as_aux_lemma => kernel_rfl)) (by as_aux_lemma => kernel_rfl)) (by as_aux_lemma => kernel_rfl)) (by as_aux_lemma => kernel_rfl)) (by as_aux_lemma => kernel_rfl)) (by as_aux_lemma => kernel_rfl)) (by as_aux_lemma => kernel_rfl)) (by as_aux_lemma => kernel_rfl)) (by as_aux_lemma => kernel_rfl)) (by as_aux_lemma => kernel_rfl)) (by as_aux_lemma => kernel_rfl)) (by as_aux_lemma => kernel_rfl)) (by as_aux_lemma => kernel_rfl)) (by as_aux_lemma => kernel_rfl)) (by as_aux_lemma => kernel_rfl)) sf_plain) (by as_aux_lemma => kernel_rfl)) sf_heard) sf_enter) sf_lifts) sf_make) (by as_aux_lemma => kernel_rfl)) (by as_aux_lemma => kernel_rfl)) (by as_aux_lemma => kernel_rfl)) (by as_aux_lemma => kernel_rfl))

theorem over : Rows.fnExactLostWithRow.holds Tryz.pinned (OpenSpec.ofChange Rows.fnExactLostWithSpec) :=
  OpenClaim.holds_of_wide 3 Tryz.f3 rfl rfl rfl rfl rfl rfl rfl ⟨rfl, rfl, rfl, rfl, rfl⟩ rfl rfl rfl rfl rfl (by kernel_rfl) Tryz.func3 closed
    (of_decide_eq_true (by kernel_rfl)) (by unfold Func.isWrapper; first | (rw [if_pos (by decide +kernel)]; kernel_rfl) | (rw [if_neg (by decide +kernel)]; exact ⟨rfl, rfl⟩))
    (fun os started H enc _ => lifted os started H enc)

theorem proved : Rows.FnExactLostWithSaid := over
#print axioms proved
end Go.Proofs.YtejcioenoofjlaaGreat.fnExactLostWith
