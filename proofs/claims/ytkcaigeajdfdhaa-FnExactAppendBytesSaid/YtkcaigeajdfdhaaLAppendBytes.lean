/- The law FnExactAppendBytes answers true for every argument, and leaves each argument as it was. No condition. -/
import Derived.Test.YtkcaigeajdfdhaaSlB
import Derived.Test.YtkcaigeajdfdhaaAppB
namespace Go.Proofs.Ytkcaigeajdfdhaa.fnExactAppendBytes
open Go Go.ChangeShapes Go.WideShapes Go.ChangeAt Go.RowKit Go.Lib
open Go.ChangeMaps (open_string)
set_option linter.unusedVariables false
set_option maxRecDepth 100000

set_option maxRecDepth 100000 in
set_option maxHeartbeats 1000000 in
theorem walk (l0 : List Int) (A0 : Option Addr) (n0 c0 : Nat) (l1 : List Int) (A1 : Option Addr) (n1 c1 : Nat) (w : World) (hm0 : n0 ≤ maxLen) (R0 : Rd w 0 w.heap.size 1 A0 n0 (u8s l0)) (H0 : Hid (U8s l0)) (hm1 : n1 ≤ maxLen) (R1 : Rd w 0 w.heap.size 1 A1 n1 (u8s l1)) (H1 : Hid (U8s l1)) :
    Calls Try.prog 7 #[.slice A0 n0 c0, .slice A1 n1 c1] w fun e w' => e = .returned (.bool true) ∧ Below w.heap.size w w' := by
  have hm0 : n0 ≤ 9223372036854775807 := hm0
  have hm1 : n1 ≤ 9223372036854775807 := hm1
  by_cases hn0 : n0 ≤ 1048576
  · skip
    by_cases hn1 : n1 ≤ 1048576
    · skip
      have hl0 : (mAppB l0 l1).length ≤ 17179869184 := by (have := mAppB_len l0 l1; have := R0.1; have := R1.1; simp at *; omega)
      go_enter Try.func7, Try.ntmps7
      go_wp2_with fail
      refine (to_byte l0 A0 n0 c0 _ _ _ (by omega) R0).mono ?_
      rintro e w1 ⟨T1, tc1, rfl, FT1, B1⟩
      replace R0 := R0.new B1
      replace R1 := R1.new B1
      have G := B1
      have S1 := Lib.hid B1.size
      clear B1
      go_wp2_with fail
      refine (to_byte l1 A1 n1 c1 _ _ _ (by omega) R1).mono ?_
      rintro e w2 ⟨T2, tc2, rfl, FT2, B2⟩
      replace R0 := R0.new B2
      replace R1 := R1.new B2
      replace FT1 := FT1.new B2
      replace G := below_trans G B2 (Nat.le_refl _)
      have S2 := Lib.hid B2.size
      clear B2
      go_wp2_with fail
      refine (spec_AppendBytes l0 T1 n0 tc1 _ _ l1 T2 n1 tc2 _ _ _ (by omega) FT1.rd H0 (by omega) FT2.rd H1).mono ?_
      rintro e w3 ⟨P3_0, pc3_0, rfl, FP3_0, B3⟩
      replace R0 := R0.new B3
      replace R1 := R1.new B3
      replace FT1 := FT1.new B3
      replace FT2 := FT2.new B3
      replace G := below_trans G B3 (Nat.le_refl _)
      have S3 := Lib.hid B3.size
      clear B3
      clear FT1
      clear FT2
      go_wp2_with fail
      refine (to_byte l0 A0 n0 c0 _ _ _ (by omega) R0).mono ?_
      rintro e w4 ⟨T4, tc4, rfl, FT4, B4⟩
      replace R0 := R0.new B4
      replace R1 := R1.new B4
      replace FP3_0 := FP3_0.new B4
      replace G := below_trans G B4 (Nat.le_refl _)
      have S4 := Lib.hid B4.size
      clear B4
      go_wp2_with fail
      refine (to_byte l1 A1 n1 c1 _ _ _ (by omega) R1).mono ?_
      rintro e w5 ⟨T5, tc5, rfl, FT5, B5⟩
      replace R0 := R0.new B5
      replace R1 := R1.new B5
      replace FP3_0 := FP3_0.new B5
      replace FT4 := FT4.new B5
      replace G := below_trans G B5 (Nat.le_refl _)
      have S5 := Lib.hid B5.size
      clear B5
      go_wp2_with fail
      refine (impl_AppendBytes l0 T4 n0 tc4 _ _ l1 T5 n1 tc5 _ _ _ (by omega) FT4.rd H0 (by omega) FT5.rd H1).mono ?_
      rintro e w6 ⟨P6_0, pc6_0, rfl, FP6_0, B6⟩
      replace R0 := R0.new B6
      replace R1 := R1.new B6
      replace FP3_0 := FP3_0.new B6
      replace FT4 := FT4.new B6
      replace FT5 := FT5.new B6
      replace G := below_trans G B6 (Nat.le_refl _)
      have S6 := Lib.hid B6.size
      clear B6
      go_wp2_with fail
      refine (eq_byte_same (mAppB l0 l1) P6_0 P3_0 _ _ pc6_0 pc3_0 _ _ _ _ _ (by omega) (by omega) FP6_0.rd FP3_0.rd).mono ?_
      rintro e w7 hq
      obtain ⟨rfl, B7⟩ := hq.says
      replace R0 := R0.new B7
      replace R1 := R1.new B7
      replace FP3_0 := FP3_0.new B7
      replace FT4 := FT4.new B7
      replace FT5 := FT5.new B7
      replace FP6_0 := FP6_0.new B7
      replace G := below_trans G B7 (Nat.le_refl _)
      have S7 := Lib.hid B7.size
      clear B7
      go_wp2_with fail
      refine (to_byte l0 A0 n0 c0 _ _ _ (by omega) R0).mono ?_
      rintro e w8 ⟨T8, tc8, rfl, FT8, B8⟩
      replace R0 := R0.new B8
      replace R1 := R1.new B8
      replace FP3_0 := FP3_0.new B8
      replace FT4 := FT4.new B8
      replace FT5 := FT5.new B8
      replace FP6_0 := FP6_0.new B8
      replace G := below_trans G B8 (Nat.le_refl _)
      have S8 := Lib.hid B8.size
      clear B8
      go_wp2_with fail
      refine (eq_byte_same l0 T4 T8 n0 n0 tc4 tc8 _ _ _ _ _ (by omega) (by omega) FT4.rd FT8.rd).mono ?_
      rintro e w9 hq
      obtain ⟨rfl, B9⟩ := hq.says
      replace R0 := R0.new B9
      replace R1 := R1.new B9
      replace FP3_0 := FP3_0.new B9
      replace FT4 := FT4.new B9
      replace FT5 := FT5.new B9
      replace FP6_0 := FP6_0.new B9
      replace FT8 := FT8.new B9
      replace G := below_trans G B9 (Nat.le_refl _)
      have S9 := Lib.hid B9.size
      clear B9
      clear FT8
      go_wp2_with fail
      refine (to_byte l1 A1 n1 c1 _ _ _ (by omega) R1).mono ?_
      rintro e w10 ⟨T10, tc10, rfl, FT10, B10⟩
      replace R0 := R0.new B10
      replace R1 := R1.new B10
      replace FP3_0 := FP3_0.new B10
      replace FT4 := FT4.new B10
      replace FT5 := FT5.new B10
      replace FP6_0 := FP6_0.new B10
      replace G := below_trans G B10 (Nat.le_refl _)
      have S10 := Lib.hid B10.size
      clear B10
      go_wp2_with fail
      refine (eq_byte_same l1 T5 T10 n1 n1 tc5 tc10 _ _ _ _ _ (by omega) (by omega) FT5.rd FT10.rd).mono ?_
      rintro e w11 hq
      obtain ⟨rfl, B11⟩ := hq.says
      replace R0 := R0.new B11
      replace R1 := R1.new B11
      replace FP3_0 := FP3_0.new B11
      replace FT4 := FT4.new B11
      replace FT5 := FT5.new B11
      replace FP6_0 := FP6_0.new B11
      replace FT10 := FT10.new B11
      replace G := below_trans G B11 (Nat.le_refl _)
      have S11 := Lib.hid B11.size
      clear B11
      clear FT10
      go_wp2_with fail
      refine (mark_byte _ T4 n0 tc4 _ _ (1) _ (by omega) (by omega) FT4).mono ?_
      rintro e w12 ⟨rfl, FM12, C12, E12⟩
      replace R0 := R0.chg C12 (by have := S1.out; have := S2.out; have := S3.out; have := S4.out; have := S5.out; have := S6.out; have := S7.out; have := S8.out; have := S9.out; have := S10.out; have := S11.out; omega)
      replace R1 := R1.chg C12 (by have := S1.out; have := S2.out; have := S3.out; have := S4.out; have := S5.out; have := S6.out; have := S7.out; have := S8.out; have := S9.out; have := S10.out; have := S11.out; omega)
      replace FP3_0 := FP3_0.chg C12 (by have := S1.out; have := S2.out; have := S3.out; have := S4.out; have := S5.out; have := S6.out; have := S7.out; have := S8.out; have := S9.out; have := S10.out; have := S11.out; omega)
      replace FT5 := FT5.chg C12 (by have := S1.out; have := S2.out; have := S3.out; have := S4.out; have := S5.out; have := S6.out; have := S7.out; have := S8.out; have := S9.out; have := S10.out; have := S11.out; omega)
      replace FP6_0 := FP6_0.chg C12 (by have := S1.out; have := S2.out; have := S3.out; have := S4.out; have := S5.out; have := S6.out; have := S7.out; have := S8.out; have := S9.out; have := S10.out; have := S11.out; omega)
      replace G := G.trans (C12.below (.inl (by have := S1.out; have := S2.out; have := S3.out; have := S4.out; have := S5.out; have := S6.out; have := S7.out; have := S8.out; have := S9.out; have := S10.out; have := S11.out; omega)) (by have := S1.out; have := S2.out; have := S3.out; have := S4.out; have := S5.out; have := S6.out; have := S7.out; have := S8.out; have := S9.out; have := S10.out; have := S11.out; omega))
      clear FT4
      have S12 := Lib.hid (show w12.heap.size = w11.heap.size from E12)
      clear E12
      clear C12
      go_wp2_with fail
      refine (mark_byte _ T5 n1 tc5 _ _ (1 + n0) _ (by omega) (by omega) FT5).mono ?_
      rintro e w13 ⟨rfl, FM13, C13, E13⟩
      replace R0 := R0.chg C13 (by have := S1.out; have := S2.out; have := S3.out; have := S4.out; have := S5.out; have := S6.out; have := S7.out; have := S8.out; have := S9.out; have := S10.out; have := S11.out; have := S12.out; omega)
      replace R1 := R1.chg C13 (by have := S1.out; have := S2.out; have := S3.out; have := S4.out; have := S5.out; have := S6.out; have := S7.out; have := S8.out; have := S9.out; have := S10.out; have := S11.out; have := S12.out; omega)
      replace FP3_0 := FP3_0.chg C13 (by have := S1.out; have := S2.out; have := S3.out; have := S4.out; have := S5.out; have := S6.out; have := S7.out; have := S8.out; have := S9.out; have := S10.out; have := S11.out; have := S12.out; omega)
      replace FP6_0 := FP6_0.chg C13 (by have := S1.out; have := S2.out; have := S3.out; have := S4.out; have := S5.out; have := S6.out; have := S7.out; have := S8.out; have := S9.out; have := S10.out; have := S11.out; have := S12.out; omega)
      replace FM12 := FM12.chg C13 (by have := S1.out; have := S2.out; have := S3.out; have := S4.out; have := S5.out; have := S6.out; have := S7.out; have := S8.out; have := S9.out; have := S10.out; have := S11.out; have := S12.out; omega)
      replace G := G.trans (C13.below (.inl (by have := S1.out; have := S2.out; have := S3.out; have := S4.out; have := S5.out; have := S6.out; have := S7.out; have := S8.out; have := S9.out; have := S10.out; have := S11.out; have := S12.out; omega)) (by have := S1.out; have := S2.out; have := S3.out; have := S4.out; have := S5.out; have := S6.out; have := S7.out; have := S8.out; have := S9.out; have := S10.out; have := S11.out; have := S12.out; omega))
      clear FT5
      have S13 := Lib.hid (show w13.heap.size = w12.heap.size from E13)
      clear E13
      clear C13
      clear FM12
      clear FM13
      go_wp2_with fail
      refine (eq_byte_same (mAppB l0 l1) P6_0 P3_0 _ _ pc6_0 pc3_0 _ _ _ _ _ (by omega) (by omega) FP6_0.rd FP3_0.rd).mono ?_
      rintro e w14 hq
      obtain ⟨rfl, B14⟩ := hq.says
      replace R0 := R0.new B14
      replace R1 := R1.new B14
      replace FP3_0 := FP3_0.new B14
      replace FP6_0 := FP6_0.new B14
      replace G := below_trans G B14 (Nat.le_refl _)
      have S14 := Lib.hid B14.size
      clear B14
      go_wp2_with fail
      refine (mark_byte _ P6_0 _ pc6_0 _ _ (1) _ (by omega) (by omega) FP6_0).mono ?_
      rintro e w15 ⟨rfl, FM15, C15, E15⟩
      replace R0 := R0.chg C15 (by have := S1.out; have := S2.out; have := S3.out; have := S4.out; have := S5.out; have := S6.out; have := S7.out; have := S8.out; have := S9.out; have := S10.out; have := S11.out; have := S12.out; have := S13.out; have := S14.out; omega)
      replace R1 := R1.chg C15 (by have := S1.out; have := S2.out; have := S3.out; have := S4.out; have := S5.out; have := S6.out; have := S7.out; have := S8.out; have := S9.out; have := S10.out; have := S11.out; have := S12.out; have := S13.out; have := S14.out; omega)
      replace FP3_0 := FP3_0.chg C15 (by have := S1.out; have := S2.out; have := S3.out; have := S4.out; have := S5.out; have := S6.out; have := S7.out; have := S8.out; have := S9.out; have := S10.out; have := S11.out; have := S12.out; have := S13.out; have := S14.out; omega)
      replace G := G.trans (C15.below (.inl (by have := S1.out; have := S2.out; have := S3.out; have := S4.out; have := S5.out; have := S6.out; have := S7.out; have := S8.out; have := S9.out; have := S10.out; have := S11.out; have := S12.out; have := S13.out; have := S14.out; omega)) (by have := S1.out; have := S2.out; have := S3.out; have := S4.out; have := S5.out; have := S6.out; have := S7.out; have := S8.out; have := S9.out; have := S10.out; have := S11.out; have := S12.out; have := S13.out; have := S14.out; omega))
      clear FP6_0
      have S15 := Lib.hid (show w15.heap.size = w14.heap.size from E15)
      clear E15
      clear C15
      go_wp2_with fail
      refine (held_byte P6_0 _ pc6_0 _ _ (1) _ (by omega) (by omega) FM15.rd).mono ?_
      rintro e w16 hq
      obtain ⟨rfl, B16⟩ := hq.says
      replace R0 := R0.new B16
      replace R1 := R1.new B16
      replace FP3_0 := FP3_0.new B16
      replace FM15 := FM15.new B16
      replace G := below_trans G B16 (Nat.le_refl _)
      have S16 := Lib.hid B16.size
      clear B16
      go_wp2_with fail
      refine (to_byte l0 A0 n0 c0 _ _ _ (by omega) R0).mono ?_
      rintro e w17 ⟨T17, tc17, rfl, FT17, B17⟩
      replace R0 := R0.new B17
      replace R1 := R1.new B17
      replace FP3_0 := FP3_0.new B17
      replace FM15 := FM15.new B17
      replace G := below_trans G B17 (Nat.le_refl _)
      have S17 := Lib.hid B17.size
      clear B17
      go_wp2_with fail
      refine (to_byte l1 A1 n1 c1 _ _ _ (by omega) R1).mono ?_
      rintro e w18 ⟨T18, tc18, rfl, FT18, B18⟩
      replace R0 := R0.new B18
      replace R1 := R1.new B18
      replace FP3_0 := FP3_0.new B18
      replace FM15 := FM15.new B18
      replace FT17 := FT17.new B18
      replace G := below_trans G B18 (Nat.le_refl _)
      have S18 := Lib.hid B18.size
      clear B18
      go_wp2_with fail
      refine (impl_AppendBytes l0 T17 n0 tc17 _ _ l1 T18 n1 tc18 _ _ _ (by omega) FT17.rd H0 (by omega) FT18.rd H1).mono ?_
      rintro e w19 ⟨P19_0, pc19_0, rfl, FP19_0, B19⟩
      replace R0 := R0.new B19
      replace R1 := R1.new B19
      replace FP3_0 := FP3_0.new B19
      replace FM15 := FM15.new B19
      replace FT17 := FT17.new B19
      replace FT18 := FT18.new B19
      replace G := below_trans G B19 (Nat.le_refl _)
      have S19 := Lib.hid B19.size
      clear B19
      clear FT17
      clear FT18
      go_wp2_with fail
      refine (eq_byte_same (mAppB l0 l1) P19_0 P3_0 _ _ pc19_0 pc3_0 _ _ _ _ _ (by omega) (by omega) FP19_0.rd FP3_0.rd).mono ?_
      rintro e w20 hq
      obtain ⟨rfl, B20⟩ := hq.says
      replace R0 := R0.new B20
      replace R1 := R1.new B20
      replace FP3_0 := FP3_0.new B20
      replace FM15 := FM15.new B20
      replace FP19_0 := FP19_0.new B20
      replace G := below_trans G B20 (Nat.le_refl _)
      have S20 := Lib.hid B20.size
      clear B20
      go_wp2_with fail
      refine (held_byte P6_0 _ pc6_0 _ _ (1) _ (by omega) (by omega) FM15.rd).mono ?_
      rintro e w21 hq
      obtain ⟨rfl, B21⟩ := hq.says
      replace R0 := R0.new B21
      replace R1 := R1.new B21
      replace FP3_0 := FP3_0.new B21
      replace FM15 := FM15.new B21
      replace FP19_0 := FP19_0.new B21
      replace G := below_trans G B21 (Nat.le_refl _)
      have S21 := Lib.hid B21.size
      clear B21
      go_wp2_with fail
      go_ret
      exact ⟨rfl, G⟩
    · go_enter Try.func7, Try.ntmps7
      go_wp2_with fail
      go_ret
      exact ⟨rfl, by repeat (first | exact Below.refl _ _ | (refine Below.alloc ?_ (by simp <;> omega) _))⟩
  · go_enter Try.func7, Try.ntmps7
    go_wp2_with fail
    go_ret
    exact ⟨rfl, by repeat (first | exact Below.refl _ _ | (refine Below.alloc ?_ (by simp <;> omega) _))⟩

set_option maxRecDepth 100000 in
theorem lifted (os : Os) (started : os.Started) (H : Type) (enc : TypeId × Value → H) :
    ReturnsInHanded {} Try.checked os 7 .any (Rows.fnExactAppendBytesSpec.pre6 enc Try.prog Try.f7 Rows.fnExactAppendBytesRow.domain false) (Rows.fnExactAppendBytesSpec.post enc Try.prog Try.f7 false true false false) := by
  refine law_lifted Try.func7 (by kernel_rfl) rfl rfl (by kernel_rfl) os started
    (ChangeSpec.witness6 (enc := enc) (C := Try.checked) false ⟨#[], #[.slice none 0 0, .slice none 0 0], []⟩ 8 (by kernel_rfl) (by kernel_rfl) (by kernel_rfl) (by kernel_rfl)) ?_
  intro W base args ds p hval hA hlt
  rw [Try.params7] at hA hval
  obtain ⟨v0, vs0, d0, ds0, p0, q0, hargs, rfl, rfl, h0, r0⟩ := trodAll_cons hA
  obtain ⟨v1, vs1, d1, ds1, p1, q1, rfl, rfl, rfl, h1, r1⟩ := trodAll_cons r0
  obtain ⟨rfl, rfl, rfl⟩ := trodAll_nil r1
  obtain rfl : args = #[v0, v1] := by cases args; simp_all
  obtain ⟨A0, n0, c0, l0, rfl, m0, R0, H0⟩ := open_byte_list (hval 0 22 v0 rfl rfl) h0 (fun x hx => hlt x (by simp [hx]))
  obtain ⟨A1, n1, c1, l1, rfl, m1, R1, H1⟩ := open_byte_list (hval 1 22 v1 rfl rfl) h1 (fun x hx => hlt x (by simp [hx]))
  exact ⟨⟨rfl, rfl, rfl⟩, walk l0 A0 n0 c0 l1 A1 n1 c1 W m0 R0 H0 m1 R1 H1⟩

theorem over : Rows.fnExactAppendBytesRow.holds Try.pinned (OpenSpec.ofChange Rows.fnExactAppendBytesSpec) :=
  OpenClaim.holds_of_wide 7 Try.f7 rfl rfl rfl rfl rfl rfl rfl ⟨rfl, rfl, rfl, rfl, rfl⟩ rfl rfl rfl rfl rfl (by kernel_rfl) Try.func7 (by kernel_rfl)
    (of_decide_eq_true (by kernel_rfl)) (by unfold Func.isWrapper; first | (rw [if_pos (by decide +kernel)]; kernel_rfl) | (rw [if_neg (by decide +kernel)]; exact ⟨rfl, rfl⟩))
    (fun os started H enc _ => lifted os started H enc)

theorem proved : Rows.FnExactAppendBytesSaid := over
#print axioms proved
end Go.Proofs.Ytkcaigeajdfdhaa.fnExactAppendBytes
