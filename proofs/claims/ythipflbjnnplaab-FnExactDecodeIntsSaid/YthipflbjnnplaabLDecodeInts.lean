/- The law FnExactDecodeInts answers true for every argument, and leaves each argument as it was. No condition. -/
import Derived.Test.YthipflbjnnplaabFacts
import Derived.Test.YthipflbjnnplaabSlB
import Derived.Test.YthipflbjnnplaabSlI
import Derived.Test.YthipflbjnnplaabDeK
namespace Go.Proofs.Ythipflbjnnplaab.fnExactDecodeInts
open Go Go.ChangeShapes Go.WideShapes Go.ChangeAt Go.RowKit Go.Lib
open Go.ChangeMaps (open_string)
set_option linter.unusedVariables false
set_option linter.unusedSimpArgs false
set_option maxRecDepth 100000

theorem drw_size {W w' : World} (hb : Below W.drew.heap.size W.drew w') : W.heap.size ≤ w'.heap.size := hb.size
set_option maxRecDepth 100000 in
set_option maxHeartbeats 20000000 in
theorem walk (l0 : List Int) (A0 : Option Addr) (n0 c0 : Nat) (a1 : Int) (a2 : Int) (w : World) (hm0 : n0 ≤ maxLen) (R0 : Rd w 0 w.heap.size 1 A0 n0 (u8s l0)) (H0 : Hid (U8s l0)) (wf1 : (Lit.int .i64 a1).wf = true) (wf2 : (Lit.int .i64 a2).wf = true) :
    Calls Try.prog 12 #[.slice A0 n0 c0, .int .i64 a1, .int .i64 a2] w fun e w' => e = .returned (.bool true) ∧ Below w.heap.size w w' := by
  have hm0 : n0 ≤ 9223372036854775807 := hm0
  have Wf1 := Lib.hid wf1
  clear wf1
  have Wf2 := Lib.hid wf2
  clear wf2
  by_cases hn0 : n0 ≤ 1048576
  · skip
    have hl0 : ((mDI l0 a1 a2).xs).length ≤ 17179869184 := by (have := mDI_len l0 a1 a2; omega)
    go_enter Try.func12, Try.ntmps12
    go_wp2_with fail
    refine (to_byte l0 A0 n0 c0 _ _ _ (by omega) R0).mono ?_
    rintro e w1 ⟨T1, tc1, rfl, FT1, B1⟩
    replace R0 := R0.new B1
    have G := B1
    have S1 := Lib.hid B1.size
    clear B1
    go_wp2_with fail
    refine (spec_DecodeInts l0 T1 n0 tc1 _ _ a1 a2 _ (by omega) FT1.rd FT1.cap H0 Wf1.out Wf2.out).mono ?_
    rintro e w2 ⟨P2_0, pc2_0, rfl, FP2_0, B2⟩
    replace R0 := R0.new B2
    replace FT1 := FT1.new B2
    replace G := below_trans G B2 (Nat.le_refl _)
    have S2 := Lib.hid B2.size
    clear B2
    clear FT1
    go_wp2_with fail
    refine (to_byte l0 A0 n0 c0 _ _ _ (by omega) R0).mono ?_
    rintro e w3 ⟨T3, tc3, rfl, FT3, B3⟩
    replace R0 := R0.new B3
    replace FP2_0 := FP2_0.new B3
    replace G := below_trans G B3 (Nat.le_refl _)
    have S3 := Lib.hid B3.size
    clear B3
    go_wp2_with fail
    refine (impl_DecodeIntsC l0 T3 n0 tc3 _ _ a1 a2 _ (by omega) FT3.rd FT3.cap H0 Wf1.out Wf2.out).mono ?_
    rintro e w4 ⟨P4_0, pc4_0, rfl, FP4_0, B4⟩
    replace R0 := R0.new B4
    replace FP2_0 := FP2_0.new B4
    replace FT3 := FT3.new B4
    replace G := below_trans G B4 (Nat.le_refl _)
    have S4 := Lib.hid B4.size
    clear B4
    go_wp2_with fail
    refine (eq_int_same ((mDI l0 a1 a2).xs) P4_0 P2_0 _ _ pc4_0 pc2_0 _ _ _ _ _ (by omega) (by omega) FP4_0.rd FP2_0.rd).mono ?_
    rintro e w5 hq
    obtain ⟨rfl, B5⟩ := hq.says
    replace R0 := R0.new B5
    replace FP2_0 := FP2_0.new B5
    replace FT3 := FT3.new B5
    replace FP4_0 := FP4_0.new B5
    replace G := below_trans G B5 (Nat.le_refl _)
    have S5 := Lib.hid B5.size
    clear B5
    go_wp2_with fail
    refine (to_byte l0 A0 n0 c0 _ _ _ (by omega) R0).mono ?_
    rintro e w6 ⟨T6, tc6, rfl, FT6, B6⟩
    replace R0 := R0.new B6
    replace FP2_0 := FP2_0.new B6
    replace FT3 := FT3.new B6
    replace FP4_0 := FP4_0.new B6
    replace G := below_trans G B6 (Nat.le_refl _)
    have S6 := Lib.hid B6.size
    clear B6
    go_wp2_with fail
    refine (eq_byte_same l0 T3 T6 n0 n0 tc3 tc6 _ _ _ _ _ (by omega) (by omega) FT3.rd FT6.rd).mono ?_
    rintro e w7 hq
    obtain ⟨rfl, B7⟩ := hq.says
    replace R0 := R0.new B7
    replace FP2_0 := FP2_0.new B7
    replace FT3 := FT3.new B7
    replace FP4_0 := FP4_0.new B7
    replace FT6 := FT6.new B7
    replace G := below_trans G B7 (Nat.le_refl _)
    have S7 := Lib.hid B7.size
    clear B7
    clear FT6
    go_wp2_with fail
    refine (mark_byte _ T3 n0 tc3 _ _ (1) _ (by omega) (by omega) FT3).mono ?_
    rintro e w8 ⟨rfl, FM8, C8, E8⟩
    replace R0 := R0.chg C8 (by have := S1.out; have := S2.out; have := S3.out; have := S4.out; have := S5.out; have := S6.out; have := S7.out; omega)
    replace FP2_0 := FP2_0.chg C8 (by have := S1.out; have := S2.out; have := S3.out; have := S4.out; have := S5.out; have := S6.out; have := S7.out; omega)
    replace FP4_0 := FP4_0.chg C8 (by have := S1.out; have := S2.out; have := S3.out; have := S4.out; have := S5.out; have := S6.out; have := S7.out; omega)
    replace G := G.trans (C8.below (.inl (by have := S1.out; have := S2.out; have := S3.out; have := S4.out; have := S5.out; have := S6.out; have := S7.out; omega)) (by have := S1.out; have := S2.out; have := S3.out; have := S4.out; have := S5.out; have := S6.out; have := S7.out; omega))
    clear FT3
    have S8 := Lib.hid (show w8.heap.size = w7.heap.size from E8)
    clear E8
    clear C8
    clear FM8
    go_wp2_with fail
    refine (eq_int_same ((mDI l0 a1 a2).xs) P4_0 P2_0 _ _ pc4_0 pc2_0 _ _ _ _ _ (by omega) (by omega) FP4_0.rd FP2_0.rd).mono ?_
    rintro e w9 hq
    obtain ⟨rfl, B9⟩ := hq.says
    replace R0 := R0.new B9
    replace FP2_0 := FP2_0.new B9
    replace FP4_0 := FP4_0.new B9
    replace G := below_trans G B9 (Nat.le_refl _)
    have S9 := Lib.hid B9.size
    clear B9
    go_wp2_with fail
    refine (mark_int _ P4_0 _ pc4_0 _ _ (1) _ (by omega) (by omega) FP4_0).mono ?_
    rintro e w10 ⟨rfl, FM10, C10, E10⟩
    replace R0 := R0.chg C10 (by have := S1.out; have := S2.out; have := S3.out; have := S4.out; have := S5.out; have := S6.out; have := S7.out; have := S8.out; have := S9.out; omega)
    replace FP2_0 := FP2_0.chg C10 (by have := S1.out; have := S2.out; have := S3.out; have := S4.out; have := S5.out; have := S6.out; have := S7.out; have := S8.out; have := S9.out; omega)
    replace G := G.trans (C10.below (.inl (by have := S1.out; have := S2.out; have := S3.out; have := S4.out; have := S5.out; have := S6.out; have := S7.out; have := S8.out; have := S9.out; omega)) (by have := S1.out; have := S2.out; have := S3.out; have := S4.out; have := S5.out; have := S6.out; have := S7.out; have := S8.out; have := S9.out; omega))
    clear FP4_0
    have S10 := Lib.hid (show w10.heap.size = w9.heap.size from E10)
    clear E10
    clear C10
    go_wp2_with fail
    refine (held_int P4_0 _ pc4_0 _ _ (1) _ (by omega) (by omega) FM10.rd).mono ?_
    rintro e w11 hq
    obtain ⟨rfl, B11⟩ := hq.says
    replace R0 := R0.new B11
    replace FP2_0 := FP2_0.new B11
    replace FM10 := FM10.new B11
    replace G := below_trans G B11 (Nat.le_refl _)
    have S11 := Lib.hid B11.size
    clear B11
    go_wp2_with fail
    refine (to_byte l0 A0 n0 c0 _ _ _ (by omega) R0).mono ?_
    rintro e w12 ⟨T12, tc12, rfl, FT12, B12⟩
    replace R0 := R0.new B12
    replace FP2_0 := FP2_0.new B12
    replace FM10 := FM10.new B12
    replace G := below_trans G B12 (Nat.le_refl _)
    have S12 := Lib.hid B12.size
    clear B12
    go_wp2_with fail
    refine (impl_DecodeIntsC l0 T12 n0 tc12 _ _ a1 a2 _ (by omega) FT12.rd FT12.cap H0 Wf1.out Wf2.out).mono ?_
    rintro e w13 ⟨P13_0, pc13_0, rfl, FP13_0, B13⟩
    replace R0 := R0.new B13
    replace FP2_0 := FP2_0.new B13
    replace FM10 := FM10.new B13
    replace FT12 := FT12.new B13
    replace G := below_trans G B13 (Nat.le_refl _)
    have S13 := Lib.hid B13.size
    clear B13
    clear FT12
    go_wp2_with fail
    refine (eq_int_same ((mDI l0 a1 a2).xs) P13_0 P2_0 _ _ pc13_0 pc2_0 _ _ _ _ _ (by omega) (by omega) FP13_0.rd FP2_0.rd).mono ?_
    rintro e w14 hq
    obtain ⟨rfl, B14⟩ := hq.says
    replace R0 := R0.new B14
    replace FP2_0 := FP2_0.new B14
    replace FM10 := FM10.new B14
    replace FP13_0 := FP13_0.new B14
    replace G := below_trans G B14 (Nat.le_refl _)
    have S14 := Lib.hid B14.size
    clear B14
    go_wp2_with fail
    refine (held_int P4_0 _ pc4_0 _ _ (1) _ (by omega) (by omega) FM10.rd).mono ?_
    rintro e w15 hq
    obtain ⟨rfl, B15⟩ := hq.says
    replace R0 := R0.new B15
    replace FP2_0 := FP2_0.new B15
    replace FM10 := FM10.new B15
    replace FP13_0 := FP13_0.new B15
    replace G := below_trans G B15 (Nat.le_refl _)
    have S15 := Lib.hid B15.size
    clear B15
    go_wp2_with fail
    go_ret
    exact ⟨rfl, G⟩
  · go_enter Try.func12, Try.ntmps12
    go_wp2_with fail
    go_ret
    exact ⟨rfl, by repeat (first | exact Below.refl _ _ | (refine Below.alloc ?_ (by simp <;> omega) _))⟩

set_option maxRecDepth 100000 in
theorem lifted (os : Os) (started : os.Started) (H : Type) (enc : TypeId × Value → H) :
    ReturnsInHanded {} Try.checked os 12 .any (Rows.fnExactDecodeIntsSpec.pre6 enc Try.prog Try.f12 Rows.fnExactDecodeIntsRow.domain false) (Rows.fnExactDecodeIntsSpec.post enc Try.prog Try.f12 false true false false) := by
  refine law_lifted Try.func12 (by kernel_rfl) rfl rfl (by kernel_rfl) os started
    (ChangeSpec.witness6 (enc := enc) (C := Try.checked) false ⟨#[], #[.slice none 0 0, .int .i64 0, .int .i64 0], []⟩ 8 (by kernel_rfl) (by kernel_rfl) (by kernel_rfl) (by kernel_rfl)) ?_
  intro W base args ds p hval hA hlt
  rw [Try.params12] at hA hval
  obtain ⟨v0, vs0, d0, ds0, p0, q0, hargs, rfl, rfl, h0, r0⟩ := trodAll_cons hA
  obtain ⟨v1, vs1, d1, ds1, p1, q1, rfl, rfl, rfl, h1, r1⟩ := trodAll_cons r0
  obtain ⟨v2, vs2, d2, ds2, p2, q2, rfl, rfl, rfl, h2, r2⟩ := trodAll_cons r1
  obtain ⟨rfl, rfl, rfl⟩ := trodAll_nil r2
  obtain rfl : args = #[v0, v1, v2] := by cases args; simp_all
  obtain ⟨A0, n0, c0, l0, rfl, m0, R0, H0⟩ := open_byte_list (hval 0 75 v0 rfl rfl) h0 (fun x hx => hlt x (by simp [hx]))
  obtain ⟨a1, rfl, rfl, rfl, wf1⟩ := open_int Try.underlying3 (hval 1 3 v1 rfl rfl) h1
  obtain ⟨a2, rfl, rfl, rfl, wf2⟩ := open_int Try.underlying3 (hval 2 3 v2 rfl rfl) h2
  exact ⟨⟨rfl, rfl, rfl⟩, walk l0 A0 n0 c0 a1 a2 W m0 R0 H0 wf1 wf2⟩

set_option maxRecDepth 100000 in
set_option maxHeartbeats 8000000 in
theorem closed : joinedFacts Try.pinned.checked.prog 12 Try.f12 Rows.fnExactDecodeIntsSpec Rows.fnExactDecodeIntsRow = true :=
  (and_i (and_i (and_i (and_i (and_i (and_i (and_i (and_i (and_i (and_i (and_i (and_i (and_i (and_i (and_i (and_i (and_i (and_i (and_i (and_i (and_i (and_i (and_i (and_i (and_i (and_i (and_i (and_i (and_i (and_i (and_i (by as_aux_lemma => kernel_rfl) seatLaid) sf_maps) (by as_aux_lemma => kernel_rfl)) (by as_aux_lemma => kernel_rfl)) (by as_aux_lemma => kernel_rfl)) (by as_aux_lemma => kernel_rfl)) (by as_aux_lemma => kernel_rfl)) (by as_aux_lemma => kernel_rfl)) (by as_aux_lemma => kernel_rfl)) (by as_aux_lemma => kernel_rfl)) (by as_aux_lemma => kernel_rfl)) (by as_aux_lemma => kernel_rfl)) (by as_aux_lemma => kernel_rfl)) (by as_aux_lemma => kernel_rfl)) (by as_aux_lemma => kernel_rfl)) (by as_aux_lemma => kernel_rfl)) (by as_aux_lemma => kernel_rfl)) (by as_aux_lemma => kernel_rfl)) (by as_aux_lemma => kernel_rfl)) (by as_aux_lemma => kernel_rfl)) (by as_aux_lemma => kernel_rfl)) sf_plain) (by as_aux_lemma => kernel_rfl)) sf_heard) sf_enter) sf_lifts) sf_make) (by as_aux_lemma => kernel_rfl)) (by as_aux_lemma => kernel_rfl)) (by as_aux_lemma => kernel_rfl)) (by as_aux_lemma => kernel_rfl))

theorem over : Rows.fnExactDecodeIntsRow.holds Try.pinned (OpenSpec.ofChange Rows.fnExactDecodeIntsSpec) :=
  OpenClaim.holds_of_wide 12 Try.f12 rfl rfl rfl rfl rfl rfl rfl ⟨rfl, rfl, rfl, rfl, rfl⟩ rfl rfl rfl rfl rfl (by kernel_rfl) Try.func12 closed
    (of_decide_eq_true (by kernel_rfl)) (by unfold Func.isWrapper; first | (rw [if_pos (by decide +kernel)]; kernel_rfl) | (rw [if_neg (by decide +kernel)]; exact ⟨rfl, rfl⟩))
    (fun os started H enc _ => lifted os started H enc)

theorem proved : Rows.FnExactDecodeIntsSaid := over
#print axioms proved
end Go.Proofs.Ythipflbjnnplaab.fnExactDecodeInts
