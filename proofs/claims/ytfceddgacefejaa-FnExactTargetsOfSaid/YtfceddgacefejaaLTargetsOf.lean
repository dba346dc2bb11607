/- The law FnExactTargetsOf answers true for every argument, and leaves each argument as it was. No condition. -/
import Derived.Test.YtfceddgacefejaaFactsK
import Derived.Test.YtfceddgacefejaaSlI
import Derived.Test.YtfceddgacefejaaTFlow
import Derived.Test.YtfceddgacefejaaTgt
namespace Go.Proofs.Ytfceddgacefejaa.fnExactTargetsOf
open Go Go.ChangeShapes Go.WideShapes Go.ChangeAt Go.RowKit Go.Lib
open Go.ChangeMaps (open_string)
set_option linter.unusedVariables false
set_option linter.unusedSimpArgs false
set_option maxRecDepth 100000

theorem drw_size {W w' : World} (hb : Below W.drew.heap.size W.drew w') : W.heap.size ≤ w'.heap.size := hb.size
set_option maxRecDepth 100000 in
set_option maxHeartbeats 20000000 in
theorem walk (l0 : List TFlow) (A0 : Option Addr) (n0 c0 : Nat) (a1 : Int) (a2 : Int) (w : World) (hm0 : n0 ≤ maxLen) (R0 : Rd w 0 w.heap.size 3 A0 n0 (cFlow l0)) (H0 : Hid (cFlowOk l0)) (wf1 : (Lit.int .i64 a1).wf = true) (wf2 : (Lit.int .i64 a2).wf = true) :
    Calls Try.prog 7 #[.slice A0 n0 c0, .int .i64 a1, .int .i64 a2] w fun e w' => e = .returned (.bool true) ∧ Below w.heap.size w w' := by
  have hm0 : n0 ≤ 9223372036854775807 := hm0
  have Wf1 := Lib.hid wf1
  clear wf1
  have Wf2 := Lib.hid wf2
  clear wf2
  by_cases hz0 : n0 ≤ 1048576
  · skip
    have hl0 : (mTarg l0 a1 a2).length ≤ 17179869184 := by (have := mTarg_len l0 a1 a2; omega)
    go_enter Try.func7, Try.ntmps7
    go_wp2_with fail
    refine (sz_flow A0 n0 c0 (1048576) _ hm0 (by omega) (by omega)).mono ?_
    rintro e w1 hq
    obtain ⟨rfl, B1⟩ := hq.says
    replace R0 := R0.new B1
    have G := B1
    have S1 := Lib.hid B1.size
    clear B1
    go_wp2_with fail
    refine (to_flow l0 A0 n0 c0 _ _ _ (by omega) R0).mono ?_
    rintro e w2 ⟨T2, tc2, rfl, FT2, B2⟩
    replace R0 := R0.new B2
    replace G := below_trans G B2 (Nat.le_refl _)
    have S2 := Lib.hid B2.size
    clear B2
    go_wp2_with fail
    refine (spec_TargetsOf l0 T2 n0 tc2 _ _ a1 a2 _ (by omega) FT2.rd H0).mono ?_
    rintro e w3 ⟨P3_0, pc3_0, rfl, FP3_0, B3⟩
    replace R0 := R0.new B3
    replace FT2 := FT2.new B3
    replace G := below_trans G B3 (Nat.le_refl _)
    have S3 := Lib.hid B3.size
    clear B3
    clear FT2
    go_wp2_with fail
    refine (to_flow l0 A0 n0 c0 _ _ _ (by omega) R0).mono ?_
    rintro e w4 ⟨T4, tc4, rfl, FT4, B4⟩
    replace R0 := R0.new B4
    replace FP3_0 := FP3_0.new B4
    replace G := below_trans G B4 (Nat.le_refl _)
    have S4 := Lib.hid B4.size
    clear B4
    go_wp2_with fail
    refine (impl_TargetsOf l0 T4 n0 tc4 _ _ a1 a2 _ (by omega) FT4.rd H0).mono ?_
    rintro e w5 ⟨P5_0, pc5_0, rfl, FP5_0, B5⟩
    replace R0 := R0.new B5
    replace FP3_0 := FP3_0.new B5
    replace FT4 := FT4.new B5
    replace G := below_trans G B5 (Nat.le_refl _)
    have S5 := Lib.hid B5.size
    clear B5
    go_wp2_with fail
    refine (eq_int_same (mTarg l0 a1 a2) P5_0 P3_0 _ _ pc5_0 pc3_0 _ _ _ _ _ (by omega) (by omega) FP5_0.rd FP3_0.rd).mono ?_
    rintro e w6 hq
    obtain ⟨rfl, B6⟩ := hq.says
    replace R0 := R0.new B6
    replace FP3_0 := FP3_0.new B6
    replace FT4 := FT4.new B6
    replace FP5_0 := FP5_0.new B6
    replace G := below_trans G B6 (Nat.le_refl _)
    have S6 := Lib.hid B6.size
    clear B6
    go_wp2_with fail
    refine (to_flow l0 A0 n0 c0 _ _ _ (by omega) R0).mono ?_
    rintro e w7 ⟨T7, tc7, rfl, FT7, B7⟩
    replace R0 := R0.new B7
    replace FP3_0 := FP3_0.new B7
    replace FT4 := FT4.new B7
    replace FP5_0 := FP5_0.new B7
    replace G := below_trans G B7 (Nat.le_refl _)
    have S7 := Lib.hid B7.size
    clear B7
    go_wp2_with fail
    refine (eq_flow_same l0 T4 T7 n0 n0 tc4 tc7 _ _ _ _ _ (by omega) (by omega) FT4.rd FT7.rd).mono ?_
    rintro e w8 ⟨rfl, B8⟩
    replace R0 := R0.new B8
    replace FP3_0 := FP3_0.new B8
    replace FT4 := FT4.new B8
    replace FP5_0 := FP5_0.new B8
    replace FT7 := FT7.new B8
    replace G := below_trans G B8 (Nat.le_refl _)
    have S8 := Lib.hid B8.size
    clear B8
    clear FT7
    go_wp2_with fail
    refine (mark_flow _ T4 n0 tc4 _ _ (1) _ (by omega) (by omega) FT4).mono ?_
    rintro e w9 ⟨rfl, FM9, C9, E9⟩
    replace R0 := R0.chg C9 (by have := S1.out; have := S2.out; have := S3.out; have := S4.out; have := S5.out; have := S6.out; have := S7.out; have := S8.out; omega)
    replace FP3_0 := FP3_0.chg C9 (by have := S1.out; have := S2.out; have := S3.out; have := S4.out; have := S5.out; have := S6.out; have := S7.out; have := S8.out; omega)
    replace FP5_0 := FP5_0.chg C9 (by have := S1.out; have := S2.out; have := S3.out; have := S4.out; have := S5.out; have := S6.out; have := S7.out; have := S8.out; omega)
    replace G := G.trans (C9.below (.inl (by have := S1.out; have := S2.out; have := S3.out; have := S4.out; have := S5.out; have := S6.out; have := S7.out; have := S8.out; omega)) (by have := S1.out; have := S2.out; have := S3.out; have := S4.out; have := S5.out; have := S6.out; have := S7.out; have := S8.out; omega))
    clear FT4
    have S9 := Lib.hid (show w9.heap.size = w8.heap.size from E9)
    clear E9
    clear C9
    clear FM9
    go_wp2_with fail
    refine (eq_int_same (mTarg l0 a1 a2) P5_0 P3_0 _ _ pc5_0 pc3_0 _ _ _ _ _ (by omega) (by omega) FP5_0.rd FP3_0.rd).mono ?_
    rintro e w10 hq
    obtain ⟨rfl, B10⟩ := hq.says
    replace R0 := R0.new B10
    replace FP3_0 := FP3_0.new B10
    replace FP5_0 := FP5_0.new B10
    replace G := below_trans G B10 (Nat.le_refl _)
    have S10 := Lib.hid B10.size
    clear B10
    go_wp2_with fail
    refine (mark_int _ P5_0 _ pc5_0 _ _ (1) _ (by omega) (by omega) FP5_0).mono ?_
    rintro e w11 ⟨rfl, FM11, C11, E11⟩
    replace R0 := R0.chg C11 (by have := S1.out; have := S2.out; have := S3.out; have := S4.out; have := S5.out; have := S6.out; have := S7.out; have := S8.out; have := S9.out; have := S10.out; omega)
    replace FP3_0 := FP3_0.chg C11 (by have := S1.out; have := S2.out; have := S3.out; have := S4.out; have := S5.out; have := S6.out; have := S7.out; have := S8.out; have := S9.out; have := S10.out; omega)
    replace G := G.trans (C11.below (.inl (by have := S1.out; have := S2.out; have := S3.out; have := S4.out; have := S5.out; have := S6.out; have := S7.out; have := S8.out; have := S9.out; have := S10.out; omega)) (by have := S1.out; have := S2.out; have := S3.out; have := S4.out; have := S5.out; have := S6.out; have := S7.out; have := S8.out; have := S9.out; have := S10.out; omega))
    clear FP5_0
    have S11 := Lib.hid (show w11.heap.size = w10.heap.size from E11)
    clear E11
    clear C11
    go_wp2_with fail
    refine (held_int P5_0 _ pc5_0 _ _ (1) _ (by omega) (by omega) FM11.rd).mono ?_
    rintro e w12 hq
    obtain ⟨rfl, B12⟩ := hq.says
    replace R0 := R0.new B12
    replace FP3_0 := FP3_0.new B12
    replace FM11 := FM11.new B12
    replace G := below_trans G B12 (Nat.le_refl _)
    have S12 := Lib.hid B12.size
    clear B12
    go_wp2_with fail
    refine (to_flow l0 A0 n0 c0 _ _ _ (by omega) R0).mono ?_
    rintro e w13 ⟨T13, tc13, rfl, FT13, B13⟩
    replace R0 := R0.new B13
    replace FP3_0 := FP3_0.new B13
    replace FM11 := FM11.new B13
    replace G := below_trans G B13 (Nat.le_refl _)
    have S13 := Lib.hid B13.size
    clear B13
    go_wp2_with fail
    refine (impl_TargetsOf l0 T13 n0 tc13 _ _ a1 a2 _ (by omega) FT13.rd H0).mono ?_
    rintro e w14 ⟨P14_0, pc14_0, rfl, FP14_0, B14⟩
    replace R0 := R0.new B14
    replace FP3_0 := FP3_0.new B14
    replace FM11 := FM11.new B14
    replace FT13 := FT13.new B14
    replace G := below_trans G B14 (Nat.le_refl _)
    have S14 := Lib.hid B14.size
    clear B14
    clear FT13
    go_wp2_with fail
    refine (eq_int_same (mTarg l0 a1 a2) P14_0 P3_0 _ _ pc14_0 pc3_0 _ _ _ _ _ (by omega) (by omega) FP14_0.rd FP3_0.rd).mono ?_
    rintro e w15 hq
    obtain ⟨rfl, B15⟩ := hq.says
    replace R0 := R0.new B15
    replace FP3_0 := FP3_0.new B15
    replace FM11 := FM11.new B15
    replace FP14_0 := FP14_0.new B15
    replace G := below_trans G B15 (Nat.le_refl _)
    have S15 := Lib.hid B15.size
    clear B15
    go_wp2_with fail
    refine (held_int P5_0 _ pc5_0 _ _ (1) _ (by omega) (by omega) FM11.rd).mono ?_
    rintro e w16 hq
    obtain ⟨rfl, B16⟩ := hq.says
    replace R0 := R0.new B16
    replace FP3_0 := FP3_0.new B16
    replace FM11 := FM11.new B16
    replace FP14_0 := FP14_0.new B16
    replace G := below_trans G B16 (Nat.le_refl _)
    have S16 := Lib.hid B16.size
    clear B16
    go_wp2_with fail
    go_ret
    exact ⟨rfl, G⟩
  · skip
    go_enter Try.func7, Try.ntmps7
    go_wp2_with fail
    refine (szno_flow A0 n0 c0 (1048576) _ hm0 (by omega) (by omega) (by omega)).mono ?_
    rintro e w1 hq
    obtain ⟨rfl, B17⟩ := hq.says
    have G := B17
    have S1 := Lib.hid B17.size
    clear B17
    go_wp2_with fail
    go_ret
    exact ⟨rfl, G⟩

set_option maxRecDepth 100000 in
theorem lifted (os : Os) (started : os.Started) (H : Type) (enc : TypeId × Value → H) :
    ReturnsInHanded {} Try.checked os 7 .any (Rows.fnExactTargetsOfSpec.pre6 enc Try.prog Try.f7 Rows.fnExactTargetsOfRow.domain false) (Rows.fnExactTargetsOfSpec.post enc Try.prog Try.f7 false true false false) := by
  refine law_lifted Try.func7 (by kernel_rfl) rfl rfl (by kernel_rfl) os started
    (ChangeSpec.witness6 (enc := enc) (C := Try.checked) false ⟨#[], #[.slice none 0 0, .int .i64 0, .int .i64 0], []⟩ 8 (by kernel_rfl) (by kernel_rfl) (by kernel_rfl) (by kernel_rfl)) ?_
  intro W base args ds p hval hA hlt
  rw [Try.params7] at hA hval
  obtain ⟨v0, vs0, d0, ds0, p0, q0, hargs, rfl, rfl, h0, r0⟩ := trodAll_cons hA
  obtain ⟨v1, vs1, d1, ds1, p1, q1, rfl, rfl, rfl, h1, r1⟩ := trodAll_cons r0
  obtain ⟨v2, vs2, d2, ds2, p2, q2, rfl, rfl, rfl, h2, r2⟩ := trodAll_cons r1
  obtain ⟨rfl, rfl, rfl⟩ := trodAll_nil r2
  obtain rfl : args = #[v0, v1, v2] := by cases args; simp_all
  obtain ⟨A0, n0, c0, l0, rfl, m0, R0, H0⟩ := open_flow_list (hval 0 77 v0 rfl rfl) h0 (fun x hx => hlt x (by simp [hx]))
  obtain ⟨a1, rfl, rfl, rfl, wf1⟩ := open_int Try.underlying3 (hval 1 3 v1 rfl rfl) h1
  obtain ⟨a2, rfl, rfl, rfl, wf2⟩ := open_int Try.underlying3 (hval 2 3 v2 rfl rfl) h2
  exact ⟨⟨rfl, rfl, rfl⟩, walk l0 A0 n0 c0 a1 a2 W m0 R0 H0 wf1 wf2⟩

set_option maxRecDepth 100000 in
set_option maxHeartbeats 8000000 in
theorem closed : joinedFacts Try.pinned.checked.prog 7 Try.f7 Rows.fnExactTargetsOfSpec Rows.fnExactTargetsOfRow = true :=
  (and_i (and_i (and_i (and_i (and_i (and_i (and_i (and_i (and_i (and_i (and_i (and_i (and_i (and_i (and_i (and_i (and_i (and_i (and_i (and_i (and_i (and_i (and_i (and_i (and_i (and_i (and_i (and_i (and_i (and_i (and_i (by as_aux_lemma => kernel_rfl) seatLaid) sf_maps) (by as_aux_lemma => kernel_rfl)) (by as_aux_lemma => kernel_rfl)) (by as_aux_lemma => kernel_rfl)) (by as_aux_lemma => kernel_rfl)) (by as_aux_lemma => kernel_rfl)) (by as_aux_lemma => kernel_rfl)) (by as_aux_lemma => kernel_rfl)) (by as_aux_lemma => kernel_rfl)) (by as_aux_lemma => kernel_rfl)) (by as_aux_lemma => kernel_rfl)) (by as_aux_lemma => kernel_rfl)) (by as_aux_lemma => kernel_rfl)) (by as_aux_lemma => kernel_rfl)) (by as_aux_lemma => kernel_rfl)) (by as_aux_lemma => kernel_rfl)) (by as_aux_lemma => kernel_rfl)) (by as_aux_lemma => kernel_rfl)) (by as_aux_lemma => kernel_rfl)) (by as_aux_lemma => kernel_rfl)) sf_plain) (by as_aux_lemma => kernel_rfl)) sf_heard) sf_enter) sf_lifts) sf_make) (by as_aux_lemma => kernel_rfl)) (by as_aux_lemma => kernel_rfl)) (by as_aux_lemma => kernel_rfl)) (by as_aux_lemma => kernel_rfl))

theorem over : Rows.fnExactTargetsOfRow.holds Try.pinned (OpenSpec.ofChange Rows.fnExactTargetsOfSpec) :=
  OpenClaim.holds_of_wide 7 Try.f7 rfl rfl rfl rfl rfl rfl rfl ⟨rfl, rfl, rfl, rfl, rfl⟩ rfl rfl rfl rfl rfl (by kernel_rfl) Try.func7 closed
    (of_decide_eq_true (by kernel_rfl)) (by unfold Func.isWrapper; first | (rw [if_pos (by decide +kernel)]; kernel_rfl) | (rw [if_neg (by decide +kernel)]; exact ⟨rfl, rfl⟩))
    (fun os started H enc _ => lifted os started H enc)

theorem proved : Rows.FnExactTargetsOfSaid := over
#print axioms proved
end Go.Proofs.Ytfceddgacefejaa.fnExactTargetsOf
