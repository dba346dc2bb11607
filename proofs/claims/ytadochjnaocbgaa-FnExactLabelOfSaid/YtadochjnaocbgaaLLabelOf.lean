/- The law FnExactLabelOf answers true for every argument, and leaves each argument as it was. No condition. -/
import Derived.Test.YtadochjnaocbgaaFactsK
import Derived.Test.YtadochjnaocbgaaSlI
import Derived.Test.YtadochjnaocbgaaLabOf
namespace Go.Proofs.Ytadochjnaocbgaa.fnExactLabelOf
open Go Go.ChangeShapes Go.WideShapes Go.ChangeAt Go.RowKit Go.Lib
open Go.ChangeMaps (open_string)
set_option linter.unusedVariables false
set_option linter.unusedSimpArgs false
set_option maxRecDepth 100000

theorem drw_size {W w' : World} (hb : Below W.drew.heap.size W.drew w') : W.heap.size ≤ w'.heap.size := hb.size
set_option maxRecDepth 100000 in
set_option maxHeartbeats 20000000 in
theorem walk (l0 : List Int) (A0 : Option Addr) (n0 c0 : Nat) (w : World) (hm0 : n0 ≤ maxLen) (R0 : Rd w 0 w.heap.size 1 A0 n0 (i64s l0)) (H0 : Hid (I64s l0)) :
    Calls Try.prog 3 #[.slice A0 n0 c0] w fun e w' => e = .returned (.bool true) ∧ Below w.heap.size w w' := by
  have hm0 : n0 ≤ 9223372036854775807 := hm0
  by_cases hn0 : n0 ≤ 1048576
  · skip
    go_enter Try.func3, Try.ntmps3
    go_wp2_with fail
    refine (to_int l0 A0 n0 c0 _ _ _ (by omega) R0).mono ?_
    rintro e w1 ⟨T1, tc1, rfl, FT1, B1⟩
    replace R0 := R0.new B1
    have G := B1
    have S1 := Lib.hid B1.size
    clear B1
    go_wp2_with fail
    refine (spec_LabelOfE l0 T1 n0 tc1 _ _ _ (by omega) FT1.rd H0).mono ?_
    rintro e w2 ⟨rfl, B2⟩
    replace R0 := R0.new B2
    replace FT1 := FT1.new B2
    replace G := below_trans G B2 (Nat.le_refl _)
    have S2 := Lib.hid B2.size
    clear B2
    clear FT1
    go_wp2_with fail
    refine (to_int l0 A0 n0 c0 _ _ _ (by omega) R0).mono ?_
    rintro e w3 ⟨T3, tc3, rfl, FT3, B3⟩
    replace R0 := R0.new B3
    replace G := below_trans G B3 (Nat.le_refl _)
    have S3 := Lib.hid B3.size
    clear B3
    go_wp2_with fail
    refine (impl_LabelOf l0 T3 n0 tc3 _ _ _ (by omega) FT3.rd H0).mono ?_
    rintro e w4 ⟨rfl, B4⟩
    replace R0 := R0.new B4
    replace FT3 := FT3.new B4
    replace G := below_trans G B4 (Nat.le_refl _)
    have S4 := Lib.hid B4.size
    clear B4
    go_wp2_with fail
    refine (to_int l0 A0 n0 c0 _ _ _ (by omega) R0).mono ?_
    rintro e w5 ⟨T5, tc5, rfl, FT5, B5⟩
    replace R0 := R0.new B5
    replace FT3 := FT3.new B5
    replace G := below_trans G B5 (Nat.le_refl _)
    have S5 := Lib.hid B5.size
    clear B5
    go_wp2_with fail
    refine (eq_int_same l0 T3 T5 n0 n0 tc3 tc5 _ _ _ _ _ (by omega) (by omega) FT3.rd FT5.rd).mono ?_
    rintro e w6 hq
    obtain ⟨rfl, B6⟩ := hq.says
    replace R0 := R0.new B6
    replace FT3 := FT3.new B6
    replace FT5 := FT5.new B6
    replace G := below_trans G B6 (Nat.le_refl _)
    have S6 := Lib.hid B6.size
    clear B6
    clear FT5
    go_wp2_with fail
    go_ret
    exact ⟨rfl, G⟩
  · go_enter Try.func3, Try.ntmps3
    go_wp2_with fail
    go_ret
    exact ⟨rfl, by repeat (first | exact Below.refl _ _ | (refine Below.alloc ?_ (by simp <;> omega) _))⟩

set_option maxRecDepth 100000 in
theorem lifted (os : Os) (started : os.Started) (H : Type) (enc : TypeId × Value → H) :
    ReturnsInHanded {} Try.checked os 3 .any (Rows.fnExactLabelOfSpec.pre6 enc Try.prog Try.f3 Rows.fnExactLabelOfRow.domain false) (Rows.fnExactLabelOfSpec.post enc Try.prog Try.f3 false true false false) := by
  refine law_lifted Try.func3 (by kernel_rfl) rfl rfl (by kernel_rfl) os started
    (ChangeSpec.witness6 (enc := enc) (C := Try.checked) false ⟨#[], #[.slice none 0 0], []⟩ 8 (by kernel_rfl) (by kernel_rfl) (by kernel_rfl) (by kernel_rfl)) ?_
  intro W base args ds p hval hA hlt
  rw [Try.params3] at hA hval
  obtain ⟨v0, vs0, d0, ds0, p0, q0, hargs, rfl, rfl, h0, r0⟩ := trodAll_cons hA
  obtain ⟨rfl, rfl, rfl⟩ := trodAll_nil r0
  obtain rfl : args = #[v0] := by cases args; simp_all
  obtain ⟨A0, n0, c0, l0, rfl, m0, R0, H0⟩ := open_int_list (hval 0 22 v0 rfl rfl) h0 (fun x hx => hlt x (by simp [hx]))
  exact ⟨⟨rfl, rfl, rfl⟩, walk l0 A0 n0 c0 W m0 R0 H0⟩

set_option maxRecDepth 100000 in
set_option maxHeartbeats 8000000 in
theorem closed : joinedFacts Try.pinned.checked.prog 3 Try.f3 Rows.fnExactLabelOfSpec Rows.fnExactLabelOfRow = true :=
  (and_i (and_i (and_i (and_i (and_i (and_i (and_i (and_i (and_i (and_i (and_i (and_i (and_i (and_i (and_i (and_i (and_i (and_i (and_i (and_i (and_i (and_i (and_i (and_i (and_i (and_i (and_i (and_i (and_i (and_i (and_i (by as_aux_lemma => kernel_rfl) seatLaid) sf_maps) (by as_aux_lemma => kernel_rfl)) (by as_aux_lemma => kernel_rfl)) (by as_aux_lemma => kernel_rfl)) (by as_aux_lemma => kernel_rfl)) (by as_aux_lemma => kernel_rfl)) (by as_aux_lemma => kernel_rfl)) (by as_aux_lemma => kernel_rfl)) (by as_aux_lemma => kernel_rfl)) (by as_aux_lemma => kernel_rfl)) (by as_aux_lemma => kernel_rfl)) (by as_aux_lemma => kernel_rfl)) (by as_aux_lemma => kernel_rfl)) (by as_aux_lemma => kernel_rfl)) (by as_aux_lemma => kernel_rfl)) (by as_aux_lemma => kernel_rfl)) (by as_aux_lemma => kernel_rfl)) (by as_aux_lemma => kernel_rfl)) (by as_aux_lemma => kernel_rfl)) (by as_aux_lemma => kernel_rfl)) sf_plain) (by as_aux_lemma => kernel_rfl)) sf_heard) sf_enter) sf_lifts) sf_make) (by as_aux_lemma => kernel_rfl)) (by as_aux_lemma => kernel_rfl)) (by as_aux_lemma => kernel_rfl)) (by as_aux_lemma => kernel_rfl))

theorem over : Rows.fnExactLabelOfRow.holds Try.pinned (OpenSpec.ofChange Rows.fnExactLabelOfSpec) :=
  OpenClaim.holds_of_wide 3 Try.f3 rfl rfl rfl rfl rfl rfl rfl ⟨rfl, rfl, rfl, rfl, rfl⟩ rfl rfl rfl rfl rfl (by kernel_rfl) Try.func3 closed
    (of_decide_eq_true (by kernel_rfl)) (by unfold Func.isWrapper; first | (rw [if_pos (by decide +kernel)]; kernel_rfl) | (rw [if_neg (by decide +kernel)]; exact ⟨rfl, rfl⟩))
    (fun os started H enc _ => lifted os started H enc)

theorem proved : Rows.FnExactLabelOfSaid := over
#print axioms proved
end Go.Proofs.Ytadochjnaocbgaa.fnExactLabelOf
