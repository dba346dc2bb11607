/- The law FnExactHasGrantFor answers true for every argument, and leaves each argument as it was. No condition. -/
import Derived.Test.YtejcioenoofjlaaFacts
import Derived.Test.YtejcioenoofjlaaTGrant
import Derived.Test.YtejcioenoofjlaaHgf
namespace Go.Proofs.Ytejcioenoofjlaa.fnExactHasGrantFor
open Go Go.ChangeShapes Go.WideShapes Go.ChangeAt Go.RowKit Go.Lib
open Go.ChangeMaps (open_string)
set_option linter.unusedVariables false
set_option linter.unusedSimpArgs false
set_option maxRecDepth 100000

theorem drw_size {W w' : World} (hb : Below W.drew.heap.size W.drew w') : W.heap.size ≤ w'.heap.size := hb.size
set_option maxRecDepth 100000 in
set_option maxHeartbeats 20000000 in
theorem walk (l0 : List TGrant) (A0 : Option Addr) (n0 c0 : Nat) (a1 : Int) (a2 : Int) (w : World) (hm0 : n0 ≤ maxLen) (R0 : Rd w 0 w.heap.size 7 A0 n0 (cGrant l0)) (H0 : Hid (cGrantOk l0)) (wf1 : (Lit.int .i64 a1).wf = true) (wf2 : (Lit.int .i64 a2).wf = true) :
    Calls Try.prog 6 #[.slice A0 n0 c0, .int .i64 a1, .int .i64 a2] w fun e w' => e = .returned (.bool true) ∧ Below w.heap.size w w' := by
  have hm0 : n0 ≤ 9223372036854775807 := hm0
  have Wf1 := Lib.hid wf1
  clear wf1
  have Wf2 := Lib.hid wf2
  clear wf2
  by_cases hz0 : n0 ≤ 1048576
  · skip
    go_enter Try.func6, Try.ntmps6
    go_wp2_with fail
    refine (sz_grant A0 n0 c0 (1048576) _ hm0 (by omega) (by omega)).mono ?_
    rintro e w1 hq
    obtain ⟨rfl, B1⟩ := hq.says
    replace R0 := R0.new B1
    have G := B1
    have S1 := Lib.hid B1.size
    clear B1
    go_wp2_with fail
    refine (to_grant l0 A0 n0 c0 _ _ _ (by omega) R0).mono ?_
    rintro e w2 ⟨T2, tc2, rfl, FT2, B2⟩
    replace R0 := R0.new B2
    replace G := below_trans G B2 (Nat.le_refl _)
    have S2 := Lib.hid B2.size
    clear B2
    go_wp2_with fail
    refine (spec_HasGrantFor l0 T2 n0 tc2 _ _ a1 a2 _ (by omega) FT2.rd H0 Wf1.out Wf2.out).mono ?_
    rintro e w3 ⟨rfl, B3⟩
    replace R0 := R0.new B3
    replace FT2 := FT2.new B3
    replace G := below_trans G B3 (Nat.le_refl _)
    have S3 := Lib.hid B3.size
    clear B3
    clear FT2
    go_wp2_with fail
    refine (to_grant l0 A0 n0 c0 _ _ _ (by omega) R0).mono ?_
    rintro e w4 ⟨T4, tc4, rfl, FT4, B4⟩
    replace R0 := R0.new B4
    replace G := below_trans G B4 (Nat.le_refl _)
    have S4 := Lib.hid B4.size
    clear B4
    go_wp2_with fail
    refine (impl_HasGrantFor l0 T4 n0 tc4 _ _ a1 a2 _ (by omega) FT4.rd H0 Wf1.out Wf2.out).mono ?_
    rintro e w5 ⟨rfl, B5⟩
    replace R0 := R0.new B5
    replace FT4 := FT4.new B5
    replace G := below_trans G B5 (Nat.le_refl _)
    have S5 := Lib.hid B5.size
    clear B5
    go_wp2_with fail
    refine (to_grant l0 A0 n0 c0 _ _ _ (by omega) R0).mono ?_
    rintro e w6 ⟨T6, tc6, rfl, FT6, B6⟩
    replace R0 := R0.new B6
    replace FT4 := FT4.new B6
    replace G := below_trans G B6 (Nat.le_refl _)
    have S6 := Lib.hid B6.size
    clear B6
    go_wp2_with fail
    refine (eq_grant_same l0 T4 T6 n0 n0 tc4 tc6 _ _ _ _ _ (by omega) (by omega) FT4.rd FT6.rd).mono ?_
    rintro e w7 ⟨rfl, B7⟩
    replace R0 := R0.new B7
    replace FT4 := FT4.new B7
    replace FT6 := FT6.new B7
    replace G := below_trans G B7 (Nat.le_refl _)
    have S7 := Lib.hid B7.size
    clear B7
    clear FT6
    go_wp2_with fail
    go_ret
    exact ⟨rfl, G⟩
  · skip
    go_enter Try.func6, Try.ntmps6
    go_wp2_with fail
    refine (szno_grant A0 n0 c0 (1048576) _ hm0 (by omega) (by omega) (by omega)).mono ?_
    rintro e w1 hq
    obtain ⟨rfl, B8⟩ := hq.says
    have G := B8
    have S1 := Lib.hid B8.size
    clear B8
    go_wp2_with fail
    go_ret
    exact ⟨rfl, G⟩

set_option maxRecDepth 100000 in
theorem lifted (os : Os) (started : os.Started) (H : Type) (enc : TypeId × Value → H) :
    ReturnsInHanded {} Try.checked os 6 .any (Rows.fnExactHasGrantForSpec.pre6 enc Try.prog Try.f6 Rows.fnExactHasGrantForRow.domain false) (Rows.fnExactHasGrantForSpec.post enc Try.prog Try.f6 false true false false) := by
  refine law_lifted Try.func6 (by kernel_rfl) rfl rfl (by kernel_rfl) os started
    (ChangeSpec.witness6 (enc := enc) (C := Try.checked) false ⟨#[], #[.slice none 0 0, .int .i64 0, .int .i64 0], []⟩ 8 (by kernel_rfl) (by kernel_rfl) (by kernel_rfl) (by kernel_rfl)) ?_
  intro W base args ds p hval hA hlt
  rw [Try.params6] at hA hval
  obtain ⟨v0, vs0, d0, ds0, p0, q0, hargs, rfl, rfl, h0, r0⟩ := trodAll_cons hA
  obtain ⟨v1, vs1, d1, ds1, p1, q1, rfl, rfl, rfl, h1, r1⟩ := trodAll_cons r0
  obtain ⟨v2, vs2, d2, ds2, p2, q2, rfl, rfl, rfl, h2, r2⟩ := trodAll_cons r1
  obtain ⟨rfl, rfl, rfl⟩ := trodAll_nil r2
  obtain rfl : args = #[v0, v1, v2] := by cases args; simp_all
  obtain ⟨A0, n0, c0, l0, rfl, m0, R0, H0⟩ := open_grant_list (hval 0 35 v0 rfl rfl) h0 (fun x hx => hlt x (by simp [hx]))
  obtain ⟨a1, rfl, rfl, rfl, wf1⟩ := open_int Try.underlying3 (hval 1 3 v1 rfl rfl) h1
  obtain ⟨a2, rfl, rfl, rfl, wf2⟩ := open_int Try.underlying3 (hval 2 3 v2 rfl rfl) h2
  exact ⟨⟨rfl, rfl, rfl⟩, walk l0 A0 n0 c0 a1 a2 W m0 R0 H0 wf1 wf2⟩

set_option maxRecDepth 100000 in
set_option maxHeartbeats 8000000 in
theorem closed : joinedFacts Try.pinned.checked.prog 6 Try.f6 Rows.fnExactHasGrantForSpec Rows.fnExactHasGrantForRow = true :=
  (and_i (and_i (and_i (and_i (and_i (and_i (and_i (and_i (and_i (and_i (and_i (and_i (and_i (and_i (and_i (and_i (and_i (and_i (and_i (and_i (and_i (and_i (and_i (and_i (and_i (and_i (and_i (and_i (and_i (and_i (and_i (by as_aux_lemma => kernel_rfl) seatLaid) sf_maps) (by as_aux_lemma => kernel_rfl)) (by as_aux_lemma => kernel_rfl)) (by as_aux_lemma => kernel_rfl)) (by as_aux_lemma => kernel_rfl)) (by as_aux_lemma => kernel_rfl)) (by as_aux_lemma => kernel_rfl)) (by as_aux_lemma => kernel_rfl)) (by as_aux_lemma => kernel_rfl)) (by as_aux_lemma => kernel_rfl)) (by as_aux_lemma => kernel_rfl)) (by as_aux_lemma => kernel_rfl)) (by as_aux_lemma => kernel_rfl)) (by as_aux_lemma => kernel_rfl)) (by as_aux_lemma => kernel_rfl)) (by as_aux_lemma => kernel_rfl)) (by as_aux_lemma => kernel_rfl)) (by as_aux_lemma => kernel_rfl)) (by as_aux_lemma => kernel_rfl)) (by as_aux_lemma => kernel_rfl)) sf_plain) (by as_aux_lemma => kernel_rfl)) sf_heard) sf_enter) sf_lifts) sf_make) (by as_aux_lemma => kernel_rfl)) (by as_aux_lemma => kernel_rfl)) (by as_aux_lemma => kernel_rfl)) (by as_aux_lemma => kernel_rfl))

theorem over : Rows.fnExactHasGrantForRow.holds Try.pinned (OpenSpec.ofChange Rows.fnExactHasGrantForSpec) :=
  OpenClaim.holds_of_wide 6 Try.f6 rfl rfl rfl rfl rfl rfl rfl ⟨rfl, rfl, rfl, rfl, rfl⟩ rfl rfl rfl rfl rfl (by kernel_rfl) Try.func6 closed
    (of_decide_eq_true (by kernel_rfl)) (by unfold Func.isWrapper; first | (rw [if_pos (by decide +kernel)]; kernel_rfl) | (rw [if_neg (by decide +kernel)]; exact ⟨rfl, rfl⟩))
    (fun os started H enc _ => lifted os started H enc)

theorem proved : Rows.FnExactHasGrantForSaid := over
#print axioms proved
end Go.Proofs.Ytejcioenoofjlaa.fnExactHasGrantFor
