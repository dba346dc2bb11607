/- The law FnExactSameSent answers true for every argument, and leaves each argument as it was. No condition. -/
import Derived.Test.YtcankpiidjhhpaaFacts
import Derived.Test.YtcankpiidjhhpaaTSent
import Derived.Test.YtcankpiidjhhpaaSmS
import Derived.Test.YtcankpiidjhhpaaSmI
namespace Go.Proofs.Ytcankpiidjhhpaa.fnExactSameSent
open Go Go.ChangeShapes Go.WideShapes Go.ChangeAt Go.RowKit Go.Lib
open Go.ChangeMaps (open_string)
set_option linter.unusedVariables false
set_option linter.unusedSimpArgs false
set_option maxRecDepth 100000

theorem drw_size {W w' : World} (hb : Below W.drew.heap.size W.drew w') : W.heap.size ≤ w'.heap.size := hb.size
set_option maxRecDepth 100000 in
set_option maxHeartbeats 20000000 in
theorem walk (l0 : List TSent) (A0 : Option Addr) (n0 c0 : Nat) (l1 : List TSent) (A1 : Option Addr) (n1 c1 : Nat) (a2 : Int) (w : World) (hm0 : n0 ≤ maxLen) (R0 : Rd w 0 w.heap.size 3 A0 n0 (cSent l0)) (H0 : Hid (cSentOk l0)) (hm1 : n1 ≤ maxLen) (R1 : Rd w 0 w.heap.size 3 A1 n1 (cSent l1)) (H1 : Hid (cSentOk l1)) (wf2 : (Lit.int .i64 a2).wf = true) :
    Calls Try.prog 6 #[.slice A0 n0 c0, .slice A1 n1 c1, .int .i64 a2] w fun e w' => e = .returned (.bool true) ∧ Below w.heap.size w w' := by
  have hm0 : n0 ≤ 9223372036854775807 := hm0
  have hm1 : n1 ≤ 9223372036854775807 := hm1
  have Wf2 := Lib.hid wf2
  clear wf2
  by_cases hz0 : n0 ≤ 1048576
  · skip
    by_cases hz1 : n0 + n1 ≤ 1048576
    · skip
      go_enter Try.func6, Try.ntmps6
      go_wp2_with fail
      refine (sz_sent A0 n0 c0 (1048576) _ hm0 (by omega) (by omega)).mono ?_
      rintro e w1 hq
      obtain ⟨rfl, B1⟩ := hq.says
      replace R0 := R0.new B1
      replace R1 := R1.new B1
      have G := B1
      have S1 := Lib.hid B1.size
      clear B1
      go_wp2_with fail
      refine (sz_sent A1 n1 c1 (1048576 - (n0 : Int)) _ hm1 (by omega) (by omega)).mono ?_
      rintro e w2 hq
      obtain ⟨rfl, B2⟩ := hq.says
      replace R0 := R0.new B2
      replace R1 := R1.new B2
      replace G := below_trans G B2 (Nat.le_refl _)
      have S2 := Lib.hid B2.size
      clear B2
      go_wp2_with fail
      refine (to_sent l0 A0 n0 c0 _ _ _ (by omega) R0).mono ?_
      rintro e w3 ⟨T3, tc3, rfl, FT3, B3⟩
      replace R0 := R0.new B3
      replace R1 := R1.new B3
      replace G := below_trans G B3 (Nat.le_refl _)
      have S3 := Lib.hid B3.size
      clear B3
      go_wp2_with fail
      refine (to_sent l1 A1 n1 c1 _ _ _ (by omega) R1).mono ?_
      rintro e w4 ⟨T4, tc4, rfl, FT4, B4⟩
      replace R0 := R0.new B4
      replace R1 := R1.new B4
      replace FT3 := FT3.new B4
      replace G := below_trans G B4 (Nat.le_refl _)
      have S4 := Lib.hid B4.size
      clear B4
      go_wp2_with fail
      refine (spec_SameSent l0 T3 n0 tc3 _ _ l1 T4 n1 tc4 _ _ a2 _ (by omega) FT3.rd H0 (by omega) FT4.rd H1 Wf2.out).mono ?_
      rintro e w5 ⟨rfl, B5⟩
      replace R0 := R0.new B5
      replace R1 := R1.new B5
      replace FT3 := FT3.new B5
      replace FT4 := FT4.new B5
      replace G := below_trans G B5 (Nat.le_refl _)
      have S5 := Lib.hid B5.size
      clear B5
      clear FT3
      clear FT4
      go_wp2_with fail
      refine (to_sent l0 A0 n0 c0 _ _ _ (by omega) R0).mono ?_
      rintro e w6 ⟨T6, tc6, rfl, FT6, B6⟩
      replace R0 := R0.new B6
      replace R1 := R1.new B6
      replace G := below_trans G B6 (Nat.le_refl _)
      have S6 := Lib.hid B6.size
      clear B6
      go_wp2_with fail
      refine (to_sent l1 A1 n1 c1 _ _ _ (by omega) R1).mono ?_
      rintro e w7 ⟨T7, tc7, rfl, FT7, B7⟩
      replace R0 := R0.new B7
      replace R1 := R1.new B7
      replace FT6 := FT6.new B7
      replace G := below_trans G B7 (Nat.le_refl _)
      have S7 := Lib.hid B7.size
      clear B7
      go_wp2_with fail
      refine (impl_SameSent l0 T6 n0 tc6 _ _ l1 T7 n1 tc7 _ _ a2 _ (by omega) FT6.rd H0 (by omega) FT7.rd H1 Wf2.out).mono ?_
      rintro e w8 ⟨rfl, B8⟩
      replace R0 := R0.new B8
      replace R1 := R1.new B8
      replace FT6 := FT6.new B8
      replace FT7 := FT7.new B8
      replace G := below_trans G B8 (Nat.le_refl _)
      have S8 := Lib.hid B8.size
      clear B8
      go_wp2_with fail
      refine (to_sent l0 A0 n0 c0 _ _ _ (by omega) R0).mono ?_
      rintro e w9 ⟨T9, tc9, rfl, FT9, B9⟩
      replace R0 := R0.new B9
      replace R1 := R1.new B9
      replace FT6 := FT6.new B9
      replace FT7 := FT7.new B9
      replace G := below_trans G B9 (Nat.le_refl _)
      have S9 := Lib.hid B9.size
      clear B9
      go_wp2_with fail
      refine (eq_sent_same l0 T6 T9 n0 n0 tc6 tc9 _ _ _ _ _ (by omega) (by omega) FT6.rd FT9.rd).mono ?_
      rintro e w10 ⟨rfl, B10⟩
      replace R0 := R0.new B10
      replace R1 := R1.new B10
      replace FT6 := FT6.new B10
      replace FT7 := FT7.new B10
      replace FT9 := FT9.new B10
      replace G := below_trans G B10 (Nat.le_refl _)
      have S10 := Lib.hid B10.size
      clear B10
      clear FT9
      go_wp2_with fail
      refine (to_sent l1 A1 n1 c1 _ _ _ (by omega) R1).mono ?_
      rintro e w11 ⟨T11, tc11, rfl, FT11, B11⟩
      replace R0 := R0.new B11
      replace R1 := R1.new B11
      replace FT6 := FT6.new B11
      replace FT7 := FT7.new B11
      replace G := below_trans G B11 (Nat.le_refl _)
      have S11 := Lib.hid B11.size
      clear B11
      go_wp2_with fail
      refine (eq_sent_same l1 T7 T11 n1 n1 tc7 tc11 _ _ _ _ _ (by omega) (by omega) FT7.rd FT11.rd).mono ?_
      rintro e w12 ⟨rfl, B12⟩
      replace R0 := R0.new B12
      replace R1 := R1.new B12
      replace FT6 := FT6.new B12
      replace FT7 := FT7.new B12
      replace FT11 := FT11.new B12
      replace G := below_trans G B12 (Nat.le_refl _)
      have S12 := Lib.hid B12.size
      clear B12
      clear FT11
      go_wp2_with fail
      go_ret
      exact ⟨rfl, G⟩
    · skip
      go_enter Try.func6, Try.ntmps6
      go_wp2_with fail
      refine (sz_sent A0 n0 c0 (1048576) _ hm0 (by omega) (by omega)).mono ?_
      rintro e w1 hq
      obtain ⟨rfl, B13⟩ := hq.says
      have G := B13
      have S1 := Lib.hid B13.size
      clear B13
      go_wp2_with fail
      refine (szno_sent A1 n1 c1 (1048576 - (n0 : Int)) _ hm1 (by omega) (by omega) (by omega)).mono ?_
      rintro e w2 hq
      obtain ⟨rfl, B14⟩ := hq.says
      replace G := below_trans G B14 (Nat.le_refl _)
      have S2 := Lib.hid B14.size
      clear B14
      go_wp2_with fail
      go_ret
      exact ⟨rfl, G⟩
  · skip
    go_enter Try.func6, Try.ntmps6
    go_wp2_with fail
    refine (szno_sent A0 n0 c0 (1048576) _ hm0 (by omega) (by omega) (by omega)).mono ?_
    rintro e w1 hq
    obtain ⟨rfl, B15⟩ := hq.says
    have G := B15
    have S1 := Lib.hid B15.size
    clear B15
    go_wp2_with fail
    go_ret
    exact ⟨rfl, G⟩

set_option maxRecDepth 100000 in
theorem lifted (os : Os) (started : os.Started) (H : Type) (enc : TypeId × Value → H) :
    ReturnsInHanded {} Try.checked os 6 .any (Rows.fnExactSameSentSpec.pre6 enc Try.prog Try.f6 Rows.fnExactSameSentRow.domain false) (Rows.fnExactSameSentSpec.post enc Try.prog Try.f6 false true false false) := by
  refine law_lifted Try.func6 (by kernel_rfl) rfl rfl (by kernel_rfl) os started
    (ChangeSpec.witness6 (enc := enc) (C := Try.checked) false ⟨#[], #[.slice none 0 0, .slice none 0 0, .int .i64 0], []⟩ 8 (by kernel_rfl) (by kernel_rfl) (by kernel_rfl) (by kernel_rfl)) ?_
  intro W base args ds p hval hA hlt
  rw [Try.params6] at hA hval
  obtain ⟨v0, vs0, d0, ds0, p0, q0, hargs, rfl, rfl, h0, r0⟩ := trodAll_cons hA
  obtain ⟨v1, vs1, d1, ds1, p1, q1, rfl, rfl, rfl, h1, r1⟩ := trodAll_cons r0
  obtain ⟨v2, vs2, d2, ds2, p2, q2, rfl, rfl, rfl, h2, r2⟩ := trodAll_cons r1
  obtain ⟨rfl, rfl, rfl⟩ := trodAll_nil r2
  obtain rfl : args = #[v0, v1, v2] := by cases args; simp_all
  obtain ⟨A0, n0, c0, l0, rfl, m0, R0, H0⟩ := open_sent_list (hval 0 65 v0 rfl rfl) h0 (fun x hx => hlt x (by simp [hx]))
  obtain ⟨A1, n1, c1, l1, rfl, m1, R1, H1⟩ := open_sent_list (hval 1 65 v1 rfl rfl) h1 (fun x hx => hlt x (by simp [hx]))
  obtain ⟨a2, rfl, rfl, rfl, wf2⟩ := open_int Try.underlying3 (hval 2 3 v2 rfl rfl) h2
  exact ⟨⟨rfl, rfl, rfl⟩, walk l0 A0 n0 c0 l1 A1 n1 c1 a2 W m0 R0 H0 m1 R1 H1 wf2⟩

set_option maxRecDepth 100000 in
set_option maxHeartbeats 8000000 in
theorem closed : joinedFacts Try.pinned.checked.prog 6 Try.f6 Rows.fnExactSameSentSpec Rows.fnExactSameSentRow = true :=
  (and_i (and_i (and_i (and_i (and_i (and_i (and_i (and_i (and_i (and_i (and_i (and_i (and_i (and_i (and_i (and_i (and_i (and_i (and_i (and_i (and_i (and_i (and_i (and_i (and_i (and_i (and_i (and_i (and_i (and_i (and_i (by as_aux_lemma => kernel_rfl) seatLaid) sf_maps) (by as_aux_lemma => kernel_rfl)) (by as_aux_lemma => kernel_rfl)) (by as_aux_lemma => kernel_rfl)) (by as_aux_lemma => kernel_rfl)) (by as_aux_lemma => kernel_rfl)) (by as_aux_lemma => kernel_rfl)) (by as_aux_lemma => kernel_rfl)) (by as_aux_lemma => kernel_rfl)) (by as_aux_lemma => kernel_rfl)) (by as_aux_lemma => kernel_rfl)) (by as_aux_lemma => kernel_rfl)) (by as_aux_lemma => kernel_rfl)) (by as_aux_lemma => kernel_rfl)) (by as_aux_lemma => kernel_rfl)) (by as_aux_lemma => kernel_rfl)) (by as_aux_lemma => kernel_rfl)) (by as_aux_lemma => kernel_rfl)) (by as_aux_lemma => kernel_rfl)) (by as_aux_lemma => kernel_rfl)) sf_plain) (by as_aux_lemma => kernel_rfl)) sf_heard) sf_enter) sf_lifts) sf_make) (by as_aux_lemma => kernel_rfl)) (by as_aux_lemma => kernel_rfl)) (by as_aux_lemma => kernel_rfl)) (by as_aux_lemma => kernel_rfl))

theorem over : Rows.fnExactSameSentRow.holds Try.pinned (OpenSpec.ofChange Rows.fnExactSameSentSpec) :=
  OpenClaim.holds_of_wide 6 Try.f6 rfl rfl rfl rfl rfl rfl rfl ⟨rfl, rfl, rfl, rfl, rfl⟩ rfl rfl rfl rfl rfl (by kernel_rfl) Try.func6 closed
    (of_decide_eq_true (by kernel_rfl)) (by unfold Func.isWrapper; first | (rw [if_pos (by decide +kernel)]; kernel_rfl) | (rw [if_neg (by decide +kernel)]; exact ⟨rfl, rfl⟩))
    (fun os started H enc _ => lifted os started H enc)

theorem proved : Rows.FnExactSameSentSaid := over
#print axioms proved
end Go.Proofs.Ytcankpiidjhhpaa.fnExactSameSent
