/- The law FnExactLendTo answers true for every argument, and leaves each argument as it was. No condition. -/
import Derived.Test.YtkhadhplfmejlaaFacts
import Derived.Test.YtkhadhplfmejlaaTGrant
import Derived.Test.YtkhadhplfmejlaaTSite
import Derived.Test.YtkhadhplfmejlaaLTo
namespace Go.Proofs.Ytkhadhplfmejlaa.fnExactLendTo
open Go Go.ChangeShapes Go.WideShapes Go.ChangeAt Go.RowKit Go.Lib
open Go.ChangeMaps (open_string)
set_option linter.unusedVariables false
set_option linter.unusedSimpArgs false
set_option maxRecDepth 100000

theorem drw_size {W w' : World} (hb : Below W.drew.heap.size W.drew w') : W.heap.size ≤ w'.heap.size := hb.size
set_option maxRecDepth 100000 in
set_option maxHeartbeats 20000000 in
theorem walk (l0 : List TGrant) (A0 : Option Addr) (n0 c0 : Nat) (a1 : Int) (a2 : TSite) (a3 : Int) (w : World) (hm0 : n0 ≤ maxLen) (R0 : Rd w 0 w.heap.size 7 A0 n0 (cGrant l0)) (H0 : Hid (cGrantOk l0)) (wf1 : (Lit.int .i64 a1).wf = true) (H2 : Hid (TSite.fit a2)) (wf3 : (Lit.int .i64 a3).wf = true) :
    Calls Try.prog 3 #[.slice A0 n0 c0, .int .i64 a1, .agg #[.int .i64 a2.f0, .int .i64 a2.f1], .int .i64 a3] w fun e w' => e = .returned (.bool true) ∧ Below w.heap.size w w' := by
  have hm0 : n0 ≤ 9223372036854775807 := hm0
  have Wf1 := Lib.hid wf1
  clear wf1
  have Wf3 := Lib.hid wf3
  clear wf3
  by_cases hz0 : n0 ≤ 1048576
  · skip
    have hl0 : (mLT l0 a1 a2 a3).length ≤ 17179869184 := by (have := rd_len TGrant.len R0 (by decide); have := mLT_len l0 a1 a2 a3; omega)
    have G : Below w.heap.size w (w.alloc (.cells #[.int .i64 a2.f0, .int .i64 a2.f1] 24)) := (Below.refl _ _).alloc (by simp) _
    have S0 := Lib.hid (show (w.alloc (.cells #[.int .i64 a2.f0, .int .i64 a2.f1] 24)).heap.size = w.heap.size + 1 by simp)
    replace R0 := R0.alloc (.cells #[.int .i64 a2.f0, .int .i64 a2.f1] 24)
    have KB2 : BoxAt (w.alloc (.cells #[.int .i64 a2.f0, .int .i64 a2.f1] 24)) (w.heap.size) 24 #[.int .i64 a2.f0, .int .i64 a2.f1] := box_new _ _ _
    go_enter Try.func3, Try.ntmps3
    go_wp2_with fail
    refine (sz_grant A0 n0 c0 (1048576) _ hm0 (by omega) (by omega)).mono ?_
    rintro e w1 hq
    obtain ⟨rfl, B1⟩ := hq.says
    replace R0 := R0.new B1
    replace KB2 := KB2.new B1
    replace G := below_trans G B1 (Nat.le_refl _)
    have S1 := Lib.hid B1.size
    clear B1
    go_wp2_with fail
    replace R0 := R0.drw
    replace KB2 := KB2.drw
    replace G := G.drew
    go_region_held3 (fun w' => w'.cell? ⟨w.heap.size, 0, none⟩ = some (.int .i64 a2.f0) ∧ w'.cell? ⟨w.heap.size, 1, none⟩ = some (.int .i64 a2.f1))
      (exact ⟨KB2.at_ rfl, KB2.at_ rfl⟩)
      (first
        | (go_at_call 13; refine Calls.mono (to_grant l0 A0 n0 c0 _ _ _ (by omega) R0) ?_; rintro e w2 ⟨T2, tc2, rfl, FT2, B2⟩; (replace R0 := rd_nw B2 R0); (replace KB2 := box_nw B2 KB2); (replace G := below_trans G B2 (Nat.le_refl _)); (have S2 := Lib.hid (drw_size B2)))
        | (go_at_call 14; (with_reducible refine Calls.mono (to_site_one a2 _) ?_); rintro e w3 ⟨rfl, B3⟩; (replace R0 := rd_nw B3 R0); (replace KB2 := box_nw B3 KB2); (replace FT2 := fr_nw B3 FT2); (replace G := below_trans G B3 (Nat.le_refl _)); (have S3 := Lib.hid (show w2.heap.size ≤ w3.heap.size from B3.size)))
        | (go_at_call 12; refine Calls.mono (spec_LendTo l0 T2 n0 tc2 _ _ a1 a2 a3 _ (by omega) FT2.rd H0) ?_; rintro e w4 ⟨P4_0, pc4_0, rfl, FP4_0, B4⟩; (replace R0 := rd_nw B4 R0); (replace KB2 := box_nw B4 KB2); (replace FT2 := fr_nw B4 FT2); (replace G := below_trans G B4 (Nat.le_refl _)); (have S4 := Lib.hid (show w3.heap.size ≤ w4.heap.size from B4.size))))
    clear B2
    clear B3
    clear B4
    clear FT2
    go_wp2_with fail
    refine (to_grant l0 A0 n0 c0 _ _ _ (by omega) R0).mono ?_
    rintro e w5 ⟨T5, tc5, rfl, FT5, B5⟩
    replace R0 := R0.new B5
    replace KB2 := KB2.new B5
    replace FP4_0 := FP4_0.new B5
    replace G := below_trans G B5 (Nat.le_refl _)
    have S5 := Lib.hid B5.size
    clear B5
    have x6_0 : w5.cell? ⟨w.heap.size, 0, none⟩ = some (.int .i64 a2.f0) := KB2.at_ rfl
    have x6_1 : w5.cell? ⟨w.heap.size, 1, none⟩ = some (.int .i64 a2.f1) := KB2.at_ rfl
    go_wp2_with fail
    clear x6_0 x6_1
    refine (to_site_one a2 _).mono ?_
    rintro e w6 ⟨rfl, B6⟩
    replace R0 := R0.new B6
    replace KB2 := KB2.new B6
    replace FP4_0 := FP4_0.new B6
    replace FT5 := FT5.new B6
    replace G := below_trans G B6 (Nat.le_refl _)
    have S6 := Lib.hid B6.size
    clear B6
    go_wp2_with fail
    refine (impl_LendTo l0 T5 n0 tc5 _ _ a1 a2 a3 _ (by omega) FT5.rd H0).mono ?_
    rintro e w7 ⟨P7_0, pc7_0, rfl, FP7_0, B7⟩
    replace R0 := R0.new B7
    replace KB2 := KB2.new B7
    replace FP4_0 := FP4_0.new B7
    replace FT5 := FT5.new B7
    replace G := below_trans G B7 (Nat.le_refl _)
    have S7 := Lib.hid B7.size
    clear B7
    go_wp2_with fail
    refine (eq_grant_same (mLT l0 a1 a2 a3) P7_0 P4_0 _ _ pc7_0 pc4_0 _ _ _ _ _ (by omega) (by omega) FP7_0.rd FP4_0.rd).mono ?_
    rintro e w8 ⟨rfl, B8⟩
    replace R0 := R0.new B8
    replace KB2 := KB2.new B8
    replace FP4_0 := FP4_0.new B8
    replace FT5 := FT5.new B8
    replace FP7_0 := FP7_0.new B8
    replace G := below_trans G B8 (Nat.le_refl _)
    have S8 := Lib.hid B8.size
    clear B8
    go_wp2_with fail
    refine (to_grant l0 A0 n0 c0 _ _ _ (by omega) R0).mono ?_
    rintro e w9 ⟨T9, tc9, rfl, FT9, B9⟩
    replace R0 := R0.new B9
    replace KB2 := KB2.new B9
    replace FP4_0 := FP4_0.new B9
    replace FT5 := FT5.new B9
    replace FP7_0 := FP7_0.new B9
    replace G := below_trans G B9 (Nat.le_refl _)
    have S9 := Lib.hid B9.size
    clear B9
    go_wp2_with fail
    refine (eq_grant_same l0 T5 T9 n0 n0 tc5 tc9 _ _ _ _ _ (by omega) (by omega) FT5.rd FT9.rd).mono ?_
    rintro e w10 ⟨rfl, B10⟩
    replace R0 := R0.new B10
    replace KB2 := KB2.new B10
    replace FP4_0 := FP4_0.new B10
    replace FT5 := FT5.new B10
    replace FP7_0 := FP7_0.new B10
    replace FT9 := FT9.new B10
    replace G := below_trans G B10 (Nat.le_refl _)
    have S10 := Lib.hid B10.size
    clear B10
    clear FT9
    go_wp2_with fail
    refine (mark_grant _ T5 n0 tc5 _ _ (1) _ (by omega) (by omega) FT5).mono ?_
    rintro e w11 ⟨rfl, FM11, C11, E11⟩
    replace R0 := R0.chg C11 (by have := S0.out; have := S1.out; have := S2.out; have := S3.out; have := S4.out; have := S5.out; have := S6.out; have := S7.out; have := S8.out; have := S9.out; have := S10.out; omega)
    replace KB2 := KB2.chg C11 (by have := S0.out; have := S1.out; have := S2.out; have := S3.out; have := S4.out; have := S5.out; have := S6.out; have := S7.out; have := S8.out; have := S9.out; have := S10.out; omega)
    replace FP4_0 := FP4_0.chg C11 (by have := S0.out; have := S1.out; have := S2.out; have := S3.out; have := S4.out; have := S5.out; have := S6.out; have := S7.out; have := S8.out; have := S9.out; have := S10.out; omega)
    replace FP7_0 := FP7_0.chg C11 (by have := S0.out; have := S1.out; have := S2.out; have := S3.out; have := S4.out; have := S5.out; have := S6.out; have := S7.out; have := S8.out; have := S9.out; have := S10.out; omega)
    replace G := G.trans (C11.below (.inl (by have := S0.out; have := S1.out; have := S2.out; have := S3.out; have := S4.out; have := S5.out; have := S6.out; have := S7.out; have := S8.out; have := S9.out; have := S10.out; omega)) (by have := S0.out; have := S1.out; have := S2.out; have := S3.out; have := S4.out; have := S5.out; have := S6.out; have := S7.out; have := S8.out; have := S9.out; have := S10.out; omega))
    clear FT5
    have S11 := Lib.hid (show w11.heap.size = w10.heap.size from E11)
    clear E11
    clear C11
    clear FM11
    go_wp2_with fail
    refine (eq_grant_same (mLT l0 a1 a2 a3) P7_0 P4_0 _ _ pc7_0 pc4_0 _ _ _ _ _ (by omega) (by omega) FP7_0.rd FP4_0.rd).mono ?_
    rintro e w12 ⟨rfl, B12⟩
    replace R0 := R0.new B12
    replace KB2 := KB2.new B12
    replace FP4_0 := FP4_0.new B12
    replace FP7_0 := FP7_0.new B12
    replace G := below_trans G B12 (Nat.le_refl _)
    have S12 := Lib.hid B12.size
    clear B12
    go_wp2_with fail
    refine (mark_grant _ P7_0 _ pc7_0 _ _ (1) _ (by omega) (by omega) FP7_0).mono ?_
    rintro e w13 ⟨rfl, FM13, C13, E13⟩
    replace R0 := R0.chg C13 (by have := S0.out; have := S1.out; have := S2.out; have := S3.out; have := S4.out; have := S5.out; have := S6.out; have := S7.out; have := S8.out; have := S9.out; have := S10.out; have := S11.out; have := S12.out; omega)
    replace KB2 := KB2.chg C13 (by have := S0.out; have := S1.out; have := S2.out; have := S3.out; have := S4.out; have := S5.out; have := S6.out; have := S7.out; have := S8.out; have := S9.out; have := S10.out; have := S11.out; have := S12.out; omega)
    replace FP4_0 := FP4_0.chg C13 (by have := S0.out; have := S1.out; have := S2.out; have := S3.out; have := S4.out; have := S5.out; have := S6.out; have := S7.out; have := S8.out; have := S9.out; have := S10.out; have := S11.out; have := S12.out; omega)
    replace G := G.trans (C13.below (.inl (by have := S0.out; have := S1.out; have := S2.out; have := S3.out; have := S4.out; have := S5.out; have := S6.out; have := S7.out; have := S8.out; have := S9.out; have := S10.out; have := S11.out; have := S12.out; omega)) (by have := S0.out; have := S1.out; have := S2.out; have := S3.out; have := S4.out; have := S5.out; have := S6.out; have := S7.out; have := S8.out; have := S9.out; have := S10.out; have := S11.out; have := S12.out; omega))
    clear FP7_0
    have S13 := Lib.hid (show w13.heap.size = w12.heap.size from E13)
    clear E13
    clear C13
    go_wp2_with fail
    refine (held_grant P7_0 _ pc7_0 _ _ (1) _ (by omega) (by omega) FM13.rd).mono ?_
    rintro e w14 hq
    obtain ⟨rfl, B14⟩ := hq.says
    replace R0 := R0.new B14
    replace KB2 := KB2.new B14
    replace FP4_0 := FP4_0.new B14
    replace FM13 := FM13.new B14
    replace G := below_trans G B14 (Nat.le_refl _)
    have S14 := Lib.hid B14.size
    clear B14
    go_wp2_with fail
    replace R0 := R0.drw
    replace KB2 := KB2.drw
    replace FP4_0 := FP4_0.drw
    replace FM13 := FM13.drw
    replace G := G.drew
    go_region_held3 (fun w' => w'.cell? ⟨w.heap.size, 0, none⟩ = some (.int .i64 a2.f0) ∧ w'.cell? ⟨w.heap.size, 1, none⟩ = some (.int .i64 a2.f1))
      (exact ⟨KB2.at_ rfl, KB2.at_ rfl⟩)
      (first
        | (go_at_call 13; refine Calls.mono (to_grant l0 A0 n0 c0 _ _ _ (by omega) R0) ?_; rintro e w15 ⟨T15, tc15, rfl, FT15, B15⟩; (replace R0 := rd_nw B15 R0); (replace KB2 := box_nw B15 KB2); (replace FP4_0 := fr_nw B15 FP4_0); (replace FM13 := fr_nw B15 FM13); (replace G := below_trans G B15 (Nat.le_refl _)); (have S15 := Lib.hid (drw_size B15)))
        | (go_at_call 14; (with_reducible refine Calls.mono (to_site_one a2 _) ?_); rintro e w16 ⟨rfl, B16⟩; (replace R0 := rd_nw B16 R0); (replace KB2 := box_nw B16 KB2); (replace FP4_0 := fr_nw B16 FP4_0); (replace FM13 := fr_nw B16 FM13); (replace FT15 := fr_nw B16 FT15); (replace G := below_trans G B16 (Nat.le_refl _)); (have S16 := Lib.hid (show w15.heap.size ≤ w16.heap.size from B16.size)))
        | (go_at_call 15; refine Calls.mono (impl_LendTo l0 T15 n0 tc15 _ _ a1 a2 a3 _ (by omega) FT15.rd H0) ?_; rintro e w17 ⟨P17_0, pc17_0, rfl, FP17_0, B17⟩; (replace R0 := rd_nw B17 R0); (replace KB2 := box_nw B17 KB2); (replace FP4_0 := fr_nw B17 FP4_0); (replace FM13 := fr_nw B17 FM13); (replace FT15 := fr_nw B17 FT15); (replace G := below_trans G B17 (Nat.le_refl _)); (have S17 := Lib.hid (show w16.heap.size ≤ w17.heap.size from B17.size))))
    clear B15
    clear B16
    clear B17
    clear FT15
    go_wp2_with fail
    refine (eq_grant_same (mLT l0 a1 a2 a3) P17_0 P4_0 _ _ pc17_0 pc4_0 _ _ _ _ _ (by omega) (by omega) FP17_0.rd FP4_0.rd).mono ?_
    rintro e w18 ⟨rfl, B18⟩
    replace R0 := R0.new B18
    replace KB2 := KB2.new B18
    replace FP4_0 := FP4_0.new B18
    replace FM13 := FM13.new B18
    replace FP17_0 := FP17_0.new B18
    replace G := below_trans G B18 (Nat.le_refl _)
    have S18 := Lib.hid B18.size
    clear B18
    go_wp2_with fail
    refine (held_grant P7_0 _ pc7_0 _ _ (1) _ (by omega) (by omega) FM13.rd).mono ?_
    rintro e w19 hq
    obtain ⟨rfl, B19⟩ := hq.says
    replace R0 := R0.new B19
    replace KB2 := KB2.new B19
    replace FP4_0 := FP4_0.new B19
    replace FM13 := FM13.new B19
    replace FP17_0 := FP17_0.new B19
    replace G := below_trans G B19 (Nat.le_refl _)
    have S19 := Lib.hid B19.size
    clear B19
    go_wp2_with fail
    go_ret
    exact ⟨rfl, G⟩
  · skip
    have G : Below w.heap.size w (w.alloc (.cells #[.int .i64 a2.f0, .int .i64 a2.f1] 24)) := (Below.refl _ _).alloc (by simp) _
    have S0 := Lib.hid (show (w.alloc (.cells #[.int .i64 a2.f0, .int .i64 a2.f1] 24)).heap.size = w.heap.size + 1 by simp)
    have KB2 : BoxAt (w.alloc (.cells #[.int .i64 a2.f0, .int .i64 a2.f1] 24)) (w.heap.size) 24 #[.int .i64 a2.f0, .int .i64 a2.f1] := box_new _ _ _
    go_enter Try.func3, Try.ntmps3
    go_wp2_with fail
    refine (szno_grant A0 n0 c0 (1048576) _ hm0 (by omega) (by omega) (by omega)).mono ?_
    rintro e w1 hq
    obtain ⟨rfl, B20⟩ := hq.says
    replace KB2 := KB2.new B20
    replace G := below_trans G B20 (Nat.le_refl _)
    have S1 := Lib.hid B20.size
    clear B20
    go_wp2_with fail
    go_ret
    exact ⟨rfl, G⟩

set_option maxRecDepth 100000 in
theorem lifted (os : Os) (started : os.Started) (H : Type) (enc : TypeId × Value → H) :
    ReturnsInHanded {} Try.checked os 3 .any (Rows.fnExactLendToSpec.pre6 enc Try.prog Try.f3 Rows.fnExactLendToRow.domain false) (Rows.fnExactLendToSpec.post enc Try.prog Try.f3 false true false false) := by
  refine law_lifted Try.func3 (by kernel_rfl) rfl rfl (by kernel_rfl) os started
    (ChangeSpec.witness6 (enc := enc) (C := Try.checked) false ⟨#[], #[.slice none 0 0, .int .i64 0, .agg #[.int .i64 0, .int .i64 0], .int .i64 0], []⟩ 8 (by kernel_rfl) (by kernel_rfl) (by kernel_rfl) (by kernel_rfl)) ?_
  intro W base args ds p hval hA hlt
  rw [Try.params3] at hA hval
  obtain ⟨v0, vs0, d0, ds0, p0, q0, hargs, rfl, rfl, h0, r0⟩ := trodAll_cons hA
  obtain ⟨v1, vs1, d1, ds1, p1, q1, rfl, rfl, rfl, h1, r1⟩ := trodAll_cons r0
  obtain ⟨v2, vs2, d2, ds2, p2, q2, rfl, rfl, rfl, h2, r2⟩ := trodAll_cons r1
  obtain ⟨v3, vs3, d3, ds3, p3, q3, rfl, rfl, rfl, h3, r3⟩ := trodAll_cons r2
  obtain ⟨rfl, rfl, rfl⟩ := trodAll_nil r3
  obtain rfl : args = #[v0, v1, v2, v3] := by cases args; simp_all
  obtain ⟨A0, n0, c0, l0, rfl, m0, R0, H0⟩ := open_grant_list (hval 0 22 v0 rfl rfl) h0 (fun x hx => hlt x (by simp [hx]))
  obtain ⟨a1, rfl, rfl, rfl, wf1⟩ := open_int Try.underlying3 (hval 1 3 v1 rfl rfl) h1
  obtain ⟨a2, rfl, H2⟩ := open_site (hval 2 24 v2 rfl rfl) h2
  obtain ⟨a3, rfl, rfl, rfl, wf3⟩ := open_int Try.underlying3 (hval 3 3 v3 rfl rfl) h3
  exact ⟨⟨rfl, rfl, rfl⟩, walk l0 A0 n0 c0 a1 a2 a3 W m0 R0 H0 wf1 H2 wf3⟩

set_option maxRecDepth 100000 in
set_option maxHeartbeats 8000000 in
theorem closed : joinedFacts Try.pinned.checked.prog 3 Try.f3 Rows.fnExactLendToSpec Rows.fnExactLendToRow = true :=
  (and_i (and_i (and_i (and_i (and_i (and_i (and_i (and_i (and_i (and_i (and_i (and_i (and_i (and_i (and_i (and_i (and_i (and_i (and_i (and_i (and_i (and_i (and_i (and_i (and_i (and_i (and_i (and_i (and_i (and_i (and_i (by as_aux_lemma => kernel_rfl) seatLaid) sf_maps) (by as_aux_lemma => kernel_rfl)) (by as_aux_lemma => kernel_rfl)) (by as_aux_lemma => kernel_rfl)) (by as_aux_lemma => kernel_rfl)) (by as_aux_lemma => kernel_rfl)) (by as_aux_lemma => kernel_rfl)) (by as_aux_lemma => kernel_rfl)) (by as_aux_lemma => kernel_rfl)) (by as_aux_lemma => kernel_rfl)) (by as_aux_lemma => kernel_rfl)) (by as_aux_lemma => kernel_rfl)) (by as_aux_lemma => kernel_rfl)) (by as_aux_lemma => kernel_rfl)) (by as_aux_lemma => kernel_rfl)) (by as_aux_lemma => kernel_rfl)) (by as_aux_lemma => kernel_rfl)) (by as_aux_lemma => kernel_rfl)) (by as_aux_lemma => kernel_rfl)) (by as_aux_lemma => kernel_rfl)) sf_plain) (by as_aux_lemma => kernel_rfl)) sf_heard) sf_enter) sf_lifts) sf_make) (by as_aux_lemma => kernel_rfl)) (by as_aux_lemma => kernel_rfl)) (by as_aux_lemma => kernel_rfl)) (by as_aux_lemma => kernel_rfl))

theorem over : Rows.fnExactLendToRow.holds Try.pinned (OpenSpec.ofChange Rows.fnExactLendToSpec) :=
  OpenClaim.holds_of_wide 3 Try.f3 rfl rfl rfl rfl rfl rfl rfl ⟨rfl, rfl, rfl, rfl, rfl⟩ rfl rfl rfl rfl rfl (by kernel_rfl) Try.func3 closed
    (of_decide_eq_true (by kernel_rfl)) (by unfold Func.isWrapper; first | (rw [if_pos (by decide +kernel)]; kernel_rfl) | (rw [if_neg (by decide +kernel)]; exact ⟨rfl, rfl⟩))
    (fun os started H enc _ => lifted os started H enc)

theorem proved : Rows.FnExactLendToSaid := over
#print axioms proved
end Go.Proofs.Ytkhadhplfmejlaa.fnExactLendTo
