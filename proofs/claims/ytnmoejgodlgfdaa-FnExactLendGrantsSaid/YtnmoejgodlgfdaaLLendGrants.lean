/- The law FnExactLendGrants answers true for every argument, and leaves each argument as it was. No condition. -/
import Derived.Test.YtnmoejgodlgfdaaTGrant
import Derived.Test.YtnmoejgodlgfdaaTSite
import Derived.Test.YtnmoejgodlgfdaaLend
namespace Go.Proofs.Ytnmoejgodlgfdaa.fnExactLendGrants
open Go Go.ChangeShapes Go.WideShapes Go.ChangeAt Go.RowKit Go.Lib
open Go.ChangeMaps (open_string)
set_option linter.unusedVariables false
set_option maxRecDepth 100000

theorem drw_size {W w' : World} (hb : Below W.drew.heap.size W.drew w') : W.heap.size ≤ w'.heap.size := hb.size
set_option maxRecDepth 100000 in
set_option maxHeartbeats 20000000 in
theorem walk (a0 : Int) (a1 : TSite) (a2 : Int) (w : World) (wf0 : (Lit.int .i64 a0).wf = true) (H1 : Hid (TSite.fit a1)) (wf2 : (Lit.int .i64 a2).wf = true) :
    Calls Try.prog 9 #[.int .i64 a0, .agg #[.int .i64 a1.f0, .int .i64 a1.f1], .int .i64 a2] w fun e w' => e = .returned (.bool true) ∧ Below w.heap.size w w' := by
  have Wf0 := Lib.hid wf0
  clear wf0
  have Wf2 := Lib.hid wf2
  clear wf2
  have hl0 : (mLend a0 a1 a2).length ≤ 17179869184 := by (have := mLend_len a0 a1 a2; omega)
  have G : Below w.heap.size w (w.alloc (.cells #[.int .i64 a1.f0, .int .i64 a1.f1] 33)) := (Below.refl _ _).alloc (by simp) _
  have S0 := Lib.hid (show (w.alloc (.cells #[.int .i64 a1.f0, .int .i64 a1.f1] 33)).heap.size = w.heap.size + 1 by simp)
  have KB1 : BoxAt (w.alloc (.cells #[.int .i64 a1.f0, .int .i64 a1.f1] 33)) (w.heap.size) 33 #[.int .i64 a1.f0, .int .i64 a1.f1] := box_new _ _ _
  go_enter Try.func9, Try.ntmps9
  go_wp2_with fail
  refine (to_site_one a1 _).mono ?_
  rintro e w1 ⟨rfl, B1⟩
  replace KB1 := KB1.new B1
  replace G := below_trans G B1 (Nat.le_refl _)
  have S1 := Lib.hid B1.size
  clear B1
  go_wp2_with fail
  refine (spec_LendGrants a0 a1 a2 _ ).mono ?_
  rintro e w2 ⟨P2_0, pc2_0, rfl, FP2_0, B2⟩
  replace KB1 := KB1.new B2
  replace G := below_trans G B2 (Nat.le_refl _)
  have S2 := Lib.hid B2.size
  clear B2
  have x3_0 : w2.cell? ⟨w.heap.size, 0, none⟩ = some (.int .i64 a1.f0) := KB1.at_ rfl
  have x3_1 : w2.cell? ⟨w.heap.size, 1, none⟩ = some (.int .i64 a1.f1) := KB1.at_ rfl
  go_wp2_with fail
  clear x3_0 x3_1
  refine (to_site_one a1 _).mono ?_
  rintro e w3 ⟨rfl, B3⟩
  replace KB1 := KB1.new B3
  replace FP2_0 := FP2_0.new B3
  replace G := below_trans G B3 (Nat.le_refl _)
  have S3 := Lib.hid B3.size
  clear B3
  go_wp2_with fail
  refine (impl_LendGrants a0 a1 a2 _ ).mono ?_
  rintro e w4 ⟨P4_0, pc4_0, rfl, FP4_0, B4⟩
  replace KB1 := KB1.new B4
  replace FP2_0 := FP2_0.new B4
  replace G := below_trans G B4 (Nat.le_refl _)
  have S4 := Lib.hid B4.size
  clear B4
  go_wp2_with fail
  refine (eq_grant_same (mLend a0 a1 a2) P4_0 P2_0 _ _ pc4_0 pc2_0 _ _ _ _ _ (by omega) (by omega) FP4_0.rd FP2_0.rd).mono ?_
  rintro e w5 ⟨rfl, B5⟩
  replace KB1 := KB1.new B5
  replace FP2_0 := FP2_0.new B5
  replace FP4_0 := FP4_0.new B5
  replace G := below_trans G B5 (Nat.le_refl _)
  have S5 := Lib.hid B5.size
  clear B5
  go_wp2_with fail
  refine (mark_grant _ P4_0 _ pc4_0 _ _ (1) _ (by omega) (by omega) FP4_0).mono ?_
  rintro e w6 ⟨rfl, FM6, C6, E6⟩
  replace KB1 := KB1.chg C6 (by have := S0.out; have := S1.out; have := S2.out; have := S3.out; have := S4.out; have := S5.out; omega)
  replace FP2_0 := FP2_0.chg C6 (by have := S0.out; have := S1.out; have := S2.out; have := S3.out; have := S4.out; have := S5.out; omega)
  replace G := G.trans (C6.below (.inl (by have := S0.out; have := S1.out; have := S2.out; have := S3.out; have := S4.out; have := S5.out; omega)) (by have := S0.out; have := S1.out; have := S2.out; have := S3.out; have := S4.out; have := S5.out; omega))
  clear FP4_0
  have S6 := Lib.hid (show w6.heap.size = w5.heap.size from E6)
  clear E6
  clear C6
  go_wp2_with fail
  refine (held_grant P4_0 _ pc4_0 _ _ (1) _ (by omega) (by omega) FM6.rd).mono ?_
  rintro e w7 hq
  obtain ⟨rfl, B7⟩ := hq.says
  replace KB1 := KB1.new B7
  replace FP2_0 := FP2_0.new B7
  replace FM6 := FM6.new B7
  replace G := below_trans G B7 (Nat.le_refl _)
  have S7 := Lib.hid B7.size
  clear B7
  have x8_0 : w7.cell? ⟨w.heap.size, 0, none⟩ = some (.int .i64 a1.f0) := KB1.at_ rfl
  have x8_1 : w7.cell? ⟨w.heap.size, 1, none⟩ = some (.int .i64 a1.f1) := KB1.at_ rfl
  go_wp2_with fail
  clear x8_0 x8_1
  refine (to_site_one a1 _).mono ?_
  rintro e w8 ⟨rfl, B8⟩
  replace KB1 := KB1.new B8
  replace FP2_0 := FP2_0.new B8
  replace FM6 := FM6.new B8
  replace G := below_trans G B8 (Nat.le_refl _)
  have S8 := Lib.hid B8.size
  clear B8
  go_wp2_with fail
  refine (impl_LendGrants a0 a1 a2 _ ).mono ?_
  rintro e w9 ⟨P9_0, pc9_0, rfl, FP9_0, B9⟩
  replace KB1 := KB1.new B9
  replace FP2_0 := FP2_0.new B9
  replace FM6 := FM6.new B9
  replace G := below_trans G B9 (Nat.le_refl _)
  have S9 := Lib.hid B9.size
  clear B9
  go_wp2_with fail
  refine (eq_grant_same (mLend a0 a1 a2) P9_0 P2_0 _ _ pc9_0 pc2_0 _ _ _ _ _ (by omega) (by omega) FP9_0.rd FP2_0.rd).mono ?_
  rintro e w10 ⟨rfl, B10⟩
  replace KB1 := KB1.new B10
  replace FP2_0 := FP2_0.new B10
  replace FM6 := FM6.new B10
  replace FP9_0 := FP9_0.new B10
  replace G := below_trans G B10 (Nat.le_refl _)
  have S10 := Lib.hid B10.size
  clear B10
  go_wp2_with fail
  refine (held_grant P4_0 _ pc4_0 _ _ (1) _ (by omega) (by omega) FM6.rd).mono ?_
  rintro e w11 hq
  obtain ⟨rfl, B11⟩ := hq.says
  replace KB1 := KB1.new B11
  replace FP2_0 := FP2_0.new B11
  replace FM6 := FM6.new B11
  replace FP9_0 := FP9_0.new B11
  replace G := below_trans G B11 (Nat.le_refl _)
  have S11 := Lib.hid B11.size
  clear B11
  go_wp2_with fail
  go_ret
  exact ⟨rfl, G⟩

set_option maxRecDepth 100000 in
theorem lifted (os : Os) (started : os.Started) (H : Type) (enc : TypeId × Value → H) :
    ReturnsInHanded {} Try.checked os 9 .any (Rows.fnExactLendGrantsSpec.pre6 enc Try.prog Try.f9 Rows.fnExactLendGrantsRow.domain false) (Rows.fnExactLendGrantsSpec.post enc Try.prog Try.f9 false true false false) := by
  refine law_lifted Try.func9 (by kernel_rfl) rfl rfl (by kernel_rfl) os started
    (ChangeSpec.witness6 (enc := enc) (C := Try.checked) false ⟨#[], #[.int .i64 0, .agg #[.int .i64 0, .int .i64 0], .int .i64 0], []⟩ 8 (by kernel_rfl) (by kernel_rfl) (by kernel_rfl) (by kernel_rfl)) ?_
  intro W base args ds p hval hA hlt
  rw [Try.params9] at hA hval
  obtain ⟨v0, vs0, d0, ds0, p0, q0, hargs, rfl, rfl, h0, r0⟩ := trodAll_cons hA
  obtain ⟨v1, vs1, d1, ds1, p1, q1, rfl, rfl, rfl, h1, r1⟩ := trodAll_cons r0
  obtain ⟨v2, vs2, d2, ds2, p2, q2, rfl, rfl, rfl, h2, r2⟩ := trodAll_cons r1
  obtain ⟨rfl, rfl, rfl⟩ := trodAll_nil r2
  obtain rfl : args = #[v0, v1, v2] := by cases args; simp_all
  obtain ⟨a0, rfl, rfl, rfl, wf0⟩ := open_int Try.underlying3 (hval 0 3 v0 rfl rfl) h0
  obtain ⟨a1, rfl, H1⟩ := open_site (hval 1 33 v1 rfl rfl) h1
  obtain ⟨a2, rfl, rfl, rfl, wf2⟩ := open_int Try.underlying3 (hval 2 3 v2 rfl rfl) h2
  exact ⟨⟨rfl, rfl, rfl⟩, walk a0 a1 a2 W wf0 H1 wf2⟩

theorem over : Rows.fnExactLendGrantsRow.holds Try.pinned (OpenSpec.ofChange Rows.fnExactLendGrantsSpec) :=
  OpenClaim.holds_of_wide 9 Try.f9 rfl rfl rfl rfl rfl rfl rfl ⟨rfl, rfl, rfl, rfl, rfl⟩ rfl rfl rfl rfl rfl (by kernel_rfl) Try.func9 (by kernel_rfl)
    (of_decide_eq_true (by kernel_rfl)) (by unfold Func.isWrapper; first | (rw [if_pos (by decide +kernel)]; kernel_rfl) | (rw [if_neg (by decide +kernel)]; exact ⟨rfl, rfl⟩))
    (fun os started H enc _ => lifted os started H enc)

theorem proved : Rows.FnExactLendGrantsSaid := over
#print axioms proved
end Go.Proofs.Ytnmoejgodlgfdaa.fnExactLendGrants
