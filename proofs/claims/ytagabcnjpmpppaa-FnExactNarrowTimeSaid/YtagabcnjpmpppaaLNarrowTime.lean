/- The law FnExactNarrowTime answers true for every argument, and leaves each argument as it was. No condition. -/
import Derived.Deep.RegionHeld3
import Derived.Deep.DeepCutAuto
import Derived.Test.YtagabcnjpmpppaaTGrant
import Derived.Test.YtagabcnjpmpppaaNTime
namespace Go.Proofs.Ytagabcnjpmpppaa.fnExactNarrowTime
open Go Go.ChangeShapes Go.WideShapes Go.ChangeAt Go.RowKit Go.Lib
open Go.ChangeMaps (open_string)
set_option linter.unusedVariables false
set_option linter.unusedSimpArgs false
set_option maxRecDepth 100000

theorem drw_size {W w' : World} (hb : Below W.drew.heap.size W.drew w') : W.heap.size ≤ w'.heap.size := hb.size
set_option maxRecDepth 100000 in
set_option maxHeartbeats 20000000 in
theorem walk (a0 : TGrant) (a1 : Int) (a2 : Int) (w : World) (H0 : Hid (TGrant.fit a0)) (wf1 : (Lit.int .i64 a1).wf = true) (wf2 : (Lit.int .i64 a2).wf = true) :
    Calls Try.prog 8 #[.agg #[.int .i64 a0.f0, .int .i64 a0.f1, .int .i64 a0.f2, .int .i64 a0.f3, .int .i64 a0.f4, .int .i64 a0.f5, .bool a0.f6], .int .i64 a1, .int .i64 a2] w fun e w' => e = .returned (.bool true) ∧ Below w.heap.size w w' := by
  have KB0 : BoxAt (w.alloc (.cells #[.int .i64 a0.f0, .int .i64 a0.f1, .int .i64 a0.f2, .int .i64 a0.f3, .int .i64 a0.f4, .int .i64 a0.f5, .bool a0.f6] 48)) w.heap.size 48 #[.int .i64 a0.f0, .int .i64 a0.f1, .int .i64 a0.f2, .int .i64 a0.f3, .int .i64 a0.f4, .int .i64 a0.f5, .bool a0.f6] := (by simpa using box_new w 48 #[.int .i64 a0.f0, .int .i64 a0.f1, .int .i64 a0.f2, .int .i64 a0.f3, .int .i64 a0.f4, .int .i64 a0.f5, .bool a0.f6] : BoxAt (w.alloc (.cells #[.int .i64 a0.f0, .int .i64 a0.f1, .int .i64 a0.f2, .int .i64 a0.f3, .int .i64 a0.f4, .int .i64 a0.f5, .bool a0.f6] 48)) w.heap.size 48 #[.int .i64 a0.f0, .int .i64 a0.f1, .int .i64 a0.f2, .int .i64 a0.f3, .int .i64 a0.f4, .int .i64 a0.f5, .bool a0.f6])
  have HBw : Below w.heap.size w (w.alloc (.cells #[.int .i64 a0.f0, .int .i64 a0.f1, .int .i64 a0.f2, .int .i64 a0.f3, .int .i64 a0.f4, .int .i64 a0.f5, .bool a0.f6] 48)) := ((Below.refl _ _).alloc (by first | exact Nat.le_refl _ | (simp; done) | (simp; omega)) _)
  have H0 := Lib.hid KB0
  have HB := Lib.hid HBw
  clear HBw KB0
  go_enter Try.func8, Try.ntmps8
  go_wp2_with fail
  refine Calls.mono (to_grant_one a0 _) ?_
  rintro e w1 ⟨rfl, hb1⟩
  replace H0 := Lib.hid ((H0.out).new hb1)
  replace HB := Lib.hid (below_trans (HB.out) hb1 (Nat.le_refl _))
  have lH0 : w.heap.size < w1.heap.size := H0.out.lt
  clear hb1
  have eH00 := H0.out.at_ (j := 0) rfl
  have eH01 := H0.out.at_ (j := 1) rfl
  have eH02 := H0.out.at_ (j := 2) rfl
  have eH03 := H0.out.at_ (j := 3) rfl
  have eH04 := H0.out.at_ (j := 4) rfl
  have eH05 := H0.out.at_ (j := 5) rfl
  have eH06 := H0.out.at_ (j := 6) rfl
  go_wp2_with fail
  refine Calls.mono (spec_NarrowTime a0 a1 a2 _ ) ?_
  rintro e w2 ⟨rfl, hb1⟩
  replace H0 := Lib.hid ((H0.out).new hb1)
  replace HB := Lib.hid (below_trans (HB.out) hb1 (Nat.le_refl _))
  have lH0 : w.heap.size < w2.heap.size := H0.out.lt
  clear hb1
  have eH00 := H0.out.at_ (j := 0) rfl
  have eH01 := H0.out.at_ (j := 1) rfl
  have eH02 := H0.out.at_ (j := 2) rfl
  have eH03 := H0.out.at_ (j := 3) rfl
  have eH04 := H0.out.at_ (j := 4) rfl
  have eH05 := H0.out.at_ (j := 5) rfl
  have eH06 := H0.out.at_ (j := 6) rfl
  go_wp2_with fail
  refine Calls.mono (to_grant_one a0 _) ?_
  rintro e w3 ⟨rfl, hb1⟩
  replace H0 := Lib.hid ((H0.out.alloc_ _).new hb1)
  have GA0 := Lib.hid (((box_new _ _ _)).new hb1)
  replace HB := Lib.hid (below_trans ((HB.out.alloc (by first | exact Nat.le_refl _ | (simp; done) | (simp; omega) | omega) _)) hb1 (Nat.le_refl _))
  have lH0 : w.heap.size < w3.heap.size := H0.out.lt
  have lGA0 : w2.heap.size < w3.heap.size := GA0.out.lt
  clear hb1
  have eH00 := H0.out.at_ (j := 0) rfl
  have eH01 := H0.out.at_ (j := 1) rfl
  have eH02 := H0.out.at_ (j := 2) rfl
  have eH03 := H0.out.at_ (j := 3) rfl
  have eH04 := H0.out.at_ (j := 4) rfl
  have eH05 := H0.out.at_ (j := 5) rfl
  have eH06 := H0.out.at_ (j := 6) rfl
  have eGA00 := GA0.out.at_ (j := 0) rfl
  have eGA01 := GA0.out.at_ (j := 1) rfl
  have eGA02 := GA0.out.at_ (j := 2) rfl
  have eGA03 := GA0.out.at_ (j := 3) rfl
  have eGA04 := GA0.out.at_ (j := 4) rfl
  have eGA05 := GA0.out.at_ (j := 5) rfl
  have eGA06 := GA0.out.at_ (j := 6) rfl
  go_wp2_with fail
  refine Calls.mono (impl_NarrowTime a0 a1 a2 _ ) ?_
  rintro e w4 ⟨rfl, hb1⟩
  replace H0 := Lib.hid ((H0.out).new hb1)
  replace GA0 := Lib.hid ((GA0.out).new hb1)
  replace HB := Lib.hid (below_trans (HB.out) hb1 (Nat.le_refl _))
  have lH0 : w.heap.size < w4.heap.size := H0.out.lt
  have lGA0 : w2.heap.size < w4.heap.size := GA0.out.lt
  clear hb1
  have eH00 := H0.out.at_ (j := 0) rfl
  have eH01 := H0.out.at_ (j := 1) rfl
  have eH02 := H0.out.at_ (j := 2) rfl
  have eH03 := H0.out.at_ (j := 3) rfl
  have eH04 := H0.out.at_ (j := 4) rfl
  have eH05 := H0.out.at_ (j := 5) rfl
  have eH06 := H0.out.at_ (j := 6) rfl
  have eGA00 := GA0.out.at_ (j := 0) rfl
  have eGA01 := GA0.out.at_ (j := 1) rfl
  have eGA02 := GA0.out.at_ (j := 2) rfl
  have eGA03 := GA0.out.at_ (j := 3) rfl
  have eGA04 := GA0.out.at_ (j := 4) rfl
  have eGA05 := GA0.out.at_ (j := 5) rfl
  have eGA06 := GA0.out.at_ (j := 6) rfl
  go_wp2_with fail
  refine Calls.mono (eq_grant_one (mNT a0 a1 a2) _) ?_
  rintro e w5 ⟨rfl, hb1⟩
  replace H0 := Lib.hid ((H0.out.alloc_ _).new hb1)
  replace GA0 := Lib.hid ((GA0.out.alloc_ _).new hb1)
  have GB0 := Lib.hid (((box_new _ _ _)).new hb1)
  replace HB := Lib.hid (below_trans ((HB.out.alloc (by first | exact Nat.le_refl _ | (simp; done) | (simp; omega) | omega) _)) hb1 (Nat.le_refl _))
  have lH0 : w.heap.size < w5.heap.size := H0.out.lt
  have lGA0 : w2.heap.size < w5.heap.size := GA0.out.lt
  have lGB0 : w4.heap.size < w5.heap.size := GB0.out.lt
  clear hb1
  go_wp2_with fail
  go_ret
  exact ⟨rfl, HB.out⟩

set_option maxRecDepth 100000 in
theorem lifted (os : Os) (started : os.Started) (H : Type) (enc : TypeId × Value → H) :
    ReturnsInHanded {} Try.checked os 8 .any (Rows.fnExactNarrowTimeSpec.pre6 enc Try.prog Try.f8 Rows.fnExactNarrowTimeRow.domain false) (Rows.fnExactNarrowTimeSpec.post enc Try.prog Try.f8 false true false false) := by
  refine law_lifted Try.func8 (by kernel_rfl) rfl rfl (by kernel_rfl) os started
    (ChangeSpec.witness6 (enc := enc) (C := Try.checked) false ⟨#[], #[.agg #[.int .i64 0, .int .i64 0, .int .i64 0, .int .i64 0, .int .i64 0, .int .i64 0, .bool false], .int .i64 0, .int .i64 0], []⟩ 8 (by kernel_rfl) (by kernel_rfl) (by kernel_rfl) (by kernel_rfl)) ?_
  intro W base args ds p hval hA hlt
  rw [Try.params8] at hA hval
  obtain ⟨v0, vs0, d0, ds0, p0, q0, hargs, rfl, rfl, h0, r0⟩ := trodAll_cons hA
  obtain ⟨v1, vs1, d1, ds1, p1, q1, rfl, rfl, rfl, h1, r1⟩ := trodAll_cons r0
  obtain ⟨v2, vs2, d2, ds2, p2, q2, rfl, rfl, rfl, h2, r2⟩ := trodAll_cons r1
  obtain ⟨rfl, rfl, rfl⟩ := trodAll_nil r2
  obtain rfl : args = #[v0, v1, v2] := by cases args; simp_all
  obtain ⟨a0, rfl, H0⟩ := open_grant (hval 0 48 v0 rfl rfl) h0
  obtain ⟨a1, rfl, rfl, rfl, wf1⟩ := open_int Try.underlying3 (hval 1 3 v1 rfl rfl) h1
  obtain ⟨a2, rfl, rfl, rfl, wf2⟩ := open_int Try.underlying3 (hval 2 3 v2 rfl rfl) h2
  exact ⟨⟨rfl, rfl, rfl⟩, walk a0 a1 a2 W H0 wf1 wf2⟩

theorem over : Rows.fnExactNarrowTimeRow.holds Try.pinned (OpenSpec.ofChange Rows.fnExactNarrowTimeSpec) :=
  OpenClaim.holds_of_wide 8 Try.f8 rfl rfl rfl rfl rfl rfl rfl ⟨rfl, rfl, rfl, rfl, rfl⟩ rfl rfl rfl rfl rfl (by kernel_rfl) Try.func8 (by kernel_rfl)
    (of_decide_eq_true (by kernel_rfl)) (by unfold Func.isWrapper; first | (rw [if_pos (by decide +kernel)]; kernel_rfl) | (rw [if_neg (by decide +kernel)]; exact ⟨rfl, rfl⟩))
    (fun os started H enc _ => lifted os started H enc)

theorem proved : Rows.FnExactNarrowTimeSaid := over
#print axioms proved
end Go.Proofs.Ytagabcnjpmpppaa.fnExactNarrowTime
