/- The law FnExactSealDeed answers true for every argument, and leaves each argument as it was. No condition. -/
import Derived.Test.YtgemmddhkbfndaaDoorEFrame
import Derived.Deep.RegionHeld3
import Derived.Deep.DeepCutAuto
import Derived.Test.YtgemmddhkbfndaaDoorFacts
import Derived.Test.YtgemmddhkbfndaaDoorTDeed
import Derived.Test.YtgemmddhkbfndaaDoorDeedS
namespace Go.Proofs.YtgemmddhkbfndaaDoor.fnExactSealDeed
open Go Go.ChangeShapes Go.WideShapes Go.ChangeAt Go.RowKit Go.Lib
open Go.ChangeMaps (open_string)
set_option linter.unusedVariables false
set_option linter.unusedSimpArgs false
set_option maxRecDepth 100000

theorem drw_size {W w' : World} (hb : Below W.drew.heap.size W.drew w') : W.heap.size ≤ w'.heap.size := hb.size
set_option maxRecDepth 100000 in
set_option maxHeartbeats 20000000 in
theorem walk (a0 : TDeed) (a1 : Int) (a2 : Int) (w : World) (hT : Pow10 w) (H0 : Hid (TDeed.fit a0)) (wf1 : (Lit.int .i64 a1).wf = true) (wf2 : (Lit.int .i64 a2).wf = true) :
    Calls Tryd.prog 3 #[.agg #[.int .i64 a0.f0, .int .i64 a0.f1, .int .i64 a0.f2, .int .i64 a0.f3, .int .i64 a0.f4], .int .i64 a1, .int .i64 a2] w fun e w' => e = .returned (.bool true) ∧ Below w.heap.size w w' := by
  have Fh0 := H0
  have Wf1 := Lib.hid wf1
  clear wf1
  have Wf2 := Lib.hid wf2
  clear wf2
  have KB0 : BoxAt (w.alloc (.cells #[.int .i64 a0.f0, .int .i64 a0.f1, .int .i64 a0.f2, .int .i64 a0.f3, .int .i64 a0.f4] 23)) w.heap.size 23 #[.int .i64 a0.f0, .int .i64 a0.f1, .int .i64 a0.f2, .int .i64 a0.f3, .int .i64 a0.f4] := (by simpa using box_new w 23 #[.int .i64 a0.f0, .int .i64 a0.f1, .int .i64 a0.f2, .int .i64 a0.f3, .int .i64 a0.f4] : BoxAt (w.alloc (.cells #[.int .i64 a0.f0, .int .i64 a0.f1, .int .i64 a0.f2, .int .i64 a0.f3, .int .i64 a0.f4] 23)) w.heap.size 23 #[.int .i64 a0.f0, .int .i64 a0.f1, .int .i64 a0.f2, .int .i64 a0.f3, .int .i64 a0.f4])
  have HBw : Below w.heap.size w (w.alloc (.cells #[.int .i64 a0.f0, .int .i64 a0.f1, .int .i64 a0.f2, .int .i64 a0.f3, .int .i64 a0.f4] 23)) := ((Below.refl _ _).alloc (by first | exact Nat.le_refl _ | (simp; done) | (simp; omega)) _)
  have H0 := Lib.hid KB0
  have HB := Lib.hid HBw
  clear HBw KB0
  go_enter Tryd.func3, Tryd.ntmps3
  go_wp2_with fail
  refine Calls.mono (to_deed_one a0 _) ?_
  rintro e w1 ⟨rfl, hb1⟩
  replace H0 := Lib.hid ((H0.out).new hb1)
  replace HB := Lib.hid (below_trans (HB.out) hb1 (Nat.le_refl _))
  have lH0 : w.heap.size < w1.heap.size := H0.out.lt
  clear hb1
  have eH00 := H0.out.at_ (j := 0) rfl
  have eH01 := H0.out.at_ (j := 1) rfl
  have eH02 := H0.out.at_ (j := 2) rfl
  have eH03 := H0.out.at_ (j := 3) rfl
  have eH04 := H0.out.at_ (j := 4) rfl
  go_wp2_with fail
  refine Calls.mono (spec_SealDeed a0 a1 a2 _ (pow10_below hT HB.out) Fh0 Wf1.out Wf2.out) ?_
  rintro e w2 ⟨rfl, hb1⟩
  replace H0 := Lib.hid ((H0.out).new hb1)
  replace HB := Lib.hid (below_trans (HB.out) hb1 (Nat.le_refl _))
  have lH0 : w.heap.size < w2.heap.size := H0.out.lt
  clear hb1
  have eH00 := H0.out.at_ (j := 0) rfl
  have eH01 := H0.out.at_ (j := 1) rfl
  have eH02 := H0.out.at_ (j := 2) rfl
  have eH03 := H0.out.at_ (j := 3) rfl
  have eH04 := H0.out.at_ (j := 4) rfl
  go_wp2_with fail
  refine Calls.mono (to_deed_one a0 _) ?_
  rintro e w3 ⟨rfl, hb1⟩
  replace H0 := Lib.hid ((H0.out.alloc_ _).new hb1)
  have GA0 := Lib.hid (((box_new _ _ _)).new hb1)
  replace HB := Lib.hid (below_trans ((HB.out.alloc (by first | exact Nat.le_refl _ | (simp; done) | (simp; omega) | omega) _)) hb1 (Nat.le_refl _))
  have lH0 : w.heap.size < w3.heap.size := H0.out.lt
  have lGA0 : w2.heap.size < w3.heap.size := GA0.out.lt
  clear hb1
  have eH00 := H0.out.at_ (j := 0) rfl
  have eH01 := H0.out.at_ (j := 1) rfl
  have eH02 := H0.out.at_ (j := 2) rfl
  have eH03 := H0.out.at_ (j := 3) rfl
  have eH04 := H0.out.at_ (j := 4) rfl
  have eGA00 := GA0.out.at_ (j := 0) rfl
  have eGA01 := GA0.out.at_ (j := 1) rfl
  have eGA02 := GA0.out.at_ (j := 2) rfl
  have eGA03 := GA0.out.at_ (j := 3) rfl
  have eGA04 := GA0.out.at_ (j := 4) rfl
  go_wp2_with fail
  refine Calls.mono (impl_SealDeed a0 a1 a2 _ (pow10_below hT HB.out) Fh0 Wf1.out Wf2.out) ?_
  rintro e w4 ⟨rfl, hb1⟩
  replace H0 := Lib.hid ((H0.out).new hb1)
  replace GA0 := Lib.hid ((GA0.out).new hb1)
  replace HB := Lib.hid (below_trans (HB.out) hb1 (Nat.le_refl _))
  have lH0 : w.heap.size < w4.heap.size := H0.out.lt
  have lGA0 : w2.heap.size < w4.heap.size := GA0.out.lt
  clear hb1
  have eH00 := H0.out.at_ (j := 0) rfl
  have eH01 := H0.out.at_ (j := 1) rfl
  have eH02 := H0.out.at_ (j := 2) rfl
  have eH03 := H0.out.at_ (j := 3) rfl
  have eH04 := H0.out.at_ (j := 4) rfl
  have eGA00 := GA0.out.at_ (j := 0) rfl
  have eGA01 := GA0.out.at_ (j := 1) rfl
  have eGA02 := GA0.out.at_ (j := 2) rfl
  have eGA03 := GA0.out.at_ (j := 3) rfl
  have eGA04 := GA0.out.at_ (j := 4) rfl
  go_wp2_with fail
  refine Calls.mono (eq_deed_one (mDeed a0 a1 a2) _) ?_
  rintro e w5 ⟨rfl, hb1⟩
  replace H0 := Lib.hid ((H0.out.alloc_ _).new hb1)
  replace GA0 := Lib.hid ((GA0.out.alloc_ _).new hb1)
  have GB0 := Lib.hid (((box_new _ _ _)).new hb1)
  replace HB := Lib.hid (below_trans ((HB.out.alloc (by first | exact Nat.le_refl _ | (simp; done) | (simp; omega) | omega) _)) hb1 (Nat.le_refl _))
  have lH0 : w.heap.size < w5.heap.size := H0.out.lt
  have lGA0 : w2.heap.size < w5.heap.size := GA0.out.lt
  have lGB0 : w4.heap.size < w5.heap.size := GB0.out.lt
  clear hb1
  go_wp2_with fail
  go_ret
  exact ⟨rfl, HB.out⟩

set_option maxRecDepth 100000 in
theorem lifted (os : Os) (started : os.Started) (H : Type) (enc : TypeId × Value → H) :
    ReturnsInHanded {} Tryd.checked os 3 .any (fun w args => (Rows.fnExactSealDeedSpec.pre enc Tryd.prog Tryd.f3 [] false w args ∧ laidMetH Tryd.prog laidVars w) ∧ sizedMet enc Tryd.prog Tryd.f3 (OpenSpec.ofChange Rows.fnExactSealDeedSpec) false w args) (Rows.fnExactSealDeedSpec.post enc Tryd.prog Tryd.f3 false true false false) := by
  refine law_lifted_laid Tryd.func3 (by kernel_rfl) rfl rfl (by kernel_rfl) os started
    (ChangeSpec.witness_shaped (enc := enc) (C := Tryd.checked) (os := os) (X := fun w _ => laidMetH Tryd.prog laidVars w) false (World.laidAll Tryd.prog os laidVars) #[.agg #[.int .i64 0, .int .i64 0, .int .i64 0, .int .i64 0, .int .i64 0], .int .i64 0, .int .i64 0] 8 (World.laidAll_os _ _ _)
      (World.shaped_of_ZipB (by kernel_rfl) (by kernel_rfl)) (by kernel_rfl) (by kernel_rfl) (by kernel_rfl)
      (by rw [MakeChecks.laidMetH_plain _ _ _ (by kernel_rfl)]; exact laidMet_laidAll _ (by kernel_rfl) (by kernel_rfl))) ?_
  intro W base args ds p hT hval hA hlt
  rw [Tryd.params3] at hA hval
  obtain ⟨v0, vs0, d0, ds0, p0, q0, hargs, rfl, rfl, h0, r0⟩ := trodAll_cons hA
  obtain ⟨v1, vs1, d1, ds1, p1, q1, rfl, rfl, rfl, h1, r1⟩ := trodAll_cons r0
  obtain ⟨v2, vs2, d2, ds2, p2, q2, rfl, rfl, rfl, h2, r2⟩ := trodAll_cons r1
  obtain ⟨rfl, rfl, rfl⟩ := trodAll_nil r2
  obtain rfl : args = #[v0, v1, v2] := by cases args; simp_all
  obtain ⟨a0, rfl, H0⟩ := open_deed (hval 0 23 v0 rfl rfl) h0
  obtain ⟨a1, rfl, rfl, rfl, wf1⟩ := open_int Tryd.underlying3 (hval 1 3 v1 rfl rfl) h1
  obtain ⟨a2, rfl, rfl, rfl, wf2⟩ := open_int Tryd.underlying3 (hval 2 3 v2 rfl rfl) h2
  exact ⟨fun _ => ⟨rfl, rfl, rfl⟩, walk a0 a1 a2 W hT H0 wf1 wf2⟩

set_option maxRecDepth 100000 in
set_option maxHeartbeats 8000000 in
theorem closed : joinedFacts Tryd.pinned.checked.prog 3 Tryd.f3 Rows.fnExactSealDeedSpec Rows.fnExactSealDeedRow = true :=
  (and_i (and_i (and_i (and_i (and_i (and_i (and_i (and_i (and_i (and_i (and_i (and_i (and_i (and_i (and_i (and_i (and_i (and_i (and_i (and_i (and_i (and_i (and_i (and_i (and_i (and_i (and_i (and_i (and_i (and_i (and_i (by as_aux_lemma => kernel_rfl) seatLaid) sf_maps) (by as_aux_lemma => kernel_rfl)) (by as_aux_lemma => kernel_rfl)) (by as_aux_lemma => kernel_rfl)) (by as_aux_lemma => kernel_rfl)) (by as_aux_lemma => kernel_rfl)) (by as_aux_lemma => kernel_rfl)) (by as_aux_lemma => kernel_rfl)) (by as_aux_lemma => kernel_rfl)) (by as_aux_lemma => kernel_rfl)) (by as_aux_lemma => kernel_rfl)) (by as_aux_lemma => kernel_rfl)) (by as_aux_lemma => kernel_rfl)) (by as_aux_lemma => kernel_rfl)) (by as_aux_lemma => kernel_rfl)) (by as_aux_lemma => kernel_rfl)) (by as_aux_lemma => kernel_rfl)) (by as_aux_lemma => kernel_rfl)) (by as_aux_lemma => kernel_rfl)) (by as_aux_lemma => kernel_rfl)) sf_plain) (by as_aux_lemma => kernel_rfl)) sf_heard) sf_enter) sf_lifts) sf_make) (by as_aux_lemma => kernel_rfl)) (by as_aux_lemma => kernel_rfl)) (by as_aux_lemma => kernel_rfl)) (by as_aux_lemma => kernel_rfl))

theorem over : Rows.fnExactSealDeedRow.holds Tryd.pinned (OpenSpec.ofChange Rows.fnExactSealDeedSpec) :=
  OpenClaim.holds_of_wide 3 Tryd.f3 rfl rfl rfl rfl rfl rfl rfl ⟨rfl, rfl, rfl, rfl, rfl⟩ rfl rfl rfl rfl rfl (by kernel_rfl) Tryd.func3 closed
    (of_decide_eq_true (by kernel_rfl)) (by unfold Func.isWrapper; first | (rw [if_pos (by decide +kernel)]; kernel_rfl) | (rw [if_neg (by decide +kernel)]; exact ⟨rfl, rfl⟩))
    (fun os started H enc _ => lifted os started H enc)

theorem proved : Rows.FnExactSealDeedCardSaid :=
  Claim7.holds_tied_plain_at .later [] [.sentinel] true Rows.fnExactSealDeedCard.stood.harness true over (fun _ h => by cases h) (by kernel_rfl) (fun _ h => by cases h) fnExactSealDeed_row_tie rfl ⟨rfl, rfl⟩ (by kernel_rfl) rfl
    (fun f fn hf hfn => by
      obtain rfl : f = 3 := Option.some.inj ((show Tryd.prog.funcNamed "loop.example/g03001/laws.FnExactSealDeed" = some 3 by kernel_rfl).symm.trans hf) |>.symm
      obtain rfl : fn = Tryd.f3 := (Option.some.inj (Tryd.func3.symm.trans hfn)).symm
      exact ⟨by kernel_rfl, fun j t ht => by
        rw [Tryd.params3] at ht
        have hm : t ∈ [23, 3, 3] := by simpa using Array.mem_of_getElem? ht
        have hall : ([23, 3, 3].all fun u => !Tryd.prog.wantsStandIn u) = true := by kernel_rfl
        exact (show Tryd.prog.wantsStandIn t = false by simpa using List.all_eq_true.1 hall t hm)⟩)
    (by kernel_rfl)
#print axioms proved
end Go.Proofs.YtgemmddhkbfndaaDoor.fnExactSealDeed
