/- The law FnExactSealLetter answers true for every argument, and leaves each argument as it was. No condition. -/
import Derived.Test.YtjkkflgbjafjaaaDoorEFrame
import Derived.Deep.RegionHeld3
import Derived.Deep.DeepCutAuto
import Derived.Test.YtjkkflgbjafjaaaDoorTLetter
import Derived.Test.YtjkkflgbjafjaaaDoorSeal
namespace Go.Proofs.YtjkkflgbjafjaaaDoor.fnExactSealLetter
open Go Go.ChangeShapes Go.WideShapes Go.ChangeAt Go.RowKit Go.Lib
open Go.ChangeMaps (open_string)
set_option linter.unusedVariables false
set_option linter.unusedSimpArgs false
set_option maxRecDepth 100000

theorem drw_size {W w' : World} (hb : Below W.drew.heap.size W.drew w') : W.heap.size ≤ w'.heap.size := hb.size
set_option maxRecDepth 100000 in
set_option maxHeartbeats 20000000 in
theorem walk (a0 : Int) (a1 : TLetter) (w : World) (hT : Pow10 w) (wf0 : (Lit.int .i64 a0).wf = true) (H1 : Hid (TLetter.fit a1)) :
    Calls Tryd.prog 3 #[.int .i64 a0, .agg #[.int .i64 a1.f0, .int .i64 a1.f1, .int .i64 a1.f2, .int .i64 a1.f3]] w fun e w' => e = .returned (.bool true) ∧ Below w.heap.size w w' := by
  have Wf0 := Lib.hid wf0
  clear wf0
  have KB0 : BoxAt (w.alloc (.cells #[.int .i64 a1.f0, .int .i64 a1.f1, .int .i64 a1.f2, .int .i64 a1.f3] 23)) w.heap.size 23 #[.int .i64 a1.f0, .int .i64 a1.f1, .int .i64 a1.f2, .int .i64 a1.f3] := (by simpa using box_new w 23 #[.int .i64 a1.f0, .int .i64 a1.f1, .int .i64 a1.f2, .int .i64 a1.f3] : BoxAt (w.alloc (.cells #[.int .i64 a1.f0, .int .i64 a1.f1, .int .i64 a1.f2, .int .i64 a1.f3] 23)) w.heap.size 23 #[.int .i64 a1.f0, .int .i64 a1.f1, .int .i64 a1.f2, .int .i64 a1.f3])
  have HBw : Below w.heap.size w (w.alloc (.cells #[.int .i64 a1.f0, .int .i64 a1.f1, .int .i64 a1.f2, .int .i64 a1.f3] 23)) := ((Below.refl _ _).alloc (by first | exact Nat.le_refl _ | (simp; done) | (simp; omega)) _)
  have H0 := Lib.hid KB0
  have HB := Lib.hid HBw
  clear HBw KB0
  go_enter Tryd.func3, Tryd.ntmps3
  go_wp2_with fail
  refine Calls.mono (to_letter_one a1 _) ?_
  rintro e w1 ⟨rfl, hb1⟩
  replace H0 := Lib.hid ((H0.out).new hb1)
  replace HB := Lib.hid (below_trans (HB.out) hb1 (Nat.le_refl _))
  have lH0 : w.heap.size < w1.heap.size := H0.out.lt
  clear hb1
  have eH00 := H0.out.at_ (j := 0) rfl
  have eH01 := H0.out.at_ (j := 1) rfl
  have eH02 := H0.out.at_ (j := 2) rfl
  have eH03 := H0.out.at_ (j := 3) rfl
  go_wp2_with fail
  refine Calls.mono (spec_SealLetter a0 a1 _ (pow10_below hT HB.out) Wf0.out H1) ?_
  rintro e w2 ⟨rfl, hb1⟩
  replace H0 := Lib.hid ((H0.out).new hb1)
  replace HB := Lib.hid (below_trans (HB.out) hb1 (Nat.le_refl _))
  have lH0 : w.heap.size < w2.heap.size := H0.out.lt
  clear hb1
  have eH00 := H0.out.at_ (j := 0) rfl
  have eH01 := H0.out.at_ (j := 1) rfl
  have eH02 := H0.out.at_ (j := 2) rfl
  have eH03 := H0.out.at_ (j := 3) rfl
  go_wp2_with fail
  refine Calls.mono (to_letter_one a1 _) ?_
  rintro e w3 ⟨rfl, hb1⟩
  replace H0 := Lib.hid ((H0.out.alloc_ _).new hb1)
  have GA0 := Lib.hid (((box_new _ _ _)).new hb1)
  replace HB := Lib.hid (below_trans ((HB.out.alloc (by first | exact Nat.le_refl _ | (simp; done) | (simp; omega) | omega) _)) hb1 (Nat.le_refl _))
  have lH0 : w.heap.size < w3.heap.size := H0.out.lt
  have lGA0 : w2.heap.size < w3.heap.size := GA0.out.lt
  clear hb1
  have eH00 := H0.out.at_ (j := 0) rfl
  have eH01 := H0.out.at_ (j := 1) rfl
  have eH02 := H0.out.at_ (j := 2) rfl
  have eH03 := H0.out.at_ (j := 3) rfl
  have eGA00 := GA0.out.at_ (j := 0) rfl
  have eGA01 := GA0.out.at_ (j := 1) rfl
  have eGA02 := GA0.out.at_ (j := 2) rfl
  have eGA03 := GA0.out.at_ (j := 3) rfl
  go_wp2_with fail
  refine Calls.mono (impl_SealLetter a0 a1 _ (pow10_below hT HB.out) Wf0.out H1) ?_
  rintro e w4 ⟨rfl, hb1⟩
  replace H0 := Lib.hid ((H0.out).new hb1)
  replace GA0 := Lib.hid ((GA0.out).new hb1)
  replace HB := Lib.hid (below_trans (HB.out) hb1 (Nat.le_refl _))
  have lH0 : w.heap.size < w4.heap.size := H0.out.lt
  have lGA0 : w2.heap.size < w4.heap.size := GA0.out.lt
  clear hb1
  have eH00 := H0.out.at_ (j := 0) rfl
  have eH01 := H0.out.at_ (j := 1) rfl
  have eH02 := H0.out.at_ (j := 2) rfl
  have eH03 := H0.out.at_ (j := 3) rfl
  have eGA00 := GA0.out.at_ (j := 0) rfl
  have eGA01 := GA0.out.at_ (j := 1) rfl
  have eGA02 := GA0.out.at_ (j := 2) rfl
  have eGA03 := GA0.out.at_ (j := 3) rfl
  go_wp2_with fail
  refine Calls.mono (eq_letter_one (mSeal a0 a1) _) ?_
  rintro e w5 ⟨rfl, hb1⟩
  replace H0 := Lib.hid ((H0.out.alloc_ _).new hb1)
  replace GA0 := Lib.hid ((GA0.out.alloc_ _).new hb1)
  have GB0 := Lib.hid (((box_new _ _ _)).new hb1)
  replace HB := Lib.hid (below_trans ((HB.out.alloc (by first | exact Nat.le_refl _ | (simp; done) | (simp; omega) | omega) _)) hb1 (Nat.le_refl _))
  have lH0 : w.heap.size < w5.heap.size := H0.out.lt
  have lGA0 : w2.heap.size < w5.heap.size := GA0.out.lt
  have lGB0 : w4.heap.size < w5.heap.size := GB0.out.lt
  clear hb1
  go_wp2_with fail
  go_ret
  exact ⟨rfl, HB.out⟩

set_option maxRecDepth 100000 in
theorem lifted (os : Os) (started : os.Started) (H : Type) (enc : TypeId × Value → H) :
    ReturnsInHanded {} Tryd.checked os 3 .any (fun w args => (Rows.fnExactSealLetterSpec.pre enc Tryd.prog Tryd.f3 [] false w args ∧ laidMetH Tryd.prog laidVars w) ∧ sizedMet enc Tryd.prog Tryd.f3 (OpenSpec.ofChange Rows.fnExactSealLetterSpec) false w args) (Rows.fnExactSealLetterSpec.post enc Tryd.prog Tryd.f3 false true false false) := by
  refine law_lifted_laid Tryd.func3 (by kernel_rfl) rfl rfl (by kernel_rfl) os started
    (ChangeSpec.witness_shaped (enc := enc) (C := Tryd.checked) (os := os) (X := fun w _ => laidMetH Tryd.prog laidVars w) false (World.laidAll Tryd.prog os laidVars) #[.int .i64 0, .agg #[.int .i64 0, .int .i64 0, .int .i64 0, .int .i64 0]] 8 (World.laidAll_os _ _ _)
      (World.shaped_of_ZipB (by kernel_rfl) (by kernel_rfl)) (by kernel_rfl) (by kernel_rfl) (by kernel_rfl)
      (by rw [MakeChecks.laidMetH_plain _ _ _ (by kernel_rfl)]; exact laidMet_laidAll _ (by kernel_rfl) (by kernel_rfl))) ?_
  intro W base args ds p hT hval hA hlt
  rw [Tryd.params3] at hA hval
  obtain ⟨v0, vs0, d0, ds0, p0, q0, hargs, rfl, rfl, h0, r0⟩ := trodAll_cons hA
  obtain ⟨v1, vs1, d1, ds1, p1, q1, rfl, rfl, rfl, h1, r1⟩ := trodAll_cons r0
  obtain ⟨rfl, rfl, rfl⟩ := trodAll_nil r1
  obtain rfl : args = #[v0, v1] := by cases args; simp_all
  obtain ⟨a0, rfl, rfl, rfl, wf0⟩ := open_int Tryd.underlying3 (hval 0 3 v0 rfl rfl) h0
  obtain ⟨a1, rfl, H1⟩ := open_letter (hval 1 23 v1 rfl rfl) h1
  exact ⟨fun _ => ⟨rfl, rfl, rfl⟩, walk a0 a1 W hT wf0 H1⟩

theorem over : Rows.fnExactSealLetterRow.holds Tryd.pinned (OpenSpec.ofChange Rows.fnExactSealLetterSpec) :=
  OpenClaim.holds_of_wide 3 Tryd.f3 rfl rfl rfl rfl rfl rfl rfl ⟨rfl, rfl, rfl, rfl, rfl⟩ rfl rfl rfl rfl rfl (by kernel_rfl) Tryd.func3 (by kernel_rfl)
    (of_decide_eq_true (by kernel_rfl)) (by unfold Func.isWrapper; first | (rw [if_pos (by decide +kernel)]; kernel_rfl) | (rw [if_neg (by decide +kernel)]; exact ⟨rfl, rfl⟩))
    (fun os started H enc _ => lifted os started H enc)

theorem proved : Rows.FnExactSealLetterCardSaid :=
  Claim7.holds_tied_plain_at .later [] [.sentinel] true Rows.fnExactSealLetterCard.stood.harness true over (fun _ h => by cases h) (by kernel_rfl) (fun _ h => by cases h) fnExactSealLetter_row_tie rfl ⟨rfl, rfl⟩ (by kernel_rfl) rfl
    (fun f fn hf hfn => by
      obtain rfl : f = 3 := Option.some.inj ((show Tryd.prog.funcNamed "loop.example/g03001/laws.FnExactSealLetter" = some 3 by kernel_rfl).symm.trans hf) |>.symm
      obtain rfl : fn = Tryd.f3 := (Option.some.inj (Tryd.func3.symm.trans hfn)).symm
      exact ⟨by kernel_rfl, fun j t ht => by
        rw [Tryd.params3] at ht
        have hm : t ∈ [3, 23] := by simpa using Array.mem_of_getElem? ht
        have hall : ([3, 23].all fun u => !Tryd.prog.wantsStandIn u) = true := by kernel_rfl
        exact (show Tryd.prog.wantsStandIn t = false by simpa using List.all_eq_true.1 hall t hm)⟩)
    (by kernel_rfl)
#print axioms proved
end Go.Proofs.YtjkkflgbjafjaaaDoor.fnExactSealLetter
