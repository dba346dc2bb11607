/- The law FnExactIsGenuine answers true for every argument, and leaves each argument as it was. No condition. -/
import Derived.Test.YtjkkflgbjafjaaaDoorEFrame
import Derived.Test.YtjkkflgbjafjaaaDoorTLetter
import Derived.Test.YtjkkflgbjafjaaaDoorGenuine
namespace Go.Proofs.YtjkkflgbjafjaaaDoor.fnExactIsGenuine
open Go Go.ChangeShapes Go.WideShapes Go.ChangeAt Go.RowKit Go.Lib
open Go.ChangeMaps (open_string)
set_option linter.unusedVariables false
set_option linter.unusedSimpArgs false
set_option maxRecDepth 100000

theorem drw_size {W w' : World} (hb : Below W.drew.heap.size W.drew w') : W.heap.size ≤ w'.heap.size := hb.size
set_option maxRecDepth 100000 in
set_option maxHeartbeats 20000000 in
theorem walk (a0 : Int) (a1 : TLetter) (w : World) (hT : Pow10 w) (wf0 : (Lit.int .i64 a0).wf = true) (H1 : Hid (TLetter.fit a1)) :
    Calls Tryd.prog 4 #[.int .i64 a0, .agg #[.int .i64 a1.f0, .int .i64 a1.f1, .int .i64 a1.f2, .int .i64 a1.f3]] w fun e w' => e = .returned (.bool true) ∧ Below w.heap.size w w' := by
  have Wf0 := Lib.hid wf0
  clear wf0
  have G : Below w.heap.size w (w.alloc (.cells #[.int .i64 a1.f0, .int .i64 a1.f1, .int .i64 a1.f2, .int .i64 a1.f3] 23)) := (Below.refl _ _).alloc (by simp) _
  have S0 := Lib.hid (show (w.alloc (.cells #[.int .i64 a1.f0, .int .i64 a1.f1, .int .i64 a1.f2, .int .i64 a1.f3] 23)).heap.size = w.heap.size + 1 by simp)
  have KB1 : BoxAt (w.alloc (.cells #[.int .i64 a1.f0, .int .i64 a1.f1, .int .i64 a1.f2, .int .i64 a1.f3] 23)) (w.heap.size) 23 #[.int .i64 a1.f0, .int .i64 a1.f1, .int .i64 a1.f2, .int .i64 a1.f3] := box_new _ _ _
  go_enter Tryd.func4, Tryd.ntmps4
  go_wp2_with fail
  refine (to_letter_one a1 _).mono ?_
  rintro e w1 ⟨rfl, B1⟩
  replace KB1 := KB1.new B1
  replace G := below_trans G B1 (Nat.le_refl _)
  have S1 := Lib.hid B1.size
  clear B1
  go_wp2_with fail
  refine (spec_IsGenuine a0 a1 _ (pow10_below hT G) Wf0.out H1).mono ?_
  rintro e w2 ⟨rfl, B2⟩
  replace KB1 := KB1.new B2
  replace G := below_trans G B2 (Nat.le_refl _)
  have S2 := Lib.hid B2.size
  clear B2
  have x3_0 : w2.cell? ⟨w.heap.size, 0, none⟩ = some (.int .i64 a1.f0) := KB1.at_ rfl
  have x3_1 : w2.cell? ⟨w.heap.size, 1, none⟩ = some (.int .i64 a1.f1) := KB1.at_ rfl
  have x3_2 : w2.cell? ⟨w.heap.size, 2, none⟩ = some (.int .i64 a1.f2) := KB1.at_ rfl
  have x3_3 : w2.cell? ⟨w.heap.size, 3, none⟩ = some (.int .i64 a1.f3) := KB1.at_ rfl
  go_wp2_with fail
  clear x3_0 x3_1 x3_2 x3_3
  refine (to_letter_one a1 _).mono ?_
  rintro e w3 ⟨rfl, B3⟩
  replace KB1 := KB1.new B3
  replace G := below_trans G B3 (Nat.le_refl _)
  have S3 := Lib.hid B3.size
  clear B3
  go_wp2_with fail
  refine (impl_IsGenuine a0 a1 _ (pow10_below hT G) Wf0.out H1).mono ?_
  rintro e w4 ⟨rfl, B4⟩
  replace KB1 := KB1.new B4
  replace G := below_trans G B4 (Nat.le_refl _)
  have S4 := Lib.hid B4.size
  clear B4
  go_wp2_with fail
  go_ret
  exact ⟨rfl, G⟩

set_option maxRecDepth 100000 in
theorem lifted (os : Os) (started : os.Started) (H : Type) (enc : TypeId × Value → H) :
    ReturnsInHanded {} Tryd.checked os 4 .any (fun w args => (Rows.fnExactIsGenuineSpec.pre enc Tryd.prog Tryd.f4 [] false w args ∧ laidMetH Tryd.prog laidVars w) ∧ sizedMet enc Tryd.prog Tryd.f4 (OpenSpec.ofChange Rows.fnExactIsGenuineSpec) false w args) (Rows.fnExactIsGenuineSpec.post enc Tryd.prog Tryd.f4 false true false false) := by
  refine law_lifted_laid Tryd.func4 (by kernel_rfl) rfl rfl (by kernel_rfl) os started
    (ChangeSpec.witness_shaped (enc := enc) (C := Tryd.checked) (os := os) (X := fun w _ => laidMetH Tryd.prog laidVars w) false (World.laidAll Tryd.prog os laidVars) #[.int .i64 0, .agg #[.int .i64 0, .int .i64 0, .int .i64 0, .int .i64 0]] 8 (World.laidAll_os _ _ _)
      (World.shaped_of_ZipB (by kernel_rfl) (by kernel_rfl)) (by kernel_rfl) (by kernel_rfl) (by kernel_rfl)
      (by rw [MakeChecks.laidMetH_plain _ _ _ (by kernel_rfl)]; exact laidMet_laidAll _ (by kernel_rfl) (by kernel_rfl))) ?_
  intro W base args ds p hT hval hA hlt
  rw [Tryd.params4] at hA hval
  obtain ⟨v0, vs0, d0, ds0, p0, q0, hargs, rfl, rfl, h0, r0⟩ := trodAll_cons hA
  obtain ⟨v1, vs1, d1, ds1, p1, q1, rfl, rfl, rfl, h1, r1⟩ := trodAll_cons r0
  obtain ⟨rfl, rfl, rfl⟩ := trodAll_nil r1
  obtain rfl : args = #[v0, v1] := by cases args; simp_all
  obtain ⟨a0, rfl, rfl, rfl, wf0⟩ := open_int Tryd.underlying3 (hval 0 3 v0 rfl rfl) h0
  obtain ⟨a1, rfl, H1⟩ := open_letter (hval 1 23 v1 rfl rfl) h1
  exact ⟨fun _ => ⟨rfl, rfl, rfl⟩, walk a0 a1 W hT wf0 H1⟩

theorem over : Rows.fnExactIsGenuineRow.holds Tryd.pinned (OpenSpec.ofChange Rows.fnExactIsGenuineSpec) :=
  OpenClaim.holds_of_wide 4 Tryd.f4 rfl rfl rfl rfl rfl rfl rfl ⟨rfl, rfl, rfl, rfl, rfl⟩ rfl rfl rfl rfl rfl (by kernel_rfl) Tryd.func4 (by kernel_rfl)
    (of_decide_eq_true (by kernel_rfl)) (by unfold Func.isWrapper; first | (rw [if_pos (by decide +kernel)]; kernel_rfl) | (rw [if_neg (by decide +kernel)]; exact ⟨rfl, rfl⟩))
    (fun os started H enc _ => lifted os started H enc)

theorem proved : Rows.FnExactIsGenuineCardSaid :=
  Claim7.holds_tied_plain_at .later [] [.sentinel] true Rows.fnExactIsGenuineCard.stood.harness true over (fun _ h => by cases h) (by kernel_rfl) (fun _ h => by cases h) fnExactIsGenuine_row_tie rfl ⟨rfl, rfl⟩ (by kernel_rfl) rfl
    (fun f fn hf hfn => by
      obtain rfl : f = 4 := Option.some.inj ((show Tryd.prog.funcNamed "loop.example/g03001/laws.FnExactIsGenuine" = some 4 by kernel_rfl).symm.trans hf) |>.symm
      obtain rfl : fn = Tryd.f4 := (Option.some.inj (Tryd.func4.symm.trans hfn)).symm
      exact ⟨by kernel_rfl, fun j t ht => by
        rw [Tryd.params4] at ht
        have hm : t ∈ [3, 23] := by simpa using Array.mem_of_getElem? ht
        have hall : ([3, 23].all fun u => !Tryd.prog.wantsStandIn u) = true := by kernel_rfl
        exact (show Tryd.prog.wantsStandIn t = false by simpa using List.all_eq_true.1 hall t hm)⟩)
    (by kernel_rfl)
#print axioms proved
end Go.Proofs.YtjkkflgbjafjaaaDoor.fnExactIsGenuine
