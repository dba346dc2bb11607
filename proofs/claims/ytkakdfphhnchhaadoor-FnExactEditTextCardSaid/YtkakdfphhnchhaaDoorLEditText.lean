/- The law FnExactEditText answers true for every argument, and leaves each argument as it was. No condition. -/
import Derived.Test.YtkakdfphhnchhaaDoorDFrame
import Derived.Test.YtkakdfphhnchhaaDoorFacts
import Derived.Test.YtkakdfphhnchhaaDoorTEdit
import Derived.Test.YtkakdfphhnchhaaDoorEdTS
namespace Go.Proofs.YtkakdfphhnchhaaDoor.fnExactEditText
open Go Go.ChangeShapes Go.WideShapes Go.ChangeAt Go.RowKit Go.Lib
open Go.ChangeMaps (open_string)
set_option linter.unusedVariables false
set_option linter.unusedSimpArgs false
set_option maxRecDepth 100000

theorem drw_size {W w' : World} (hb : Below W.drew.heap.size W.drew w') : W.heap.size ≤ w'.heap.size := hb.size
set_option maxRecDepth 100000 in
set_option maxHeartbeats 20000000 in
theorem walk (a0 : TEdit) (w : World) (hT : Pow10 w) (H0 : Hid (TEdit.fit a0)) :
    Calls Tryd.prog 6 #[.agg #[.int .i64 a0.f0, .int .i64 a0.f1, .int .i64 a0.f2, .int .i64 a0.f3, .int .i64 a0.f4, .int .i64 a0.f5]] w fun e w' => e = .returned (.bool true) ∧ Below w.heap.size w w' := by
  have G : Below w.heap.size w (w.alloc (.cells #[.int .i64 a0.f0, .int .i64 a0.f1, .int .i64 a0.f2, .int .i64 a0.f3, .int .i64 a0.f4, .int .i64 a0.f5] 57)) := (Below.refl _ _).alloc (by simp) _
  have S0 := Lib.hid (show (w.alloc (.cells #[.int .i64 a0.f0, .int .i64 a0.f1, .int .i64 a0.f2, .int .i64 a0.f3, .int .i64 a0.f4, .int .i64 a0.f5] 57)).heap.size = w.heap.size + 1 by simp)
  have KB0 : BoxAt (w.alloc (.cells #[.int .i64 a0.f0, .int .i64 a0.f1, .int .i64 a0.f2, .int .i64 a0.f3, .int .i64 a0.f4, .int .i64 a0.f5] 57)) (w.heap.size) 57 #[.int .i64 a0.f0, .int .i64 a0.f1, .int .i64 a0.f2, .int .i64 a0.f3, .int .i64 a0.f4, .int .i64 a0.f5] := box_new _ _ _
  go_enter Tryd.func6, Tryd.ntmps6
  go_wp2_with fail
  refine (to_edit_one a0 _).mono ?_
  rintro e w1 ⟨rfl, B1⟩
  replace KB0 := KB0.new B1
  replace G := below_trans G B1 (Nat.le_refl _)
  have S1 := Lib.hid B1.size
  clear B1
  go_wp2_with fail
  refine (spec_EditText a0 _ (pow10_below hT G) H0).mono ?_
  rintro e w2 ⟨rfl, B2⟩
  replace KB0 := KB0.new B2
  replace G := below_trans G B2 (Nat.le_refl _)
  have S2 := Lib.hid B2.size
  clear B2
  have x3_0 : w2.cell? ⟨w.heap.size, 0, none⟩ = some (.int .i64 a0.f0) := KB0.at_ rfl
  have x3_1 : w2.cell? ⟨w.heap.size, 1, none⟩ = some (.int .i64 a0.f1) := KB0.at_ rfl
  have x3_2 : w2.cell? ⟨w.heap.size, 2, none⟩ = some (.int .i64 a0.f2) := KB0.at_ rfl
  have x3_3 : w2.cell? ⟨w.heap.size, 3, none⟩ = some (.int .i64 a0.f3) := KB0.at_ rfl
  have x3_4 : w2.cell? ⟨w.heap.size, 4, none⟩ = some (.int .i64 a0.f4) := KB0.at_ rfl
  have x3_5 : w2.cell? ⟨w.heap.size, 5, none⟩ = some (.int .i64 a0.f5) := KB0.at_ rfl
  go_wp2_with fail
  clear x3_0 x3_1 x3_2 x3_3 x3_4 x3_5
  refine (to_edit_one a0 _).mono ?_
  rintro e w3 ⟨rfl, B3⟩
  replace KB0 := KB0.new B3
  replace G := below_trans G B3 (Nat.le_refl _)
  have S3 := Lib.hid B3.size
  clear B3
  go_wp2_with fail
  refine (impl_EditText a0 _ (pow10_below hT G) H0).mono ?_
  rintro e w4 ⟨rfl, B4⟩
  replace KB0 := KB0.new B4
  replace G := below_trans G B4 (Nat.le_refl _)
  have S4 := Lib.hid B4.size
  clear B4
  go_wp2_with fail
  go_ret
  exact ⟨rfl, G⟩

set_option maxRecDepth 100000 in
theorem lifted (os : Os) (started : os.Started) (H : Type) (enc : TypeId × Value → H) :
    ReturnsInHanded {} Tryd.checked os 6 .any (fun w args => (Rows.fnExactEditTextSpec.pre enc Tryd.prog Tryd.f6 [] false w args ∧ laidMetH Tryd.prog laidVars w) ∧ sizedMet enc Tryd.prog Tryd.f6 (OpenSpec.ofChange Rows.fnExactEditTextSpec) false w args) (Rows.fnExactEditTextSpec.post enc Tryd.prog Tryd.f6 false true false false) := by
  refine law_lifted_laid Tryd.func6 (by kernel_rfl) rfl rfl (by kernel_rfl) os started
    (ChangeSpec.witness_shaped (enc := enc) (C := Tryd.checked) (os := os) (X := fun w _ => laidMetH Tryd.prog laidVars w) false (World.laidAll Tryd.prog os laidVars) #[.agg #[.int .i64 0, .int .i64 0, .int .i64 0, .int .i64 0, .int .i64 0, .int .i64 0]] 8 (World.laidAll_os _ _ _)
      (World.shaped_of_ZipB (by kernel_rfl) (by kernel_rfl)) (by kernel_rfl) (by kernel_rfl) (by kernel_rfl)
      (by rw [MakeChecks.laidMetH_plain _ _ _ (by kernel_rfl)]; exact laidMet_laidAll _ (by kernel_rfl) (by kernel_rfl))) ?_
  intro W base args ds p hT hval hA hlt
  rw [Tryd.params6] at hA hval
  obtain ⟨v0, vs0, d0, ds0, p0, q0, hargs, rfl, rfl, h0, r0⟩ := trodAll_cons hA
  obtain ⟨rfl, rfl, rfl⟩ := trodAll_nil r0
  obtain rfl : args = #[v0] := by cases args; simp_all
  obtain ⟨a0, rfl, H0⟩ := open_edit (hval 0 57 v0 rfl rfl) h0
  exact ⟨⟨rfl, rfl, rfl⟩, walk a0 W hT H0⟩

set_option maxRecDepth 100000 in
set_option maxHeartbeats 8000000 in
theorem closed : joinedFacts Tryd.pinned.checked.prog 6 Tryd.f6 Rows.fnExactEditTextSpec Rows.fnExactEditTextRow = true :=
  (and_i (and_i (and_i (and_i (and_i (and_i (and_i (and_i (and_i (and_i (and_i (and_i (and_i (and_i (and_i (and_i (and_i (and_i (and_i (and_i (and_i (and_i (and_i (and_i (and_i (and_i (and_i (and_i (and_i (and_i (and_i (by as_aux_lemma => kernel_rfl) seatLaid) sf_maps) (by as_aux_lemma => kernel_rfl)) (by as_aux_lemma => kernel_rfl)) (by as_aux_lemma => kernel_rfl)) (by as_aux_lemma => kernel_rfl)) (by as_aux_lemma => kernel_rfl)) (by as_aux_lemma => kernel_rfl)) (by as_aux_lemma => kernel_rfl)) (by as_aux_lemma => kernel_rfl)) (by as_aux_lemma => kernel_rfl)) (by as_aux_lemma => kernel_rfl)) (by as_aux_lemma => kernel_rfl)) (by as_aux_lemma => kernel_rfl)) (by as_aux_lemma => kernel_rfl)) (by as_aux_lemma => kernel_rfl)) (by as_aux_lemma => kernel_rfl)) (by as_aux_lemma => kernel_rfl)) (by as_aux_lemma => kernel_rfl)) (by as_aux_lemma => kernel_rfl)) (by as_aux_lemma => kernel_rfl)) sf_plain) (by as_aux_lemma => kernel_rfl)) sf_heard) sf_enter) sf_lifts) sf_make) (by as_aux_lemma => kernel_rfl)) (by as_aux_lemma => kernel_rfl)) (by as_aux_lemma => kernel_rfl)) (by as_aux_lemma => kernel_rfl))

theorem over : Rows.fnExactEditTextRow.holds Tryd.pinned (OpenSpec.ofChange Rows.fnExactEditTextSpec) :=
  OpenClaim.holds_of_wide 6 Tryd.f6 rfl rfl rfl rfl rfl rfl rfl ⟨rfl, rfl, rfl, rfl, rfl⟩ rfl rfl rfl rfl rfl (by kernel_rfl) Tryd.func6 closed
    (of_decide_eq_true (by kernel_rfl)) (by unfold Func.isWrapper; first | (rw [if_pos (by decide +kernel)]; kernel_rfl) | (rw [if_neg (by decide +kernel)]; exact ⟨rfl, rfl⟩))
    (fun os started H enc _ => lifted os started H enc)

theorem proved : Rows.FnExactEditTextCardSaid :=
  Claim7.holds_tied_plain_at .later [] [.data, .data, .data] true Rows.fnExactEditTextCard.stood.harness false over (fun _ h => by cases h) (by kernel_rfl) (fun _ h => by cases h) fnExactEditText_row_tie rfl ⟨rfl, rfl⟩ (by kernel_rfl) rfl
    (fun f fn hf hfn => by
      obtain rfl : f = 6 := Option.some.inj ((show Tryd.prog.funcNamed "loop.example/g03001/laws.FnExactEditText" = some 6 by kernel_rfl).symm.trans hf) |>.symm
      obtain rfl : fn = Tryd.f6 := (Option.some.inj (Tryd.func6.symm.trans hfn)).symm
      exact ⟨by kernel_rfl, fun j t ht => by
        rw [Tryd.params6] at ht
        have hm : t ∈ [57] := by simpa using Array.mem_of_getElem? ht
        have hall : ([57].all fun u => !Tryd.prog.wantsStandIn u) = true := by kernel_rfl
        exact (show Tryd.prog.wantsStandIn t = false by simpa using List.all_eq_true.1 hall t hm)⟩)
    (by kernel_rfl)
#print axioms proved
end Go.Proofs.YtkakdfphhnchhaaDoor.fnExactEditText
