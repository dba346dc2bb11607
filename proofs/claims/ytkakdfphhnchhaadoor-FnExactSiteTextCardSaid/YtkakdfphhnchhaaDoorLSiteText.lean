/- The law FnExactSiteText answers true for every argument, and leaves each argument as it was. No condition. -/
import Derived.Test.YtkakdfphhnchhaaDoorDFrame
import Derived.Test.YtkakdfphhnchhaaDoorFacts
import Derived.Test.YtkakdfphhnchhaaDoorTSite
import Derived.Test.YtkakdfphhnchhaaDoorTxSite
namespace Go.Proofs.YtkakdfphhnchhaaDoor.fnExactSiteText
open Go Go.ChangeShapes Go.WideShapes Go.ChangeAt Go.RowKit Go.Lib
open Go.ChangeMaps (open_string)
set_option linter.unusedVariables false
set_option linter.unusedSimpArgs false
set_option maxRecDepth 100000

theorem drw_size {W w' : World} (hb : Below W.drew.heap.size W.drew w') : W.heap.size ≤ w'.heap.size := hb.size
set_option maxRecDepth 100000 in
set_option maxHeartbeats 20000000 in
theorem walk (a0 : TSite) (w : World) (hT : Pow10 w) (H0 : Hid (TSite.fit a0)) :
    Calls Tryd.prog 3 #[.agg #[.int .i64 a0.f0, .int .i64 a0.f1]] w fun e w' => e = .returned (.bool true) ∧ Below w.heap.size w w' := by
  have G : Below w.heap.size w (w.alloc (.cells #[.int .i64 a0.f0, .int .i64 a0.f1] 23)) := (Below.refl _ _).alloc (by simp) _
  have S0 := Lib.hid (show (w.alloc (.cells #[.int .i64 a0.f0, .int .i64 a0.f1] 23)).heap.size = w.heap.size + 1 by simp)
  have KB0 : BoxAt (w.alloc (.cells #[.int .i64 a0.f0, .int .i64 a0.f1] 23)) (w.heap.size) 23 #[.int .i64 a0.f0, .int .i64 a0.f1] := box_new _ _ _
  go_enter Tryd.func3, Tryd.ntmps3
  go_wp2_with fail
  refine (to_site_one a0 _).mono ?_
  rintro e w1 ⟨rfl, B1⟩
  replace KB0 := KB0.new B1
  replace G := below_trans G B1 (Nat.le_refl _)
  have S1 := Lib.hid B1.size
  clear B1
  go_wp2_with fail
  refine (spec_SiteText a0 _ (pow10_below hT G) H0).mono ?_
  rintro e w2 ⟨rfl, B2⟩
  replace KB0 := KB0.new B2
  replace G := below_trans G B2 (Nat.le_refl _)
  have S2 := Lib.hid B2.size
  clear B2
  have x3_0 : w2.cell? ⟨w.heap.size, 0, none⟩ = some (.int .i64 a0.f0) := KB0.at_ rfl
  have x3_1 : w2.cell? ⟨w.heap.size, 1, none⟩ = some (.int .i64 a0.f1) := KB0.at_ rfl
  go_wp2_with fail
  clear x3_0 x3_1
  refine (to_site_one a0 _).mono ?_
  rintro e w3 ⟨rfl, B3⟩
  replace KB0 := KB0.new B3
  replace G := below_trans G B3 (Nat.le_refl _)
  have S3 := Lib.hid B3.size
  clear B3
  go_wp2_with fail
  refine (impl_SiteText a0 _ (pow10_below hT G) H0).mono ?_
  rintro e w4 ⟨rfl, B4⟩
  replace KB0 := KB0.new B4
  replace G := below_trans G B4 (Nat.le_refl _)
  have S4 := Lib.hid B4.size
  clear B4
  go_wp2_with fail
  go_ret
  exact ⟨rfl, G⟩

set_option maxRecDepth 100000 in
theorem lifted (os : Os) (started : os.Started) (H : Type) (enc : TypeId × Value → H) :
    ReturnsInHanded {} Tryd.checked os 3 .any (fun w args => (Rows.fnExactSiteTextSpec.pre enc Tryd.prog Tryd.f3 [] false w args ∧ laidMetH Tryd.prog laidVars w) ∧ sizedMet enc Tryd.prog Tryd.f3 (OpenSpec.ofChange Rows.fnExactSiteTextSpec) false w args) (Rows.fnExactSiteTextSpec.post enc Tryd.prog Tryd.f3 false true false false) := by
  refine law_lifted_laid Tryd.func3 (by kernel_rfl) rfl rfl (by kernel_rfl) os started
    (ChangeSpec.witness_shaped (enc := enc) (C := Tryd.checked) (os := os) (X := fun w _ => laidMetH Tryd.prog laidVars w) false (World.laidAll Tryd.prog os laidVars) #[.agg #[.int .i64 0, .int .i64 0]] 8 (World.laidAll_os _ _ _)
      (World.shaped_of_ZipB (by kernel_rfl) (by kernel_rfl)) (by kernel_rfl) (by kernel_rfl) (by kernel_rfl)
      (by rw [MakeChecks.laidMetH_plain _ _ _ (by kernel_rfl)]; exact laidMet_laidAll _ (by kernel_rfl) (by kernel_rfl))) ?_
  intro W base args ds p hT hval hA hlt
  rw [Tryd.params3] at hA hval
  obtain ⟨v0, vs0, d0, ds0, p0, q0, hargs, rfl, rfl, h0, r0⟩ := trodAll_cons hA
  obtain ⟨rfl, rfl, rfl⟩ := trodAll_nil r0
  obtain rfl : args = #[v0] := by cases args; simp_all
  obtain ⟨a0, rfl, H0⟩ := open_site (hval 0 23 v0 rfl rfl) h0
  exact ⟨⟨rfl, rfl, rfl⟩, walk a0 W hT H0⟩

set_option maxRecDepth 100000 in
set_option maxHeartbeats 8000000 in
theorem closed : joinedFacts Tryd.pinned.checked.prog 3 Tryd.f3 Rows.fnExactSiteTextSpec Rows.fnExactSiteTextRow = true :=
  (and_i (and_i (and_i (and_i (and_i (and_i (and_i (and_i (and_i (and_i (and_i (and_i (and_i (and_i (and_i (and_i (and_i (and_i (and_i (and_i (and_i (and_i (and_i (and_i (and_i (and_i (and_i (and_i (and_i (and_i (and_i (by as_aux_lemma => kernel_rfl) seatLaid) sf_maps) (by as_aux_lemma => kernel_rfl)) (by as_aux_lemma => kernel_rfl)) (by as_aux_lemma => kernel_rfl)) (by as_aux_lemma => kernel_rfl)) (by as_aux_lemma => kernel_rfl)) (by as_aux_lemma => kernel_rfl)) (by as_aux_lemma => kernel_rfl)) (by as_aux_lemma => kernel_rfl)) (by as_aux_lemma => kernel_rfl)) (by as_aux_lemma => kernel_rfl)) (by as_aux_lemma => kernel_rfl)) (by as_aux_lemma => kernel_rfl)) (by as_aux_lemma => kernel_rfl)) (by as_aux_lemma => kernel_rfl)) (by as_aux_lemma => kernel_rfl)) (by as_aux_lemma => kernel_rfl)) (by as_aux_lemma => kernel_rfl)) (by as_aux_lemma => kernel_rfl)) (by as_aux_lemma => kernel_rfl)) sf_plain) (by as_aux_lemma => kernel_rfl)) sf_heard) sf_enter) sf_lifts) sf_make) (by as_aux_lemma => kernel_rfl)) (by as_aux_lemma => kernel_rfl)) (by as_aux_lemma => kernel_rfl)) (by as_aux_lemma => kernel_rfl))

theorem over : Rows.fnExactSiteTextRow.holds Tryd.pinned (OpenSpec.ofChange Rows.fnExactSiteTextSpec) :=
  OpenClaim.holds_of_wide 3 Tryd.f3 rfl rfl rfl rfl rfl rfl rfl ⟨rfl, rfl, rfl, rfl, rfl⟩ rfl rfl rfl rfl rfl (by kernel_rfl) Tryd.func3 closed
    (of_decide_eq_true (by kernel_rfl)) (by unfold Func.isWrapper; first | (rw [if_pos (by decide +kernel)]; kernel_rfl) | (rw [if_neg (by decide +kernel)]; exact ⟨rfl, rfl⟩))
    (fun os started H enc _ => lifted os started H enc)

theorem proved : Rows.FnExactSiteTextCardSaid :=
  Claim7.holds_tied_plain_at .later [] [.data, .data, .data] true Rows.fnExactSiteTextCard.stood.harness false over (fun _ h => by cases h) (by kernel_rfl) (fun _ h => by cases h) fnExactSiteText_row_tie rfl ⟨rfl, rfl⟩ (by kernel_rfl) rfl
    (fun f fn hf hfn => by
      obtain rfl : f = 3 := Option.some.inj ((show Tryd.prog.funcNamed "loop.example/g03001/laws.FnExactSiteText" = some 3 by kernel_rfl).symm.trans hf) |>.symm
      obtain rfl : fn = Tryd.f3 := (Option.some.inj (Tryd.func3.symm.trans hfn)).symm
      exact ⟨by kernel_rfl, fun j t ht => by
        rw [Tryd.params3] at ht
        have hm : t ∈ [23] := by simpa using Array.mem_of_getElem? ht
        have hall : ([23].all fun u => !Tryd.prog.wantsStandIn u) = true := by kernel_rfl
        exact (show Tryd.prog.wantsStandIn t = false by simpa using List.all_eq_true.1 hall t hm)⟩)
    (by kernel_rfl)
#print axioms proved
end Go.Proofs.YtkakdfphhnchhaaDoor.fnExactSiteText
