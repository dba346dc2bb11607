/- The law FnExactDeriveFromString answers true for every argument, and leaves each argument as it was. No condition. -/
import Derived.Test.YtdfmlmmfkieeoaaDoorEFrame
import Derived.Test.YtdfmlmmfkieeoaaDoorDerive
namespace Go.Proofs.YtdfmlmmfkieeoaaDoor.fnExactDeriveFromString
open Go Go.ChangeShapes Go.WideShapes Go.ChangeAt Go.RowKit Go.Lib
open Go.ChangeMaps (open_string)
set_option linter.unusedVariables false
set_option linter.unusedSimpArgs false
set_option maxRecDepth 100000

theorem drw_size {W w' : World} (hb : Below W.drew.heap.size W.drew w') : W.heap.size ≤ w'.heap.size := hb.size
set_option maxRecDepth 100000 in
set_option maxHeartbeats 20000000 in
theorem walk (a0 : Int) (a1 : ByteArray) (w : World) (hT : Pow10 w) (wf0 : (Lit.int .i64 a0).wf = true) (hm1 : a1.size ≤ maxLen) :
    Calls Tryd.prog 4 #[.int .i64 a0, .string a1] w fun e w' => e = .returned (.bool true) ∧ Below w.heap.size w w' := by
  have hm1 : a1.size ≤ 9223372036854775807 := hm1
  have Wf0 := Lib.hid wf0
  clear wf0
  by_cases hn1 : a1.size ≤ 1048576
  · skip
    go_enter Tryd.func4, Tryd.ntmps4
    go_wp2_with fail
    refine (spec_DeriveFromString a0 a1 _ hT Wf0.out (by omega)).mono ?_
    rintro e w1 ⟨rfl, B1⟩
    replace hT := pow10_below hT B1
    have G := B1
    have S1 := Lib.hid B1.size
    clear B1
    go_wp2_with fail
    refine (impl_DeriveFromString a0 a1 _ hT Wf0.out (by omega)).mono ?_
    rintro e w2 ⟨rfl, B2⟩
    replace hT := pow10_below hT B2
    replace G := below_trans G B2 (Nat.le_refl _)
    have S2 := Lib.hid B2.size
    clear B2
    go_wp2_with fail
    go_ret
    exact ⟨rfl, G⟩
  · go_enter Tryd.func4, Tryd.ntmps4
    go_wp2_with fail
    go_ret
    exact ⟨rfl, by repeat (first | exact Below.refl _ _ | (refine Below.alloc ?_ (by simp <;> omega) _))⟩

set_option maxRecDepth 100000 in
theorem lifted (os : Os) (started : os.Started) (H : Type) (enc : TypeId × Value → H) :
    ReturnsInHanded {} Tryd.checked os 4 .any (fun w args => (Rows.fnExactDeriveFromStringSpec.pre enc Tryd.prog Tryd.f4 [] false w args ∧ laidMetH Tryd.prog laidVars w) ∧ sizedMet enc Tryd.prog Tryd.f4 (OpenSpec.ofChange Rows.fnExactDeriveFromStringSpec) false w args) (Rows.fnExactDeriveFromStringSpec.post enc Tryd.prog Tryd.f4 false true false false) := by
  refine law_lifted_laid Tryd.func4 (by kernel_rfl) rfl rfl (by kernel_rfl) os started
    (ChangeSpec.witness_shaped (enc := enc) (C := Tryd.checked) (os := os) (X := fun w _ => laidMetH Tryd.prog laidVars w) false (World.laidAll Tryd.prog os laidVars) #[.int .i64 0, .string ByteArray.empty] 8 (World.laidAll_os _ _ _)
      (World.shaped_of_ZipB (by kernel_rfl) (by kernel_rfl)) (by kernel_rfl) (by kernel_rfl) (by kernel_rfl)
      (by rw [MakeChecks.laidMetH_plain _ _ _ (by kernel_rfl)]; exact laidMet_laidAll _ (by kernel_rfl) (by kernel_rfl))) ?_
  intro W base args ds p hT hval hA hlt
  rw [Tryd.params4] at hA hval
  obtain ⟨v0, vs0, d0, ds0, p0, q0, hargs, rfl, rfl, h0, r0⟩ := trodAll_cons hA
  obtain ⟨v1, vs1, d1, ds1, p1, q1, rfl, rfl, rfl, h1, r1⟩ := trodAll_cons r0
  obtain ⟨rfl, rfl, rfl⟩ := trodAll_nil r1
  obtain rfl : args = #[v0, v1] := by cases args; simp_all
  obtain ⟨a0, rfl, rfl, rfl, wf0⟩ := open_int Tryd.underlying3 (hval 0 3 v0 rfl rfl) h0
  obtain ⟨a1, rfl, rfl, rfl, ws1⟩ := open_string Tryd.underlying9 (hval 1 9 v1 rfl rfl) h1
  exact ⟨fun _ => ⟨rfl, rfl, rfl⟩, walk a0 a1 W hT wf0 ws1⟩

theorem over : Rows.fnExactDeriveFromStringRow.holds Tryd.pinned (OpenSpec.ofChange Rows.fnExactDeriveFromStringSpec) :=
  OpenClaim.holds_of_wide 4 Tryd.f4 rfl rfl rfl rfl rfl rfl rfl ⟨rfl, rfl, rfl, rfl, rfl⟩ rfl rfl rfl rfl rfl (by kernel_rfl) Tryd.func4 (by kernel_rfl)
    (of_decide_eq_true (by kernel_rfl)) (by unfold Func.isWrapper; first | (rw [if_pos (by decide +kernel)]; kernel_rfl) | (rw [if_neg (by decide +kernel)]; exact ⟨rfl, rfl⟩))
    (fun os started H enc _ => lifted os started H enc)

theorem proved : Rows.FnExactDeriveFromStringCardSaid :=
  Claim7.holds_tied_plain_at .later [] [.sentinel] true Rows.fnExactDeriveFromStringCard.stood.harness true over (fun _ h => by cases h) (by kernel_rfl) (fun _ h => by cases h) fnExactDeriveFromString_row_tie rfl ⟨rfl, rfl⟩ (by kernel_rfl) rfl
    (fun f fn hf hfn => by
      obtain rfl : f = 4 := Option.some.inj ((show Tryd.prog.funcNamed "loop.example/g03001/laws.FnExactDeriveFromString" = some 4 by kernel_rfl).symm.trans hf) |>.symm
      obtain rfl : fn = Tryd.f4 := (Option.some.inj (Tryd.func4.symm.trans hfn)).symm
      exact ⟨by kernel_rfl, fun j t ht => by
        rw [Tryd.params4] at ht
        have hm : t ∈ [3, 9] := by simpa using Array.mem_of_getElem? ht
        have hall : ([3, 9].all fun u => !Tryd.prog.wantsStandIn u) = true := by kernel_rfl
        exact (show Tryd.prog.wantsStandIn t = false by simpa using List.all_eq_true.1 hall t hm)⟩)
    (by kernel_rfl)
#print axioms proved
end Go.Proofs.YtdfmlmmfkieeoaaDoor.fnExactDeriveFromString
