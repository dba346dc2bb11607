/- The law FnExactHandleOf answers true for every argument, and leaves each argument as it was. No condition. -/
import Derived.Test.YtgpaclbioelphaaHandle
namespace Go.Proofs.Ytgpaclbioelphaa.fnExactHandleOf
open Go Go.ChangeShapes Go.WideShapes Go.ChangeAt Go.RowKit Go.Lib
open Go.ChangeMaps (open_string)
set_option linter.unusedVariables false
set_option maxRecDepth 100000

set_option maxRecDepth 100000 in
set_option maxHeartbeats 1000000 in
theorem walk (a0 : Int) (a1 : Int) (a2 : Int) (w : World) (wf0 : (Lit.int .i64 a0).wf = true) (wf1 : (Lit.int .i64 a1).wf = true) (wf2 : (Lit.int .i64 a2).wf = true) :
    Calls Try.prog 10 #[.int .i64 a0, .int .i64 a1, .int .i64 a2] w fun e w' => e = .returned (.bool true) ∧ Below w.heap.size w w' := by
  have Wf0 := Lib.hid wf0
  clear wf0
  have Wf1 := Lib.hid wf1
  clear wf1
  have Wf2 := Lib.hid wf2
  clear wf2
  go_enter Try.func10, Try.ntmps10
  go_wp2_with fail
  refine (spec_HandleOf a0 a1 a2 _ Wf0.out Wf1.out Wf2.out).mono ?_
  rintro e w1 ⟨rfl, B1⟩
  have G := B1
  have S1 := Lib.hid B1.size
  clear B1
  go_wp2_with fail
  refine (impl_HandleOf a0 a1 a2 _ Wf0.out Wf1.out Wf2.out).mono ?_
  rintro e w2 ⟨rfl, B2⟩
  replace G := below_trans G B2 (Nat.le_refl _)
  have S2 := Lib.hid B2.size
  clear B2
  go_wp2_with fail
  go_ret
  exact ⟨rfl, G⟩

set_option maxRecDepth 100000 in
theorem lifted (os : Os) (started : os.Started) (H : Type) (enc : TypeId × Value → H) :
    ReturnsInHanded {} Try.checked os 10 .any (Rows.fnExactHandleOfSpec.pre6 enc Try.prog Try.f10 Rows.fnExactHandleOfRow.domain false) (Rows.fnExactHandleOfSpec.post enc Try.prog Try.f10 false true false false) := by
  refine law_lifted Try.func10 (by kernel_rfl) rfl rfl (by kernel_rfl) os started
    (ChangeSpec.witness6 (enc := enc) (C := Try.checked) false ⟨#[], #[.int .i64 0, .int .i64 0, .int .i64 0], []⟩ 8 (by kernel_rfl) (by kernel_rfl) (by kernel_rfl) (by kernel_rfl)) ?_
  intro W base args ds p hval hA hlt
  rw [Try.params10] at hA hval
  obtain ⟨v0, vs0, d0, ds0, p0, q0, hargs, rfl, rfl, h0, r0⟩ := trodAll_cons hA
  obtain ⟨v1, vs1, d1, ds1, p1, q1, rfl, rfl, rfl, h1, r1⟩ := trodAll_cons r0
  obtain ⟨v2, vs2, d2, ds2, p2, q2, rfl, rfl, rfl, h2, r2⟩ := trodAll_cons r1
  obtain ⟨rfl, rfl, rfl⟩ := trodAll_nil r2
  obtain rfl : args = #[v0, v1, v2] := by cases args; simp_all
  obtain ⟨a0, rfl, rfl, rfl, wf0⟩ := open_int Try.underlying3 (hval 0 3 v0 rfl rfl) h0
  obtain ⟨a1, rfl, rfl, rfl, wf1⟩ := open_int Try.underlying3 (hval 1 3 v1 rfl rfl) h1
  obtain ⟨a2, rfl, rfl, rfl, wf2⟩ := open_int Try.underlying3 (hval 2 3 v2 rfl rfl) h2
  exact ⟨⟨rfl, rfl, rfl⟩, walk a0 a1 a2 W wf0 wf1 wf2⟩

theorem over : Rows.fnExactHandleOfRow.holds Try.pinned (OpenSpec.ofChange Rows.fnExactHandleOfSpec) :=
  OpenClaim.holds_of_wide 10 Try.f10 rfl rfl rfl rfl rfl rfl rfl ⟨rfl, rfl, rfl, rfl, rfl⟩ rfl rfl rfl rfl rfl (by kernel_rfl) Try.func10 (by kernel_rfl)
    (of_decide_eq_true (by kernel_rfl)) (by unfold Func.isWrapper; first | (rw [if_pos (by decide +kernel)]; kernel_rfl) | (rw [if_neg (by decide +kernel)]; exact ⟨rfl, rfl⟩))
    (fun os started H enc _ => lifted os started H enc)

theorem proved : Rows.FnExactHandleOfSaid := over
#print axioms proved
end Go.Proofs.Ytgpaclbioelphaa.fnExactHandleOf
