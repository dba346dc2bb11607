/- The law FnExactEventName answers true for every argument, and leaves each argument as it was. No condition. -/
import Derived.Test.YtmdmihilhilkiaaEvName
namespace Go.Proofs.Ytmdmihilhilkiaa.fnExactEventName
open Go Go.ChangeShapes Go.WideShapes Go.ChangeAt Go.RowKit Go.Lib
open Go.ChangeMaps (open_string)
set_option linter.unusedVariables false
set_option linter.unusedSimpArgs false
set_option maxRecDepth 100000

theorem drw_size {W w' : World} (hb : Below W.drew.heap.size W.drew w') : W.heap.size ≤ w'.heap.size := hb.size
set_option maxRecDepth 100000 in
set_option maxHeartbeats 20000000 in
theorem walk (a0 : Int) (w : World) (wf0 : (Lit.int .i64 a0).wf = true) :
    Calls Try.prog 4 #[.int .i64 a0] w fun e w' => e = .returned (.bool true) ∧ Below w.heap.size w w' := by
  have Wf0 := Lib.hid wf0
  clear wf0
  go_enter Try.func4, Try.ntmps4
  go_wp2_with fail
  refine (spec_EventName a0 _ ).mono ?_
  rintro e w1 ⟨rfl, B1⟩
  have G := B1
  have S1 := Lib.hid B1.size
  clear B1
  go_wp2_with fail
  refine (impl_EventName a0 _ ).mono ?_
  rintro e w2 ⟨rfl, B2⟩
  replace G := below_trans G B2 (Nat.le_refl _)
  have S2 := Lib.hid B2.size
  clear B2
  go_wp2_with fail
  go_ret
  exact ⟨rfl, G⟩

set_option maxRecDepth 100000 in
theorem lifted (os : Os) (started : os.Started) (H : Type) (enc : TypeId × Value → H) :
    ReturnsInHanded {} Try.checked os 4 .any (Rows.fnExactEventNameSpec.pre6 enc Try.prog Try.f4 Rows.fnExactEventNameRow.domain false) (Rows.fnExactEventNameSpec.post enc Try.prog Try.f4 false true false false) := by
  refine law_lifted Try.func4 (by kernel_rfl) rfl rfl (by kernel_rfl) os started
    (ChangeSpec.witness6 (enc := enc) (C := Try.checked) false ⟨#[], #[.int .i64 0], []⟩ 8 (by kernel_rfl) (by kernel_rfl) (by kernel_rfl) (by kernel_rfl)) ?_
  intro W base args ds p hval hA hlt
  rw [Try.params4] at hA hval
  obtain ⟨v0, vs0, d0, ds0, p0, q0, hargs, rfl, rfl, h0, r0⟩ := trodAll_cons hA
  obtain ⟨rfl, rfl, rfl⟩ := trodAll_nil r0
  obtain rfl : args = #[v0] := by cases args; simp_all
  obtain ⟨a0, rfl, rfl, rfl, wf0⟩ := open_int Try.underlying3 (hval 0 3 v0 rfl rfl) h0
  exact ⟨⟨rfl, rfl, rfl⟩, walk a0 W wf0⟩

theorem over : Rows.fnExactEventNameRow.holds Try.pinned (OpenSpec.ofChange Rows.fnExactEventNameSpec) :=
  OpenClaim.holds_of_wide 4 Try.f4 rfl rfl rfl rfl rfl rfl rfl ⟨rfl, rfl, rfl, rfl, rfl⟩ rfl rfl rfl rfl rfl (by kernel_rfl) Try.func4 (by kernel_rfl)
    (of_decide_eq_true (by kernel_rfl)) (by unfold Func.isWrapper; first | (rw [if_pos (by decide +kernel)]; kernel_rfl) | (rw [if_neg (by decide +kernel)]; exact ⟨rfl, rfl⟩))
    (fun os started H enc _ => lifted os started H enc)

theorem proved : Rows.FnExactEventNameSaid := over
#print axioms proved
end Go.Proofs.Ytmdmihilhilkiaa.fnExactEventName
