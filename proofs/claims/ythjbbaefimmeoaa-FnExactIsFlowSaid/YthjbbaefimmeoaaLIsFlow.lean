/- The law FnExactIsFlow answers true for every argument, and leaves each argument as it was. No condition. -/
import Derived.Test.YthjbbaefimmeoaaTFlow
import Derived.Test.YthjbbaefimmeoaaFlow
namespace Go.Proofs.Ythjbbaefimmeoaa.fnExactIsFlow
open Go Go.ChangeShapes Go.WideShapes Go.ChangeAt Go.RowKit Go.Lib
open Go.ChangeMaps (open_string)
set_option linter.unusedVariables false
set_option maxRecDepth 100000

theorem drw_size {W w' : World} (hb : Below W.drew.heap.size W.drew w') : W.heap.size ≤ w'.heap.size := hb.size
set_option maxRecDepth 100000 in
set_option maxHeartbeats 20000000 in
theorem walk (a0 : TFlow) (w : World) (H0 : Hid (TFlow.fit a0)) :
    Calls Try.prog 8 #[.agg #[.int .i64 a0.f0, .int .i64 a0.f1, .int .i64 a0.f2]] w fun e w' => e = .returned (.bool true) ∧ Below w.heap.size w w' := by
  have G : Below w.heap.size w (w.alloc (.cells #[.int .i64 a0.f0, .int .i64 a0.f1, .int .i64 a0.f2] 33)) := (Below.refl _ _).alloc (by simp) _
  have S0 := Lib.hid (show (w.alloc (.cells #[.int .i64 a0.f0, .int .i64 a0.f1, .int .i64 a0.f2] 33)).heap.size = w.heap.size + 1 by simp)
  have KB0 : BoxAt (w.alloc (.cells #[.int .i64 a0.f0, .int .i64 a0.f1, .int .i64 a0.f2] 33)) (w.heap.size) 33 #[.int .i64 a0.f0, .int .i64 a0.f1, .int .i64 a0.f2] := box_new _ _ _
  go_enter Try.func8, Try.ntmps8
  go_wp2_with fail
  refine (to_flow_one a0 _).mono ?_
  rintro e w1 ⟨rfl, B1⟩
  replace KB0 := KB0.new B1
  replace G := below_trans G B1 (Nat.le_refl _)
  have S1 := Lib.hid B1.size
  clear B1
  go_wp2_with fail
  refine (spec_IsFlow a0 _ ).mono ?_
  rintro e w2 ⟨rfl, B2⟩
  replace KB0 := KB0.new B2
  replace G := below_trans G B2 (Nat.le_refl _)
  have S2 := Lib.hid B2.size
  clear B2
  have x3_0 : w2.cell? ⟨w.heap.size, 0, none⟩ = some (.int .i64 a0.f0) := KB0.at_ rfl
  have x3_1 : w2.cell? ⟨w.heap.size, 1, none⟩ = some (.int .i64 a0.f1) := KB0.at_ rfl
  have x3_2 : w2.cell? ⟨w.heap.size, 2, none⟩ = some (.int .i64 a0.f2) := KB0.at_ rfl
  go_wp2_with fail
  clear x3_0 x3_1 x3_2
  refine (to_flow_one a0 _).mono ?_
  rintro e w3 ⟨rfl, B3⟩
  replace KB0 := KB0.new B3
  replace G := below_trans G B3 (Nat.le_refl _)
  have S3 := Lib.hid B3.size
  clear B3
  go_wp2_with fail
  refine (impl_IsFlow a0 _ ).mono ?_
  rintro e w4 ⟨rfl, B4⟩
  replace KB0 := KB0.new B4
  replace G := below_trans G B4 (Nat.le_refl _)
  have S4 := Lib.hid B4.size
  clear B4
  go_wp2_with fail
  go_ret
  exact ⟨rfl, G⟩

set_option maxRecDepth 100000 in
theorem lifted (os : Os) (started : os.Started) (H : Type) (enc : TypeId × Value → H) :
    ReturnsInHanded {} Try.checked os 8 .any (Rows.fnExactIsFlowSpec.pre6 enc Try.prog Try.f8 Rows.fnExactIsFlowRow.domain false) (Rows.fnExactIsFlowSpec.post enc Try.prog Try.f8 false true false false) := by
  refine law_lifted Try.func8 (by kernel_rfl) rfl rfl (by kernel_rfl) os started
    (ChangeSpec.witness6 (enc := enc) (C := Try.checked) false ⟨#[], #[.agg #[.int .i64 0, .int .i64 0, .int .i64 0]], []⟩ 8 (by kernel_rfl) (by kernel_rfl) (by kernel_rfl) (by kernel_rfl)) ?_
  intro W base args ds p hval hA hlt
  rw [Try.params8] at hA hval
  obtain ⟨v0, vs0, d0, ds0, p0, q0, hargs, rfl, rfl, h0, r0⟩ := trodAll_cons hA
  obtain ⟨rfl, rfl, rfl⟩ := trodAll_nil r0
  obtain rfl : args = #[v0] := by cases args; simp_all
  obtain ⟨a0, rfl, H0⟩ := open_flow (hval 0 33 v0 rfl rfl) h0
  exact ⟨⟨rfl, rfl, rfl⟩, walk a0 W H0⟩

theorem over : Rows.fnExactIsFlowRow.holds Try.pinned (OpenSpec.ofChange Rows.fnExactIsFlowSpec) :=
  OpenClaim.holds_of_wide 8 Try.f8 rfl rfl rfl rfl rfl rfl rfl ⟨rfl, rfl, rfl, rfl, rfl⟩ rfl rfl rfl rfl rfl (by kernel_rfl) Try.func8 (by kernel_rfl)
    (of_decide_eq_true (by kernel_rfl)) (by unfold Func.isWrapper; first | (rw [if_pos (by decide +kernel)]; kernel_rfl) | (rw [if_neg (by decide +kernel)]; exact ⟨rfl, rfl⟩))
    (fun os started H enc _ => lifted os started H enc)

theorem proved : Rows.FnExactIsFlowSaid := over
#print axioms proved
end Go.Proofs.Ythjbbaefimmeoaa.fnExactIsFlow
