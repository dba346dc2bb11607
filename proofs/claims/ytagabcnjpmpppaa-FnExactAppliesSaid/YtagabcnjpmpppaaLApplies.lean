/- The law FnExactApplies answers true for every argument, and leaves each argument as it was. No condition. -/
import Derived.Test.YtagabcnjpmpppaaTRequest
import Derived.Test.YtagabcnjpmpppaaTRule
import Derived.Test.YtagabcnjpmpppaaApplies
namespace Go.Proofs.Ytagabcnjpmpppaa.fnExactApplies
open Go Go.ChangeShapes Go.WideShapes Go.ChangeAt Go.RowKit Go.Lib
open Go.ChangeMaps (open_string)
set_option linter.unusedVariables false
set_option maxRecDepth 100000

set_option maxRecDepth 100000 in
set_option maxHeartbeats 20000000 in
theorem walk (a0 : TRule) (a1 : TRequest) (w : World) (H0 : Hid (TRule.fit a0)) (H1 : Hid (TRequest.fit a1)) :
    Calls Try.prog 12 #[.agg #[.int .i64 a0.f0, .int .i64 a0.f1, .int .i64 a0.f2, .int .i64 a0.f3, .int .i64 a0.f4, .int .i64 a0.f5, .int .i64 a0.f6, .int .i64 a0.f7], .agg #[.int .i64 a1.f0, .int .i64 a1.f1, .int .i64 a1.f2]] w fun e w' => e = .returned (.bool true) ∧ Below w.heap.size w w' := by
  have G : Below w.heap.size w ((w.alloc (.cells #[.int .i64 a0.f0, .int .i64 a0.f1, .int .i64 a0.f2, .int .i64 a0.f3, .int .i64 a0.f4, .int .i64 a0.f5, .int .i64 a0.f6, .int .i64 a0.f7] 66)).alloc (.cells #[.int .i64 a1.f0, .int .i64 a1.f1, .int .i64 a1.f2] 68)) := ((Below.refl _ _).alloc (by simp) _).alloc (by simp) _
  have S0 := Lib.hid (show ((w.alloc (.cells #[.int .i64 a0.f0, .int .i64 a0.f1, .int .i64 a0.f2, .int .i64 a0.f3, .int .i64 a0.f4, .int .i64 a0.f5, .int .i64 a0.f6, .int .i64 a0.f7] 66)).alloc (.cells #[.int .i64 a1.f0, .int .i64 a1.f1, .int .i64 a1.f2] 68)).heap.size = w.heap.size + 2 by simp)
  have KB0 : BoxAt (w.alloc (.cells #[.int .i64 a0.f0, .int .i64 a0.f1, .int .i64 a0.f2, .int .i64 a0.f3, .int .i64 a0.f4, .int .i64 a0.f5, .int .i64 a0.f6, .int .i64 a0.f7] 66)) (w.heap.size) 66 #[.int .i64 a0.f0, .int .i64 a0.f1, .int .i64 a0.f2, .int .i64 a0.f3, .int .i64 a0.f4, .int .i64 a0.f5, .int .i64 a0.f6, .int .i64 a0.f7] := box_new _ _ _
  have KB1 : BoxAt ((w.alloc (.cells #[.int .i64 a0.f0, .int .i64 a0.f1, .int .i64 a0.f2, .int .i64 a0.f3, .int .i64 a0.f4, .int .i64 a0.f5, .int .i64 a0.f6, .int .i64 a0.f7] 66)).alloc (.cells #[.int .i64 a1.f0, .int .i64 a1.f1, .int .i64 a1.f2] 68)) (w.heap.size + 1) 68 #[.int .i64 a1.f0, .int .i64 a1.f1, .int .i64 a1.f2] := by simpa using box_new (w.alloc (.cells #[.int .i64 a0.f0, .int .i64 a0.f1, .int .i64 a0.f2, .int .i64 a0.f3, .int .i64 a0.f4, .int .i64 a0.f5, .int .i64 a0.f6, .int .i64 a0.f7] 66)) 68 #[.int .i64 a1.f0, .int .i64 a1.f1, .int .i64 a1.f2]
  replace KB0 := KB0.alloc_ (.cells #[.int .i64 a1.f0, .int .i64 a1.f1, .int .i64 a1.f2] 68)
  go_enter Try.func12, Try.ntmps12
  go_wp2_with fail
  replace KB0 := KB0.drw
  replace KB1 := KB1.drw
  replace G := G.drew
  go_region_held3 (fun w' => w'.cell? ⟨w.heap.size, 0, none⟩ = some (.int .i64 a0.f0) ∧ w'.cell? ⟨w.heap.size, 1, none⟩ = some (.int .i64 a0.f1) ∧ w'.cell? ⟨w.heap.size, 2, none⟩ = some (.int .i64 a0.f2) ∧ w'.cell? ⟨w.heap.size, 3, none⟩ = some (.int .i64 a0.f3) ∧ w'.cell? ⟨w.heap.size, 4, none⟩ = some (.int .i64 a0.f4) ∧ w'.cell? ⟨w.heap.size, 5, none⟩ = some (.int .i64 a0.f5) ∧ w'.cell? ⟨w.heap.size, 6, none⟩ = some (.int .i64 a0.f6) ∧ w'.cell? ⟨w.heap.size, 7, none⟩ = some (.int .i64 a0.f7) ∧ w'.cell? ⟨w.heap.size + 1, 0, none⟩ = some (.int .i64 a1.f0) ∧ w'.cell? ⟨w.heap.size + 1, 1, none⟩ = some (.int .i64 a1.f1) ∧ w'.cell? ⟨w.heap.size + 1, 2, none⟩ = some (.int .i64 a1.f2))
    (exact ⟨KB0.at_ rfl, KB0.at_ rfl, KB0.at_ rfl, KB0.at_ rfl, KB0.at_ rfl, KB0.at_ rfl, KB0.at_ rfl, KB0.at_ rfl, KB1.at_ rfl, KB1.at_ rfl, KB1.at_ rfl⟩)
    (first
      | (go_at_call 47; refine (to_rule_one a0 _).mono ?_; rintro e w1 ⟨rfl, B1⟩; (replace KB0 := box_nw B1 KB0); (replace KB1 := box_nw B1 KB1); (replace G := below_trans G B1 (Nat.le_refl _)); (have S1 := Lib.hid (show ((w.alloc (.cells #[.int .i64 a0.f0, .int .i64 a0.f1, .int .i64 a0.f2, .int .i64 a0.f3, .int .i64 a0.f4, .int .i64 a0.f5, .int .i64 a0.f6, .int .i64 a0.f7] 66)).alloc (.cells #[.int .i64 a1.f0, .int .i64 a1.f1, .int .i64 a1.f2] 68)).heap.size ≤ w1.heap.size from B1.size)))
      | (go_at_call 48; refine (to_request_one a1 _).mono ?_; rintro e w2 ⟨rfl, B2⟩; (replace KB0 := box_nw B2 KB0); (replace KB1 := box_nw B2 KB1); (replace G := below_trans G B2 (Nat.le_refl _)); (have S2 := Lib.hid (show w1.heap.size ≤ w2.heap.size from B2.size)))
      | (go_at_call 46; refine Calls.mono (spec_Applies a0 a1 _ ) ?_; rintro e w3 ⟨rfl, B3⟩; (replace KB0 := box_nw B3 KB0); (replace KB1 := box_nw B3 KB1); (replace G := below_trans G B3 (Nat.le_refl _)); (have S3 := Lib.hid (show w2.heap.size ≤ w3.heap.size from B3.size))))
  clear B1
  clear B2
  clear B3
  go_wp2_with fail
  replace KB0 := KB0.drw
  replace KB1 := KB1.drw
  replace G := G.drew
  go_region_held3 (fun w' => w'.cell? ⟨w.heap.size, 0, none⟩ = some (.int .i64 a0.f0) ∧ w'.cell? ⟨w.heap.size, 1, none⟩ = some (.int .i64 a0.f1) ∧ w'.cell? ⟨w.heap.size, 2, none⟩ = some (.int .i64 a0.f2) ∧ w'.cell? ⟨w.heap.size, 3, none⟩ = some (.int .i64 a0.f3) ∧ w'.cell? ⟨w.heap.size, 4, none⟩ = some (.int .i64 a0.f4) ∧ w'.cell? ⟨w.heap.size, 5, none⟩ = some (.int .i64 a0.f5) ∧ w'.cell? ⟨w.heap.size, 6, none⟩ = some (.int .i64 a0.f6) ∧ w'.cell? ⟨w.heap.size, 7, none⟩ = some (.int .i64 a0.f7) ∧ w'.cell? ⟨w.heap.size + 1, 0, none⟩ = some (.int .i64 a1.f0) ∧ w'.cell? ⟨w.heap.size + 1, 1, none⟩ = some (.int .i64 a1.f1) ∧ w'.cell? ⟨w.heap.size + 1, 2, none⟩ = some (.int .i64 a1.f2))
    (exact ⟨KB0.at_ rfl, KB0.at_ rfl, KB0.at_ rfl, KB0.at_ rfl, KB0.at_ rfl, KB0.at_ rfl, KB0.at_ rfl, KB0.at_ rfl, KB1.at_ rfl, KB1.at_ rfl, KB1.at_ rfl⟩)
    (first
      | (go_at_call 47; refine (to_rule_one a0 _).mono ?_; rintro e w4 ⟨rfl, B4⟩; (replace KB0 := box_nw B4 KB0); (replace KB1 := box_nw B4 KB1); (replace G := below_trans G B4 (Nat.le_refl _)); (have S4 := Lib.hid (show w3.heap.size ≤ w4.heap.size from B4.size)))
      | (go_at_call 48; refine (to_request_one a1 _).mono ?_; rintro e w5 ⟨rfl, B5⟩; (replace KB0 := box_nw B5 KB0); (replace KB1 := box_nw B5 KB1); (replace G := below_trans G B5 (Nat.le_refl _)); (have S5 := Lib.hid (show w4.heap.size ≤ w5.heap.size from B5.size)))
      | (go_at_call 49; refine Calls.mono (impl_Applies a0 a1 _ ) ?_; rintro e w6 ⟨rfl, B6⟩; (replace KB0 := box_nw B6 KB0); (replace KB1 := box_nw B6 KB1); (replace G := below_trans G B6 (Nat.le_refl _)); (have S6 := Lib.hid (show w5.heap.size ≤ w6.heap.size from B6.size))))
  clear B4
  clear B5
  clear B6
  go_wp2_with fail
  go_ret
  exact ⟨rfl, G⟩

set_option maxRecDepth 100000 in
theorem lifted (os : Os) (started : os.Started) (H : Type) (enc : TypeId × Value → H) :
    ReturnsInHanded {} Try.checked os 12 .any (Rows.fnExactAppliesSpec.pre6 enc Try.prog Try.f12 Rows.fnExactAppliesRow.domain false) (Rows.fnExactAppliesSpec.post enc Try.prog Try.f12 false true false false) := by
  refine law_lifted Try.func12 (by kernel_rfl) rfl rfl (by kernel_rfl) os started
    (ChangeSpec.witness6 (enc := enc) (C := Try.checked) false ⟨#[], #[.agg #[.int .i64 0, .int .i64 0, .int .i64 0, .int .i64 0, .int .i64 0, .int .i64 0, .int .i64 0, .int .i64 0], .agg #[.int .i64 0, .int .i64 0, .int .i64 0]], []⟩ 8 (by kernel_rfl) (by kernel_rfl) (by kernel_rfl) (by kernel_rfl)) ?_
  intro W base args ds p hval hA hlt
  rw [Try.params12] at hA hval
  obtain ⟨v0, vs0, d0, ds0, p0, q0, hargs, rfl, rfl, h0, r0⟩ := trodAll_cons hA
  obtain ⟨v1, vs1, d1, ds1, p1, q1, rfl, rfl, rfl, h1, r1⟩ := trodAll_cons r0
  obtain ⟨rfl, rfl, rfl⟩ := trodAll_nil r1
  obtain rfl : args = #[v0, v1] := by cases args; simp_all
  obtain ⟨a0, rfl, H0⟩ := open_rule (hval 0 66 v0 rfl rfl) h0
  obtain ⟨a1, rfl, H1⟩ := open_request (hval 1 68 v1 rfl rfl) h1
  exact ⟨⟨rfl, rfl, rfl⟩, walk a0 a1 W H0 H1⟩

theorem over : Rows.fnExactAppliesRow.holds Try.pinned (OpenSpec.ofChange Rows.fnExactAppliesSpec) :=
  OpenClaim.holds_of_wide 12 Try.f12 rfl rfl rfl rfl rfl rfl rfl ⟨rfl, rfl, rfl, rfl, rfl⟩ rfl rfl rfl rfl rfl (by kernel_rfl) Try.func12 (by kernel_rfl)
    (of_decide_eq_true (by kernel_rfl)) (by unfold Func.isWrapper; first | (rw [if_pos (by decide +kernel)]; kernel_rfl) | (rw [if_neg (by decide +kernel)]; exact ⟨rfl, rfl⟩))
    (fun os started H enc _ => lifted os started H enc)

theorem proved : Rows.FnExactAppliesSaid := over
#print axioms proved
end Go.Proofs.Ytagabcnjpmpppaa.fnExactApplies
