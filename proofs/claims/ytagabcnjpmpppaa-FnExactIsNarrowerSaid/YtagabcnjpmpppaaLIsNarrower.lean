/- The law FnExactIsNarrower answers true for every argument, and leaves each argument as it was. No condition. -/
import Derived.Test.YtagabcnjpmpppaaTPattern
import Derived.Test.YtagabcnjpmpppaaNarrower
namespace Go.Proofs.Ytagabcnjpmpppaa.fnExactIsNarrower
open Go Go.ChangeShapes Go.WideShapes Go.ChangeAt Go.RowKit Go.Lib
open Go.ChangeMaps (open_string)
set_option linter.unusedVariables false
set_option maxRecDepth 100000

theorem drw_size {W w' : World} (hb : Below W.drew.heap.size W.drew w') : W.heap.size ≤ w'.heap.size := hb.size
set_option maxRecDepth 100000 in
set_option maxHeartbeats 20000000 in
theorem walk (a0 : TPattern) (a1 : TPattern) (w : World) (H0 : Hid (TPattern.fit a0)) (H1 : Hid (TPattern.fit a1)) :
    Calls Try.prog 3 #[.agg #[.int .i64 a0.f0, .int .i64 a0.f1], .agg #[.int .i64 a1.f0, .int .i64 a1.f1]] w fun e w' => e = .returned (.bool true) ∧ Below w.heap.size w w' := by
  have G : Below w.heap.size w ((w.alloc (.cells #[.int .i64 a0.f0, .int .i64 a0.f1] 23)).alloc (.cells #[.int .i64 a1.f0, .int .i64 a1.f1] 23)) := ((Below.refl _ _).alloc (by simp) _).alloc (by simp) _
  have S0 := Lib.hid (show ((w.alloc (.cells #[.int .i64 a0.f0, .int .i64 a0.f1] 23)).alloc (.cells #[.int .i64 a1.f0, .int .i64 a1.f1] 23)).heap.size = w.heap.size + 2 by simp)
  have KB0 : BoxAt (w.alloc (.cells #[.int .i64 a0.f0, .int .i64 a0.f1] 23)) (w.heap.size) 23 #[.int .i64 a0.f0, .int .i64 a0.f1] := box_new _ _ _
  have KB1 : BoxAt ((w.alloc (.cells #[.int .i64 a0.f0, .int .i64 a0.f1] 23)).alloc (.cells #[.int .i64 a1.f0, .int .i64 a1.f1] 23)) (w.heap.size + 1) 23 #[.int .i64 a1.f0, .int .i64 a1.f1] := by simpa using box_new (w.alloc (.cells #[.int .i64 a0.f0, .int .i64 a0.f1] 23)) 23 #[.int .i64 a1.f0, .int .i64 a1.f1]
  replace KB0 := KB0.alloc_ (.cells #[.int .i64 a1.f0, .int .i64 a1.f1] 23)
  go_enter Try.func3, Try.ntmps3
  go_wp2_with fail
  replace KB0 := KB0.drw
  replace KB1 := KB1.drw
  replace G := G.drew
  go_region_held3 (fun w' => w'.cell? ⟨w.heap.size, 0, none⟩ = some (.int .i64 a0.f0) ∧ w'.cell? ⟨w.heap.size, 1, none⟩ = some (.int .i64 a0.f1) ∧ w'.cell? ⟨w.heap.size + 1, 0, none⟩ = some (.int .i64 a1.f0) ∧ w'.cell? ⟨w.heap.size + 1, 1, none⟩ = some (.int .i64 a1.f1))
    (exact ⟨KB0.at_ rfl, KB0.at_ rfl, KB1.at_ rfl, KB1.at_ rfl⟩)
    (first
      | (go_at_call 16; (with_reducible refine Calls.mono (to_pattern_one a0 _) ?_); rintro e w1 ⟨rfl, B1⟩; (replace KB0 := box_nw B1 KB0); (replace KB1 := box_nw B1 KB1); (replace G := below_trans G B1 (Nat.le_refl _)); (have S1 := Lib.hid (drw_size B1)))
      | (go_at_call 16; (with_reducible refine Calls.mono (to_pattern_one a1 _) ?_); rintro e w2 ⟨rfl, B2⟩; (replace KB0 := box_nw B2 KB0); (replace KB1 := box_nw B2 KB1); (replace G := below_trans G B2 (Nat.le_refl _)); (have S2 := Lib.hid (show w1.heap.size ≤ w2.heap.size from B2.size)))
      | (go_at_call 15; refine Calls.mono (spec_IsNarrower a0 a1 _ ) ?_; rintro e w3 ⟨rfl, B3⟩; (replace KB0 := box_nw B3 KB0); (replace KB1 := box_nw B3 KB1); (replace G := below_trans G B3 (Nat.le_refl _)); (have S3 := Lib.hid (show w2.heap.size ≤ w3.heap.size from B3.size))))
  clear B1
  clear B2
  clear B3
  go_wp2_with fail
  replace KB0 := KB0.drw
  replace KB1 := KB1.drw
  replace G := G.drew
  go_region_held3 (fun w' => w'.cell? ⟨w.heap.size, 0, none⟩ = some (.int .i64 a0.f0) ∧ w'.cell? ⟨w.heap.size, 1, none⟩ = some (.int .i64 a0.f1) ∧ w'.cell? ⟨w.heap.size + 1, 0, none⟩ = some (.int .i64 a1.f0) ∧ w'.cell? ⟨w.heap.size + 1, 1, none⟩ = some (.int .i64 a1.f1))
    (exact ⟨KB0.at_ rfl, KB0.at_ rfl, KB1.at_ rfl, KB1.at_ rfl⟩)
    (first
      | (go_at_call 16; (with_reducible refine Calls.mono (to_pattern_one a0 _) ?_); rintro e w4 ⟨rfl, B4⟩; (replace KB0 := box_nw B4 KB0); (replace KB1 := box_nw B4 KB1); (replace G := below_trans G B4 (Nat.le_refl _)); (have S4 := Lib.hid (drw_size B4)))
      | (go_at_call 16; (with_reducible refine Calls.mono (to_pattern_one a1 _) ?_); rintro e w5 ⟨rfl, B5⟩; (replace KB0 := box_nw B5 KB0); (replace KB1 := box_nw B5 KB1); (replace G := below_trans G B5 (Nat.le_refl _)); (have S5 := Lib.hid (show w4.heap.size ≤ w5.heap.size from B5.size)))
      | (go_at_call 17; refine Calls.mono (impl_IsNarrower a0 a1 _ ) ?_; rintro e w6 ⟨rfl, B6⟩; (replace KB0 := box_nw B6 KB0); (replace KB1 := box_nw B6 KB1); (replace G := below_trans G B6 (Nat.le_refl _)); (have S6 := Lib.hid (show w5.heap.size ≤ w6.heap.size from B6.size))))
  clear B4
  clear B5
  clear B6
  go_wp2_with fail
  go_ret
  exact ⟨rfl, G⟩

set_option maxRecDepth 100000 in
theorem lifted (os : Os) (started : os.Started) (H : Type) (enc : TypeId × Value → H) :
    ReturnsInHanded {} Try.checked os 3 .any (Rows.fnExactIsNarrowerSpec.pre6 enc Try.prog Try.f3 Rows.fnExactIsNarrowerRow.domain false) (Rows.fnExactIsNarrowerSpec.post enc Try.prog Try.f3 false true false false) := by
  refine law_lifted Try.func3 (by kernel_rfl) rfl rfl (by kernel_rfl) os started
    (ChangeSpec.witness6 (enc := enc) (C := Try.checked) false ⟨#[], #[.agg #[.int .i64 0, .int .i64 0], .agg #[.int .i64 0, .int .i64 0]], []⟩ 8 (by kernel_rfl) (by kernel_rfl) (by kernel_rfl) (by kernel_rfl)) ?_
  intro W base args ds p hval hA hlt
  rw [Try.params3] at hA hval
  obtain ⟨v0, vs0, d0, ds0, p0, q0, hargs, rfl, rfl, h0, r0⟩ := trodAll_cons hA
  obtain ⟨v1, vs1, d1, ds1, p1, q1, rfl, rfl, rfl, h1, r1⟩ := trodAll_cons r0
  obtain ⟨rfl, rfl, rfl⟩ := trodAll_nil r1
  obtain rfl : args = #[v0, v1] := by cases args; simp_all
  obtain ⟨a0, rfl, H0⟩ := open_pattern (hval 0 23 v0 rfl rfl) h0
  obtain ⟨a1, rfl, H1⟩ := open_pattern (hval 1 23 v1 rfl rfl) h1
  exact ⟨⟨rfl, rfl, rfl⟩, walk a0 a1 W H0 H1⟩

theorem over : Rows.fnExactIsNarrowerRow.holds Try.pinned (OpenSpec.ofChange Rows.fnExactIsNarrowerSpec) :=
  OpenClaim.holds_of_wide 3 Try.f3 rfl rfl rfl rfl rfl rfl rfl ⟨rfl, rfl, rfl, rfl, rfl⟩ rfl rfl rfl rfl rfl (by kernel_rfl) Try.func3 (by kernel_rfl)
    (of_decide_eq_true (by kernel_rfl)) (by unfold Func.isWrapper; first | (rw [if_pos (by decide +kernel)]; kernel_rfl) | (rw [if_neg (by decide +kernel)]; exact ⟨rfl, rfl⟩))
    (fun os started H enc _ => lifted os started H enc)

theorem proved : Rows.FnExactIsNarrowerSaid := over
#print axioms proved
end Go.Proofs.Ytagabcnjpmpppaa.fnExactIsNarrower
