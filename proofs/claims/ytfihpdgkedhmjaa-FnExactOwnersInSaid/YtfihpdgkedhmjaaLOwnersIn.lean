/- The law FnExactOwnersIn answers true for every argument, and leaves each argument as it was. No condition. -/
import Derived.Test.YtfihpdgkedhmjaaSlI
import Derived.Test.YtfihpdgkedhmjaaOwn
namespace Go.Proofs.Ytfihpdgkedhmjaa.fnExactOwnersIn
open Go Go.ChangeShapes Go.WideShapes Go.ChangeAt Go.RowKit Go.Lib
open Go.ChangeMaps (open_string)
set_option linter.unusedVariables false
set_option linter.unusedSimpArgs false
set_option maxRecDepth 100000

theorem drw_size {W w' : World} (hb : Below W.drew.heap.size W.drew w') : W.heap.size ≤ w'.heap.size := hb.size
set_option maxRecDepth 100000 in
set_option maxHeartbeats 20000000 in
theorem walk (a0 : Int) (w : World) (wf0 : (Lit.int .i64 a0).wf = true) :
    Calls Try.prog 4 #[.int .i64 a0] w fun e w' => e = .returned (.bool true) ∧ Below w.heap.size w w' := by
  have Wf0 := Lib.hid wf0
  clear wf0
  have hl0 : (mOwn a0).length ≤ 17179869184 := by (have := mOwn_len a0; omega)
  go_enter Try.func4, Try.ntmps4
  go_wp2_with fail
  refine (spec_OwnersIn a0 _ Wf0.out).mono ?_
  rintro e w1 ⟨P1_0, pc1_0, rfl, FP1_0, B1⟩
  have G := B1
  have S1 := Lib.hid B1.size
  clear B1
  go_wp2_with fail
  refine (impl_OwnersIn a0 _ Wf0.out).mono ?_
  rintro e w2 ⟨P2_0, pc2_0, rfl, FP2_0, B2⟩
  replace FP1_0 := FP1_0.new B2
  replace G := below_trans G B2 (Nat.le_refl _)
  have S2 := Lib.hid B2.size
  clear B2
  go_wp2_with fail
  refine (eq_int_same (mOwn a0) P2_0 P1_0 _ _ pc2_0 pc1_0 _ _ _ _ _ (by omega) (by omega) FP2_0.rd FP1_0.rd).mono ?_
  rintro e w3 hq
  obtain ⟨rfl, B3⟩ := hq.says
  replace FP1_0 := FP1_0.new B3
  replace FP2_0 := FP2_0.new B3
  replace G := below_trans G B3 (Nat.le_refl _)
  have S3 := Lib.hid B3.size
  clear B3
  go_wp2_with fail
  refine (mark_int _ P2_0 _ pc2_0 _ _ (1) _ (by omega) (by omega) FP2_0).mono ?_
  rintro e w4 ⟨rfl, FM4, C4, E4⟩
  replace FP1_0 := FP1_0.chg C4 (by have := S1.out; have := S2.out; have := S3.out; omega)
  replace G := G.trans (C4.below (.inl (by have := S1.out; have := S2.out; have := S3.out; omega)) (by have := S1.out; have := S2.out; have := S3.out; omega))
  clear FP2_0
  have S4 := Lib.hid (show w4.heap.size = w3.heap.size from E4)
  clear E4
  clear C4
  go_wp2_with fail
  refine (held_int P2_0 _ pc2_0 _ _ (1) _ (by omega) (by omega) FM4.rd).mono ?_
  rintro e w5 hq
  obtain ⟨rfl, B5⟩ := hq.says
  replace FP1_0 := FP1_0.new B5
  replace FM4 := FM4.new B5
  replace G := below_trans G B5 (Nat.le_refl _)
  have S5 := Lib.hid B5.size
  clear B5
  go_wp2_with fail
  refine (impl_OwnersIn a0 _ Wf0.out).mono ?_
  rintro e w6 ⟨P6_0, pc6_0, rfl, FP6_0, B6⟩
  replace FP1_0 := FP1_0.new B6
  replace FM4 := FM4.new B6
  replace G := below_trans G B6 (Nat.le_refl _)
  have S6 := Lib.hid B6.size
  clear B6
  go_wp2_with fail
  refine (eq_int_same (mOwn a0) P6_0 P1_0 _ _ pc6_0 pc1_0 _ _ _ _ _ (by omega) (by omega) FP6_0.rd FP1_0.rd).mono ?_
  rintro e w7 hq
  obtain ⟨rfl, B7⟩ := hq.says
  replace FP1_0 := FP1_0.new B7
  replace FM4 := FM4.new B7
  replace FP6_0 := FP6_0.new B7
  replace G := below_trans G B7 (Nat.le_refl _)
  have S7 := Lib.hid B7.size
  clear B7
  go_wp2_with fail
  refine (held_int P2_0 _ pc2_0 _ _ (1) _ (by omega) (by omega) FM4.rd).mono ?_
  rintro e w8 hq
  obtain ⟨rfl, B8⟩ := hq.says
  replace FP1_0 := FP1_0.new B8
  replace FM4 := FM4.new B8
  replace FP6_0 := FP6_0.new B8
  replace G := below_trans G B8 (Nat.le_refl _)
  have S8 := Lib.hid B8.size
  clear B8
  go_wp2_with fail
  go_ret
  exact ⟨rfl, G⟩

set_option maxRecDepth 100000 in
theorem lifted (os : Os) (started : os.Started) (H : Type) (enc : TypeId × Value → H) :
    ReturnsInHanded {} Try.checked os 4 .any (Rows.fnExactOwnersInSpec.pre6 enc Try.prog Try.f4 Rows.fnExactOwnersInRow.domain false) (Rows.fnExactOwnersInSpec.post enc Try.prog Try.f4 false true false false) := by
  refine law_lifted Try.func4 (by kernel_rfl) rfl rfl (by kernel_rfl) os started
    (ChangeSpec.witness6 (enc := enc) (C := Try.checked) false ⟨#[], #[.int .i64 0], []⟩ 8 (by kernel_rfl) (by kernel_rfl) (by kernel_rfl) (by kernel_rfl)) ?_
  intro W base args ds p hval hA hlt
  rw [Try.params4] at hA hval
  obtain ⟨v0, vs0, d0, ds0, p0, q0, hargs, rfl, rfl, h0, r0⟩ := trodAll_cons hA
  obtain ⟨rfl, rfl, rfl⟩ := trodAll_nil r0
  obtain rfl : args = #[v0] := by cases args; simp_all
  obtain ⟨a0, rfl, rfl, rfl, wf0⟩ := open_int Try.underlying3 (hval 0 3 v0 rfl rfl) h0
  exact ⟨⟨rfl, rfl, rfl⟩, walk a0 W wf0⟩

theorem over : Rows.fnExactOwnersInRow.holds Try.pinned (OpenSpec.ofChange Rows.fnExactOwnersInSpec) :=
  OpenClaim.holds_of_wide 4 Try.f4 rfl rfl rfl rfl rfl rfl rfl ⟨rfl, rfl, rfl, rfl, rfl⟩ rfl rfl rfl rfl rfl (by kernel_rfl) Try.func4 (by kernel_rfl)
    (of_decide_eq_true (by kernel_rfl)) (by unfold Func.isWrapper; first | (rw [if_pos (by decide +kernel)]; kernel_rfl) | (rw [if_neg (by decide +kernel)]; exact ⟨rfl, rfl⟩))
    (fun os started H enc _ => lifted os started H enc)

theorem proved : Rows.FnExactOwnersInSaid := over
#print axioms proved
end Go.Proofs.Ytfihpdgkedhmjaa.fnExactOwnersIn
