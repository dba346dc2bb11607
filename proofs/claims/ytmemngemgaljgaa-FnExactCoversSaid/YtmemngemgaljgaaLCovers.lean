/- The law FnExactCovers answers true for every argument, and leaves each argument as it was. No condition. -/
import Derived.Test.YtmemngemgaljgaaTGrant
import Derived.Test.YtmemngemgaljgaaTSite
import Derived.Test.YtmemngemgaljgaaGrant
namespace Go.Proofs.Ytmemngemgaljgaa.fnExactCovers
open Go Go.ChangeShapes Go.WideShapes Go.ChangeAt Go.RowKit Go.Lib
open Go.ChangeMaps (open_string)
set_option linter.unusedVariables false
set_option maxRecDepth 100000

set_option maxRecDepth 100000 in
set_option maxHeartbeats 1000000 in
theorem walk (a0 : TGrant) (a1 : Int) (a2 : TSite) (a3 : Int) (a4 : Int) (a5 : Bool) (w : World) (H0 : Hid (TGrant.fit a0)) (wf1 : (Lit.int .i64 a1).wf = true) (H2 : Hid (TSite.fit a2)) (wf3 : (Lit.int .i64 a3).wf = true) (wf4 : (Lit.int .i64 a4).wf = true) :
    Calls Try.prog 9 #[.agg #[.int .i64 a0.f0, .int .i64 a0.f1, .int .i64 a0.f2, .int .i64 a0.f3, .int .i64 a0.f4, .int .i64 a0.f5, .bool a0.f6], .int .i64 a1, .agg #[.int .i64 a2.f0, .int .i64 a2.f1], .int .i64 a3, .int .i64 a4, .bool a5] w fun e w' => e = .returned (.bool true) ∧ Below w.heap.size w w' := by
  have Wf1 := Lib.hid wf1
  clear wf1
  have Wf3 := Lib.hid wf3
  clear wf3
  have Wf4 := Lib.hid wf4
  clear wf4
  have G : Below w.heap.size w ((w.alloc (.cells #[.int .i64 a0.f0, .int .i64 a0.f1, .int .i64 a0.f2, .int .i64 a0.f3, .int .i64 a0.f4, .int .i64 a0.f5, .bool a0.f6] 40)).alloc (.cells #[.int .i64 a2.f0, .int .i64 a2.f1] 23)) := ((Below.refl _ _).alloc (by simp) _).alloc (by simp) _
  have S0 := Lib.hid (show ((w.alloc (.cells #[.int .i64 a0.f0, .int .i64 a0.f1, .int .i64 a0.f2, .int .i64 a0.f3, .int .i64 a0.f4, .int .i64 a0.f5, .bool a0.f6] 40)).alloc (.cells #[.int .i64 a2.f0, .int .i64 a2.f1] 23)).heap.size = w.heap.size + 2 by simp)
  have KB0 : BoxAt (w.alloc (.cells #[.int .i64 a0.f0, .int .i64 a0.f1, .int .i64 a0.f2, .int .i64 a0.f3, .int .i64 a0.f4, .int .i64 a0.f5, .bool a0.f6] 40)) (w.heap.size) 40 #[.int .i64 a0.f0, .int .i64 a0.f1, .int .i64 a0.f2, .int .i64 a0.f3, .int .i64 a0.f4, .int .i64 a0.f5, .bool a0.f6] := box_new _ _ _
  have KB2 : BoxAt ((w.alloc (.cells #[.int .i64 a0.f0, .int .i64 a0.f1, .int .i64 a0.f2, .int .i64 a0.f3, .int .i64 a0.f4, .int .i64 a0.f5, .bool a0.f6] 40)).alloc (.cells #[.int .i64 a2.f0, .int .i64 a2.f1] 23)) (w.heap.size + 1) 23 #[.int .i64 a2.f0, .int .i64 a2.f1] := by simpa using box_new (w.alloc (.cells #[.int .i64 a0.f0, .int .i64 a0.f1, .int .i64 a0.f2, .int .i64 a0.f3, .int .i64 a0.f4, .int .i64 a0.f5, .bool a0.f6] 40)) 23 #[.int .i64 a2.f0, .int .i64 a2.f1]
  replace KB0 := KB0.alloc_ (.cells #[.int .i64 a2.f0, .int .i64 a2.f1] 23)
  go_enter Try.func9, Try.ntmps9
  go_wp2_with fail
  go_region_held3 (fun w' => w'.cell? ⟨w.heap.size, 0, none⟩ = some (.int .i64 a0.f0) ∧ w'.cell? ⟨w.heap.size, 1, none⟩ = some (.int .i64 a0.f1) ∧ w'.cell? ⟨w.heap.size, 2, none⟩ = some (.int .i64 a0.f2) ∧ w'.cell? ⟨w.heap.size, 3, none⟩ = some (.int .i64 a0.f3) ∧ w'.cell? ⟨w.heap.size, 4, none⟩ = some (.int .i64 a0.f4) ∧ w'.cell? ⟨w.heap.size, 5, none⟩ = some (.int .i64 a0.f5) ∧ w'.cell? ⟨w.heap.size, 6, none⟩ = some (.bool a0.f6) ∧ w'.cell? ⟨w.heap.size + 1, 0, none⟩ = some (.int .i64 a2.f0) ∧ w'.cell? ⟨w.heap.size + 1, 1, none⟩ = some (.int .i64 a2.f1))
    (exact ⟨KB0.at_ rfl, KB0.at_ rfl, KB0.at_ rfl, KB0.at_ rfl, KB0.at_ rfl, KB0.at_ rfl, KB0.at_ rfl, KB2.at_ rfl, KB2.at_ rfl⟩)
    (first
      | (go_at_call 28; refine (to_grant_one a0 _).mono ?_; rintro e w1 ⟨rfl, B1⟩; (replace KB0 := box_nw B1 KB0); (replace KB2 := box_nw B1 KB2); (replace G := (by first | exact below_trans G B1 (Nat.le_refl _) | exact below_trans G.drew B1 (Nat.le_refl _) | exact below_trans (below_dN G _) B1 (Nat.le_refl _))); (have S1 := Lib.hid (show ((w.alloc (.cells #[.int .i64 a0.f0, .int .i64 a0.f1, .int .i64 a0.f2, .int .i64 a0.f3, .int .i64 a0.f4, .int .i64 a0.f5, .bool a0.f6] 40)).alloc (.cells #[.int .i64 a2.f0, .int .i64 a2.f1] 23)).heap.size ≤ w1.heap.size from B1.size)))
      | (go_at_call 15; refine (to_site_one a2 _).mono ?_; rintro e w2 ⟨rfl, B2⟩; (replace KB0 := box_nw B2 KB0); (replace KB2 := box_nw B2 KB2); (replace G := (by first | exact below_trans G B2 (Nat.le_refl _) | exact below_trans G.drew B2 (Nat.le_refl _) | exact below_trans (below_dN G _) B2 (Nat.le_refl _))); (have S2 := Lib.hid (show w1.heap.size ≤ w2.heap.size from B2.size)))
      | (go_at_call 30; refine (spec_Covers a0 a1 a2 a3 a4 a5 _ ).mono ?_; rintro e w3 ⟨rfl, B3⟩; (replace KB0 := box_nw B3 KB0); (replace KB2 := box_nw B3 KB2); (replace G := (by first | exact below_trans G B3 (Nat.le_refl _) | exact below_trans G.drew B3 (Nat.le_refl _) | exact below_trans (below_dN G _) B3 (Nat.le_refl _))); (have S3 := Lib.hid (show w2.heap.size ≤ w3.heap.size from B3.size))))
  clear B1
  clear B2
  clear B3
  go_wp2_with fail
  go_region_held3 (fun w' => w'.cell? ⟨w.heap.size, 0, none⟩ = some (.int .i64 a0.f0) ∧ w'.cell? ⟨w.heap.size, 1, none⟩ = some (.int .i64 a0.f1) ∧ w'.cell? ⟨w.heap.size, 2, none⟩ = some (.int .i64 a0.f2) ∧ w'.cell? ⟨w.heap.size, 3, none⟩ = some (.int .i64 a0.f3) ∧ w'.cell? ⟨w.heap.size, 4, none⟩ = some (.int .i64 a0.f4) ∧ w'.cell? ⟨w.heap.size, 5, none⟩ = some (.int .i64 a0.f5) ∧ w'.cell? ⟨w.heap.size, 6, none⟩ = some (.bool a0.f6) ∧ w'.cell? ⟨w.heap.size + 1, 0, none⟩ = some (.int .i64 a2.f0) ∧ w'.cell? ⟨w.heap.size + 1, 1, none⟩ = some (.int .i64 a2.f1))
    (exact ⟨KB0.at_ rfl, KB0.at_ rfl, KB0.at_ rfl, KB0.at_ rfl, KB0.at_ rfl, KB0.at_ rfl, KB0.at_ rfl, KB2.at_ rfl, KB2.at_ rfl⟩)
    (first
      | (go_at_call 28; refine (to_grant_one a0 _).mono ?_; rintro e w4 ⟨rfl, B4⟩; (replace KB0 := box_nw B4 KB0); (replace KB2 := box_nw B4 KB2); (replace G := (by first | exact below_trans G B4 (Nat.le_refl _) | exact below_trans G.drew B4 (Nat.le_refl _) | exact below_trans (below_dN G _) B4 (Nat.le_refl _))); (have S4 := Lib.hid (show w3.heap.size ≤ w4.heap.size from B4.size)))
      | (go_at_call 15; refine (to_site_one a2 _).mono ?_; rintro e w5 ⟨rfl, B5⟩; (replace KB0 := box_nw B5 KB0); (replace KB2 := box_nw B5 KB2); (replace G := (by first | exact below_trans G B5 (Nat.le_refl _) | exact below_trans G.drew B5 (Nat.le_refl _) | exact below_trans (below_dN G _) B5 (Nat.le_refl _))); (have S5 := Lib.hid (show w4.heap.size ≤ w5.heap.size from B5.size)))
      | (go_at_call 31; refine (impl_Covers a0 a1 a2 a3 a4 a5 _ ).mono ?_; rintro e w6 ⟨rfl, B6⟩; (replace KB0 := box_nw B6 KB0); (replace KB2 := box_nw B6 KB2); (replace G := (by first | exact below_trans G B6 (Nat.le_refl _) | exact below_trans G.drew B6 (Nat.le_refl _) | exact below_trans (below_dN G _) B6 (Nat.le_refl _))); (have S6 := Lib.hid (show w5.heap.size ≤ w6.heap.size from B6.size))))
  clear B4
  clear B5
  clear B6
  go_wp2_with fail
  go_ret
  exact ⟨rfl, G⟩

set_option maxRecDepth 100000 in
theorem lifted (os : Os) (started : os.Started) (H : Type) (enc : TypeId × Value → H) :
    ReturnsInHanded {} Try.checked os 9 .any (Rows.fnExactCoversSpec.pre6 enc Try.prog Try.f9 Rows.fnExactCoversRow.domain false) (Rows.fnExactCoversSpec.post enc Try.prog Try.f9 false true false false) := by
  refine law_lifted Try.func9 (by kernel_rfl) rfl rfl (by kernel_rfl) os started
    (ChangeSpec.witness6 (enc := enc) (C := Try.checked) false ⟨#[], #[.agg #[.int .i64 0, .int .i64 0, .int .i64 0, .int .i64 0, .int .i64 0, .int .i64 0, .bool false], .int .i64 0, .agg #[.int .i64 0, .int .i64 0], .int .i64 0, .int .i64 0, .bool false], []⟩ 8 (by kernel_rfl) (by kernel_rfl) (by kernel_rfl) (by kernel_rfl)) ?_
  intro W base args ds p hval hA hlt
  rw [Try.params9] at hA hval
  obtain ⟨v0, vs0, d0, ds0, p0, q0, hargs, rfl, rfl, h0, r0⟩ := trodAll_cons hA
  obtain ⟨v1, vs1, d1, ds1, p1, q1, rfl, rfl, rfl, h1, r1⟩ := trodAll_cons r0
  obtain ⟨v2, vs2, d2, ds2, p2, q2, rfl, rfl, rfl, h2, r2⟩ := trodAll_cons r1
  obtain ⟨v3, vs3, d3, ds3, p3, q3, rfl, rfl, rfl, h3, r3⟩ := trodAll_cons r2
  obtain ⟨v4, vs4, d4, ds4, p4, q4, rfl, rfl, rfl, h4, r4⟩ := trodAll_cons r3
  obtain ⟨v5, vs5, d5, ds5, p5, q5, rfl, rfl, rfl, h5, r5⟩ := trodAll_cons r4
  obtain ⟨rfl, rfl, rfl⟩ := trodAll_nil r5
  obtain rfl : args = #[v0, v1, v2, v3, v4, v5] := by cases args; simp_all
  obtain ⟨a0, rfl, H0⟩ := open_grant (hval 0 40 v0 rfl rfl) h0
  obtain ⟨a1, rfl, rfl, rfl, wf1⟩ := open_int Try.underlying3 (hval 1 3 v1 rfl rfl) h1
  obtain ⟨a2, rfl, H2⟩ := open_site (hval 2 23 v2 rfl rfl) h2
  obtain ⟨a3, rfl, rfl, rfl, wf3⟩ := open_int Try.underlying3 (hval 3 3 v3 rfl rfl) h3
  obtain ⟨a4, rfl, rfl, rfl, wf4⟩ := open_int Try.underlying3 (hval 4 3 v4 rfl rfl) h4
  obtain ⟨a5, rfl, rfl, rfl⟩ := open_bool Try.underlying4 (hval 5 4 v5 rfl rfl) h5
  exact ⟨⟨rfl, rfl, rfl⟩, walk a0 a1 a2 a3 a4 a5 W H0 wf1 H2 wf3 wf4⟩

theorem over : Rows.fnExactCoversRow.holds Try.pinned (OpenSpec.ofChange Rows.fnExactCoversSpec) :=
  OpenClaim.holds_of_wide 9 Try.f9 rfl rfl rfl rfl rfl rfl rfl ⟨rfl, rfl, rfl, rfl, rfl⟩ rfl rfl rfl rfl rfl (by kernel_rfl) Try.func9 (by kernel_rfl)
    (of_decide_eq_true (by kernel_rfl)) (by unfold Func.isWrapper; first | (rw [if_pos (by decide +kernel)]; kernel_rfl) | (rw [if_neg (by decide +kernel)]; exact ⟨rfl, rfl⟩))
    (fun os started H enc _ => lifted os started H enc)

theorem proved : Rows.FnExactCoversSaid := over
#print axioms proved
end Go.Proofs.Ytmemngemgaljgaa.fnExactCovers
