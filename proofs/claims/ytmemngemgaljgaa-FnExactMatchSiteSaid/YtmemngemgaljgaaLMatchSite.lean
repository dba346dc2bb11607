/- The law FnExactMatchSite answers true for every argument, and leaves each argument as it was. No condition. -/
import Derived.Test.YtmemngemgaljgaaTPattern
import Derived.Test.YtmemngemgaljgaaTSite
import Derived.Test.YtmemngemgaljgaaSite
namespace Go.Proofs.Ytmemngemgaljgaa.fnExactMatchSite
open Go Go.ChangeShapes Go.WideShapes Go.ChangeAt Go.RowKit Go.Lib
open Go.ChangeMaps (open_string)
set_option linter.unusedVariables false
set_option maxRecDepth 100000

set_option maxRecDepth 100000 in
set_option maxHeartbeats 1000000 in
theorem walk (a0 : TPattern) (a1 : TSite) (w : World) (H0 : Hid (TPattern.fit a0)) (H1 : Hid (TSite.fit a1)) :
    Calls Try.prog 5 #[.agg #[.int .i64 a0.f0, .int .i64 a0.f1], .agg #[.int .i64 a1.f0, .int .i64 a1.f1]] w fun e w' => e = .returned (.bool true) ∧ Below w.heap.size w w' := by
  have G : Below w.heap.size w ((w.alloc (.cells #[.int .i64 a0.f0, .int .i64 a0.f1] 28)).alloc (.cells #[.int .i64 a1.f0, .int .i64 a1.f1] 23)) := ((Below.refl _ _).alloc (by simp) _).alloc (by simp) _
  have S0 := Lib.hid (show ((w.alloc (.cells #[.int .i64 a0.f0, .int .i64 a0.f1] 28)).alloc (.cells #[.int .i64 a1.f0, .int .i64 a1.f1] 23)).heap.size = w.heap.size + 2 by simp)
  have KB0 : BoxAt (w.alloc (.cells #[.int .i64 a0.f0, .int .i64 a0.f1] 28)) (w.heap.size) 28 #[.int .i64 a0.f0, .int .i64 a0.f1] := box_new _ _ _
  have KB1 : BoxAt ((w.alloc (.cells #[.int .i64 a0.f0, .int .i64 a0.f1] 28)).alloc (.cells #[.int .i64 a1.f0, .int .i64 a1.f1] 23)) (w.heap.size + 1) 23 #[.int .i64 a1.f0, .int .i64 a1.f1] := by simpa using box_new (w.alloc (.cells #[.int .i64 a0.f0, .int .i64 a0.f1] 28)) 23 #[.int .i64 a1.f0, .int .i64 a1.f1]
  replace KB0 := KB0.alloc_ (.cells #[.int .i64 a1.f0, .int .i64 a1.f1] 23)
  go_enter Try.func5, Try.ntmps5
  go_wp2_with fail
  go_region_held3 (fun w' => w'.cell? ⟨w.heap.size, 0, none⟩ = some (.int .i64 a0.f0) ∧ w'.cell? ⟨w.heap.size, 1, none⟩ = some (.int .i64 a0.f1) ∧ w'.cell? ⟨w.heap.size + 1, 0, none⟩ = some (.int .i64 a1.f0) ∧ w'.cell? ⟨w.heap.size + 1, 1, none⟩ = some (.int .i64 a1.f1))
    (exact ⟨KB0.at_ rfl, KB0.at_ rfl, KB1.at_ rfl, KB1.at_ rfl⟩)
    (first
      | (go_at_call 18; refine (to_pattern_one a0 _).mono ?_; rintro e w1 ⟨rfl, B1⟩; (replace KB0 := box_nw B1 KB0); (replace KB1 := box_nw B1 KB1); (replace G := (by first | exact below_trans G B1 (Nat.le_refl _) | exact below_trans G.drew B1 (Nat.le_refl _) | exact below_trans (below_dN G _) B1 (Nat.le_refl _))); (have S1 := Lib.hid (show ((w.alloc (.cells #[.int .i64 a0.f0, .int .i64 a0.f1] 28)).alloc (.cells #[.int .i64 a1.f0, .int .i64 a1.f1] 23)).heap.size ≤ w1.heap.size from B1.size)))
      | (go_at_call 15; refine (to_site_one a1 _).mono ?_; rintro e w2 ⟨rfl, B2⟩; (replace KB0 := box_nw B2 KB0); (replace KB1 := box_nw B2 KB1); (replace G := (by first | exact below_trans G B2 (Nat.le_refl _) | exact below_trans G.drew B2 (Nat.le_refl _) | exact below_trans (below_dN G _) B2 (Nat.le_refl _))); (have S2 := Lib.hid (show w1.heap.size ≤ w2.heap.size from B2.size)))
      | (go_at_call 20; refine (spec_MatchSite a0 a1 _ ).mono ?_; rintro e w3 ⟨rfl, B3⟩; (replace KB0 := box_nw B3 KB0); (replace KB1 := box_nw B3 KB1); (replace G := (by first | exact below_trans G B3 (Nat.le_refl _) | exact below_trans G.drew B3 (Nat.le_refl _) | exact below_trans (below_dN G _) B3 (Nat.le_refl _))); (have S3 := Lib.hid (show w2.heap.size ≤ w3.heap.size from B3.size))))
  clear B1
  clear B2
  clear B3
  go_wp2_with fail
  go_region_held3 (fun w' => w'.cell? ⟨w.heap.size, 0, none⟩ = some (.int .i64 a0.f0) ∧ w'.cell? ⟨w.heap.size, 1, none⟩ = some (.int .i64 a0.f1) ∧ w'.cell? ⟨w.heap.size + 1, 0, none⟩ = some (.int .i64 a1.f0) ∧ w'.cell? ⟨w.heap.size + 1, 1, none⟩ = some (.int .i64 a1.f1))
    (exact ⟨KB0.at_ rfl, KB0.at_ rfl, KB1.at_ rfl, KB1.at_ rfl⟩)
    (first
      | (go_at_call 18; refine (to_pattern_one a0 _).mono ?_; rintro e w4 ⟨rfl, B4⟩; (replace KB0 := box_nw B4 KB0); (replace KB1 := box_nw B4 KB1); (replace G := (by first | exact below_trans G B4 (Nat.le_refl _) | exact below_trans G.drew B4 (Nat.le_refl _) | exact below_trans (below_dN G _) B4 (Nat.le_refl _))); (have S4 := Lib.hid (show w3.heap.size ≤ w4.heap.size from B4.size)))
      | (go_at_call 15; refine (to_site_one a1 _).mono ?_; rintro e w5 ⟨rfl, B5⟩; (replace KB0 := box_nw B5 KB0); (replace KB1 := box_nw B5 KB1); (replace G := (by first | exact below_trans G B5 (Nat.le_refl _) | exact below_trans G.drew B5 (Nat.le_refl _) | exact below_trans (below_dN G _) B5 (Nat.le_refl _))); (have S5 := Lib.hid (show w4.heap.size ≤ w5.heap.size from B5.size)))
      | (go_at_call 21; refine (impl_MatchSite a0 a1 _ ).mono ?_; rintro e w6 ⟨rfl, B6⟩; (replace KB0 := box_nw B6 KB0); (replace KB1 := box_nw B6 KB1); (replace G := (by first | exact below_trans G B6 (Nat.le_refl _) | exact below_trans G.drew B6 (Nat.le_refl _) | exact below_trans (below_dN G _) B6 (Nat.le_refl _))); (have S6 := Lib.hid (show w5.heap.size ≤ w6.heap.size from B6.size))))
  clear B4
  clear B5
  clear B6
  go_wp2_with fail
  go_ret
  exact ⟨rfl, G⟩

set_option maxRecDepth 100000 in
theorem lifted (os : Os) (started : os.Started) (H : Type) (enc : TypeId × Value → H) :
    ReturnsInHanded {} Try.checked os 5 .any (Rows.fnExactMatchSiteSpec.pre6 enc Try.prog Try.f5 Rows.fnExactMatchSiteRow.domain false) (Rows.fnExactMatchSiteSpec.post enc Try.prog Try.f5 false true false false) := by
  refine law_lifted Try.func5 (by kernel_rfl) rfl rfl (by kernel_rfl) os started
    (ChangeSpec.witness6 (enc := enc) (C := Try.checked) false ⟨#[], #[.agg #[.int .i64 0, .int .i64 0], .agg #[.int .i64 0, .int .i64 0]], []⟩ 8 (by kernel_rfl) (by kernel_rfl) (by kernel_rfl) (by kernel_rfl)) ?_
  intro W base args ds p hval hA hlt
  rw [Try.params5] at hA hval
  obtain ⟨v0, vs0, d0, ds0, p0, q0, hargs, rfl, rfl, h0, r0⟩ := trodAll_cons hA
  obtain ⟨v1, vs1, d1, ds1, p1, q1, rfl, rfl, rfl, h1, r1⟩ := trodAll_cons r0
  obtain ⟨rfl, rfl, rfl⟩ := trodAll_nil r1
  obtain rfl : args = #[v0, v1] := by cases args; simp_all
  obtain ⟨a0, rfl, H0⟩ := open_pattern (hval 0 28 v0 rfl rfl) h0
  obtain ⟨a1, rfl, H1⟩ := open_site (hval 1 23 v1 rfl rfl) h1
  exact ⟨⟨rfl, rfl, rfl⟩, walk a0 a1 W H0 H1⟩

theorem over : Rows.fnExactMatchSiteRow.holds Try.pinned (OpenSpec.ofChange Rows.fnExactMatchSiteSpec) :=
  OpenClaim.holds_of_wide 5 Try.f5 rfl rfl rfl rfl rfl rfl rfl ⟨rfl, rfl, rfl, rfl, rfl⟩ rfl rfl rfl rfl rfl (by kernel_rfl) Try.func5 (by kernel_rfl)
    (of_decide_eq_true (by kernel_rfl)) (by unfold Func.isWrapper; first | (rw [if_pos (by decide +kernel)]; kernel_rfl) | (rw [if_neg (by decide +kernel)]; exact ⟨rfl, rfl⟩))
    (fun os started H enc _ => lifted os started H enc)

theorem proved : Rows.FnExactMatchSiteSaid := over
#print axioms proved
end Go.Proofs.Ytmemngemgaljgaa.fnExactMatchSite
