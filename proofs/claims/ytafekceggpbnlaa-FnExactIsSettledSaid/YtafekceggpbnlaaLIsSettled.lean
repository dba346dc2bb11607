/- The law FnExactIsSettled answers true for every argument, and leaves each argument as it was. No condition. -/
import Derived.Deep.RegionHeld3
import Derived.Deep.DeepCutAuto
import Derived.Test.YtafekceggpbnlaaTRequest
import Derived.Test.YtafekceggpbnlaaTRule
import Derived.Test.YtafekceggpbnlaaLps
namespace Go.Proofs.Ytafekceggpbnlaa.fnExactIsSettled
open Go Go.ChangeShapes Go.WideShapes Go.ChangeAt Go.RowKit Go.Lib
open Go.ChangeMaps (open_string)
set_option linter.unusedVariables false
set_option linter.unusedSimpArgs false
set_option maxRecDepth 100000

set_option maxRecDepth 100000 in
set_option maxHeartbeats 20000000 in
theorem walk (l0 : List TRule) (A0 : Option Addr) (n0 c0 : Nat) (a1 : TRequest) (w : World) (hm0 : n0 ≤ maxLen) (R0 : Rd w 0 w.heap.size 8 A0 n0 (cRule l0)) (H0 : Hid (cRuleOk l0)) (H1 : Hid (TRequest.fit a1)) :
    Calls Try.prog 4 #[.slice A0 n0 c0, .agg #[.int .i64 a1.f0, .int .i64 a1.f1, .int .i64 a1.f2]] w fun e w' => e = .returned (.bool true) ∧ Below w.heap.size w w' := by
  have hm0 : n0 ≤ 9223372036854775807 := hm0
  by_cases hz0 : n0 ≤ 1048576
  · skip
    have hqn0 : n0 ≤ 17179869184 := by omega
    have G : Below w.heap.size w (w.alloc (.cells #[.int .i64 a1.f0, .int .i64 a1.f1, .int .i64 a1.f2] 26)) := (Below.refl _ _).alloc (by simp) _
    have S0 := Lib.hid (show (w.alloc (.cells #[.int .i64 a1.f0, .int .i64 a1.f1, .int .i64 a1.f2] 26)).heap.size = w.heap.size + 1 by simp)
    replace R0 := R0.alloc (.cells #[.int .i64 a1.f0, .int .i64 a1.f1, .int .i64 a1.f2] 26)
    have KB1 : BoxAt (w.alloc (.cells #[.int .i64 a1.f0, .int .i64 a1.f1, .int .i64 a1.f2] 26)) (w.heap.size) 26 #[.int .i64 a1.f0, .int .i64 a1.f1, .int .i64 a1.f2] := box_new _ _ _
    go_enter Try.func4, Try.ntmps4
    go_wp2_with fail
    refine Calls.mono (sz_rule A0 n0 c0 (1048576) _ hm0 (by omega) (by omega)) ?_
    rintro e w1 hq
    obtain ⟨rfl, B1⟩ := hq.says
    replace R0 := (R0).new B1
    replace KB1 := (KB1).new B1
    replace G := below_trans G B1 (Nat.le_refl _)
    have S1 := Lib.hid (show (w.alloc (.cells #[.int .i64 a1.f0, .int .i64 a1.f1, .int .i64 a1.f2] 26)).heap.size + 0 ≤ w1.heap.size by have := B1.size; first | (simpa using this) | ((try simp at this); omega))
    clear B1
    go_wp2_with fail
    replace G := G.drew
    replace R0 := R0.drw
    replace KB1 := KB1.drw
    go_region_held3 (fun w' => w'.cell? ⟨w.heap.size, 0, none⟩ = some (.int .i64 a1.f0) ∧ w'.cell? ⟨w.heap.size, 1, none⟩ = some (.int .i64 a1.f1) ∧ w'.cell? ⟨w.heap.size, 2, none⟩ = some (.int .i64 a1.f2))
      (exact ⟨KB1.at_ rfl, KB1.at_ rfl, KB1.at_ rfl⟩)
      (first
        | (go_at_call 8; (fail_if_success (have hx := B2)); refine Calls.mono (to_rule l0 A0 n0 c0 _ _ _ (Nat.le_trans hqn0 (by decide)) R0) ?_; rintro e w2 ⟨T2, tc2, rfl, FT2, B2⟩; (replace R0 := rd_nw B2 R0); (replace KB1 := box_nw B2 KB1); (replace G := (by first | exact below_trans G B2 (Nat.le_refl _) | exact below_trans G.drew B2 (Nat.le_refl _) | exact below_trans (below_dN G _) B2 (Nat.le_refl _))); (have S2 := Lib.hid (show w1.heap.size ≤ w2.heap.size from B2.size)))
        | (go_at_call 9; (fail_if_success (have hx := B3)); refine Calls.mono (to_request_one a1 _) ?_; rintro e w3 ⟨rfl, B3⟩; (replace R0 := rd_nw B3 R0); (replace KB1 := box_nw B3 KB1); (replace FT2 := fr_nw B3 FT2); (replace G := (by first | exact below_trans G B3 (Nat.le_refl _) | exact below_trans G.drew B3 (Nat.le_refl _) | exact below_trans (below_dN G _) B3 (Nat.le_refl _))); (have S3 := Lib.hid (show w2.heap.size ≤ w3.heap.size from B3.size)))
        | (go_at_call 16; (fail_if_success (have hx := B4)); refine Calls.mono (spec_IsSettled l0 T2 n0 tc2 _ _ a1 _ (by omega) FT2.rd H0 H1) ?_; rintro e w4 ⟨rfl, B4⟩; (replace R0 := rd_nw B4 R0); (replace KB1 := box_nw B4 KB1); (replace FT2 := fr_nw B4 FT2); (replace G := (by first | exact below_trans G B4 (Nat.le_refl _) | exact below_trans G.drew B4 (Nat.le_refl _) | exact below_trans (below_dN G _) B4 (Nat.le_refl _))); (have S4 := Lib.hid (show w3.heap.size ≤ w4.heap.size from B4.size))))
    clear B2
    clear B3
    clear B4
    clear FT2
    go_wp2_with fail
    refine Calls.mono (to_rule l0 A0 n0 c0 _ _ _ (Nat.le_trans hqn0 (by decide)) R0) ?_
    rintro e w5 ⟨T5, tc5, rfl, FT5, B5⟩
    replace R0 := (R0).new B5
    replace KB1 := (KB1).new B5
    replace G := below_trans G B5 (Nat.le_refl _)
    have S5 := Lib.hid (show w4.heap.size + 0 ≤ w5.heap.size by have := B5.size; first | (simpa using this) | ((try simp at this); omega))
    clear B5
    have xKB1_0 : w5.cell? ⟨w.heap.size, 0, none⟩ = some (.int .i64 a1.f0) := KB1.at_ rfl
    have xKB1_1 : w5.cell? ⟨w.heap.size, 1, none⟩ = some (.int .i64 a1.f1) := KB1.at_ rfl
    have xKB1_2 : w5.cell? ⟨w.heap.size, 2, none⟩ = some (.int .i64 a1.f2) := KB1.at_ rfl
    go_wp2_with fail
    refine Calls.mono (to_request_one a1 _) ?_
    rintro e w6 ⟨rfl, B6⟩
    replace R0 := (R0).new B6
    replace KB1 := (KB1).new B6
    replace FT5 := (FT5).new B6
    replace G := below_trans G B6 (Nat.le_refl _)
    have S6 := Lib.hid (show w5.heap.size + 0 ≤ w6.heap.size by have := B6.size; first | (simpa using this) | ((try simp at this); omega))
    clear B6
    clear xKB1_0 xKB1_1 xKB1_2
    go_wp2_with fail
    refine Calls.mono (impl_IsSettled l0 T5 n0 tc5 _ _ a1 _ (by omega) FT5.rd H0 H1) ?_
    rintro e w7 ⟨rfl, B7⟩
    replace R0 := (R0).new B7
    replace KB1 := (KB1).new B7
    replace FT5 := (FT5).new B7
    replace G := below_trans G B7 (Nat.le_refl _)
    have S7 := Lib.hid (show w6.heap.size + 0 ≤ w7.heap.size by have := B7.size; first | (simpa using this) | ((try simp at this); omega))
    clear B7
    go_wp2_with fail
    refine Calls.mono (to_rule l0 A0 n0 c0 _ _ _ (Nat.le_trans hqn0 (by decide)) R0) ?_
    rintro e w8 ⟨T8, tc8, rfl, FT8, B8⟩
    replace R0 := (R0).new B8
    replace KB1 := (KB1).new B8
    replace FT5 := (FT5).new B8
    replace G := below_trans G B8 (Nat.le_refl _)
    have S8 := Lib.hid (show w7.heap.size + 0 ≤ w8.heap.size by have := B8.size; first | (simpa using this) | ((try simp at this); omega))
    clear B8
    go_wp2_with fail
    refine Calls.mono (eq_rule_same l0 T5 T8 n0 n0 tc5 tc8 _ _ _ _ _ (by omega) (by omega) FT5.rd FT8.rd) ?_
    rintro e w9 ⟨rfl, B9⟩
    replace R0 := (R0).new B9
    replace KB1 := (KB1).new B9
    replace FT5 := (FT5).new B9
    replace FT8 := (FT8).new B9
    replace G := below_trans G B9 (Nat.le_refl _)
    have S9 := Lib.hid (show w8.heap.size + 0 ≤ w9.heap.size by have := B9.size; first | (simpa using this) | ((try simp at this); omega))
    clear B9
    clear FT8
    go_wp2_with fail
    go_ret
    exact ⟨rfl, G⟩
  · skip
    have G : Below w.heap.size w (w.alloc (.cells #[.int .i64 a1.f0, .int .i64 a1.f1, .int .i64 a1.f2] 26)) := (Below.refl _ _).alloc (by simp) _
    have S0 := Lib.hid (show (w.alloc (.cells #[.int .i64 a1.f0, .int .i64 a1.f1, .int .i64 a1.f2] 26)).heap.size = w.heap.size + 1 by simp)
    replace R0 := R0.alloc (.cells #[.int .i64 a1.f0, .int .i64 a1.f1, .int .i64 a1.f2] 26)
    have KB1 : BoxAt (w.alloc (.cells #[.int .i64 a1.f0, .int .i64 a1.f1, .int .i64 a1.f2] 26)) (w.heap.size) 26 #[.int .i64 a1.f0, .int .i64 a1.f1, .int .i64 a1.f2] := box_new _ _ _
    go_enter Try.func4, Try.ntmps4
    go_wp2_with fail
    refine (szno_rule A0 n0 c0 (1048576) _ hm0 (by omega) (by omega) (by omega)).mono ?_
    rintro e w1 hq
    obtain ⟨rfl, B10⟩ := hq.says
    go_wp2_with fail
    go_ret
    exact ⟨rfl, below_trans G B10 (Nat.le_refl _)⟩

set_option maxRecDepth 100000 in
theorem lifted (os : Os) (started : os.Started) (H : Type) (enc : TypeId × Value → H) :
    ReturnsInHanded {} Try.checked os 4 .any (Rows.fnExactIsSettledSpec.pre6 enc Try.prog Try.f4 Rows.fnExactIsSettledRow.domain false) (Rows.fnExactIsSettledSpec.post enc Try.prog Try.f4 false true false false) := by
  refine law_lifted Try.func4 (by kernel_rfl) rfl rfl (by kernel_rfl) os started
    (ChangeSpec.witness6 (enc := enc) (C := Try.checked) false ⟨#[], #[.slice none 0 0, .agg #[.int .i64 0, .int .i64 0, .int .i64 0]], []⟩ 8 (by kernel_rfl) (by kernel_rfl) (by kernel_rfl) (by kernel_rfl)) ?_
  intro W base args ds p hval hA hlt
  rw [Try.params4] at hA hval
  obtain ⟨v0, vs0, d0, ds0, p0, q0, hargs, rfl, rfl, h0, r0⟩ := trodAll_cons hA
  obtain ⟨v1, vs1, d1, ds1, p1, q1, rfl, rfl, rfl, h1, r1⟩ := trodAll_cons r0
  obtain ⟨rfl, rfl, rfl⟩ := trodAll_nil r1
  obtain rfl : args = #[v0, v1] := by cases args; simp_all
  obtain ⟨A0, n0, c0, l0, rfl, m0, R0, H0⟩ := open_rule_list (hval 0 22 v0 rfl rfl) h0 (fun x hx => hlt x (by simp [hx]))
  obtain ⟨a1, rfl, H1⟩ := open_request (hval 1 26 v1 rfl rfl) h1
  exact ⟨⟨rfl, rfl, rfl⟩, walk l0 A0 n0 c0 a1 W m0 R0 H0 H1⟩

theorem over : Rows.fnExactIsSettledRow.holds Try.pinned (OpenSpec.ofChange Rows.fnExactIsSettledSpec) :=
  OpenClaim.holds_of_wide 4 Try.f4 rfl rfl rfl rfl rfl rfl rfl ⟨rfl, rfl, rfl, rfl, rfl⟩ rfl rfl rfl rfl rfl (by kernel_rfl) Try.func4 (by kernel_rfl)
    (of_decide_eq_true (by kernel_rfl)) (by unfold Func.isWrapper; first | (rw [if_pos (by decide +kernel)]; kernel_rfl) | (rw [if_neg (by decide +kernel)]; exact ⟨rfl, rfl⟩))
    (fun os started H enc _ => lifted os started H enc)

theorem proved : Rows.FnExactIsSettledSaid := over
#print axioms proved
end Go.Proofs.Ytafekceggpbnlaa.fnExactIsSettled
