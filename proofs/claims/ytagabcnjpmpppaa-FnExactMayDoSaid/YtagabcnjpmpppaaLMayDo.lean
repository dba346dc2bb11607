/- The law FnExactMayDo answers true for every argument, and leaves each argument as it was. No condition. -/
import Derived.Test.YtagabcnjpmpppaaTGrant
import Derived.Test.YtagabcnjpmpppaaTLimit
import Derived.Test.YtagabcnjpmpppaaTSite
import Derived.Test.YtagabcnjpmpppaaMayDo
namespace Go.Proofs.Ytagabcnjpmpppaa.fnExactMayDo
open Go Go.ChangeShapes Go.WideShapes Go.ChangeAt Go.RowKit Go.Lib
open Go.ChangeMaps (open_string)
set_option linter.unusedVariables false
set_option maxRecDepth 100000

theorem drw_size {W w' : World} (hb : Below W.drew.heap.size W.drew w') : W.heap.size ≤ w'.heap.size := hb.size
set_option maxRecDepth 100000 in
set_option maxHeartbeats 20000000 in
theorem walk (l0 : List TGrant) (A0 : Option Addr) (n0 c0 : Nat) (l1 : List TLimit) (A1 : Option Addr) (n1 c1 : Nat) (a2 : Int) (a3 : TSite) (a4 : Int) (a5 : Int) (a6 : Bool) (w : World) (hm0 : n0 ≤ maxLen) (R0 : Rd w 0 w.heap.size 7 A0 n0 (cGrant l0)) (H0 : Hid (cGrantOk l0)) (hm1 : n1 ≤ maxLen) (R1 : Rd w 0 w.heap.size 4 A1 n1 (cLimit l1)) (H1 : Hid (cLimitOk l1)) (wf2 : (Lit.int .i64 a2).wf = true) (H3 : Hid (TSite.fit a3)) (wf4 : (Lit.int .i64 a4).wf = true) (wf5 : (Lit.int .i64 a5).wf = true) :
    Calls Try.prog 6 #[.slice A0 n0 c0, .slice A1 n1 c1, .int .i64 a2, .agg #[.int .i64 a3.f0, .int .i64 a3.f1], .int .i64 a4, .int .i64 a5, .bool a6] w fun e w' => e = .returned (.bool true) ∧ Below w.heap.size w w' := by
  have hm0 : n0 ≤ 9223372036854775807 := hm0
  have hm1 : n1 ≤ 9223372036854775807 := hm1
  have Wf2 := Lib.hid wf2
  clear wf2
  have Wf4 := Lib.hid wf4
  clear wf4
  have Wf5 := Lib.hid wf5
  clear wf5
  by_cases hz0 : n0 ≤ 1048576
  · skip
    by_cases hz1 : n0 + n1 ≤ 1048576
    · skip
      have G : Below w.heap.size w (w.alloc (.cells #[.int .i64 a3.f0, .int .i64 a3.f1] 31)) := (Below.refl _ _).alloc (by simp) _
      have S0 := Lib.hid (show (w.alloc (.cells #[.int .i64 a3.f0, .int .i64 a3.f1] 31)).heap.size = w.heap.size + 1 by simp)
      replace R0 := R0.alloc (.cells #[.int .i64 a3.f0, .int .i64 a3.f1] 31)
      replace R1 := R1.alloc (.cells #[.int .i64 a3.f0, .int .i64 a3.f1] 31)
      have KB3 : BoxAt (w.alloc (.cells #[.int .i64 a3.f0, .int .i64 a3.f1] 31)) (w.heap.size) 31 #[.int .i64 a3.f0, .int .i64 a3.f1] := box_new _ _ _
      go_enter Try.func6, Try.ntmps6
      go_wp2_with fail
      refine (sz_grant A0 n0 c0 (1048576) _ hm0 (by omega) (by omega)).mono ?_
      rintro e w1 hq
      obtain ⟨rfl, B1⟩ := hq.says
      replace R0 := R0.new B1
      replace R1 := R1.new B1
      replace KB3 := KB3.new B1
      replace G := below_trans G B1 (Nat.le_refl _)
      have S1 := Lib.hid B1.size
      clear B1
      go_wp2_with fail
      refine (sz_limit A1 n1 c1 (1048576 - (n0 : Int)) _ hm1 (by omega) (by omega)).mono ?_
      rintro e w2 hq
      obtain ⟨rfl, B2⟩ := hq.says
      replace R0 := R0.new B2
      replace R1 := R1.new B2
      replace KB3 := KB3.new B2
      replace G := below_trans G B2 (Nat.le_refl _)
      have S2 := Lib.hid B2.size
      clear B2
      go_wp2_with fail
      replace R0 := R0.drw
      replace R1 := R1.drw
      replace KB3 := KB3.drw
      replace G := G.drew
      go_region_held3 (fun w' => w'.cell? ⟨w.heap.size, 0, none⟩ = some (.int .i64 a3.f0) ∧ w'.cell? ⟨w.heap.size, 1, none⟩ = some (.int .i64 a3.f1))
        (exact ⟨KB3.at_ rfl, KB3.at_ rfl⟩)
        (first
          | (go_at_call 29; refine Calls.mono (to_grant l0 A0 n0 c0 _ _ _ (by omega) R0) ?_; rintro e w3 ⟨T3, tc3, rfl, FT3, B3⟩; (replace R0 := rd_nw B3 R0); (replace R1 := rd_nw B3 R1); (replace KB3 := box_nw B3 KB3); (replace G := below_trans G B3 (Nat.le_refl _)); (have S3 := Lib.hid (drw_size B3)))
          | (go_at_call 23; refine Calls.mono (to_limit l1 A1 n1 c1 _ _ _ (by omega) R1) ?_; rintro e w4 ⟨T4, tc4, rfl, FT4, B4⟩; (replace R0 := rd_nw B4 R0); (replace R1 := rd_nw B4 R1); (replace KB3 := box_nw B4 KB3); (replace FT3 := fr_nw B4 FT3); (replace G := below_trans G B4 (Nat.le_refl _)); (have S4 := Lib.hid (show w3.heap.size ≤ w4.heap.size from B4.size)))
          | (go_at_call 24; (with_reducible refine Calls.mono (to_site_one a3 _) ?_); rintro e w5 ⟨rfl, B5⟩; (replace R0 := rd_nw B5 R0); (replace R1 := rd_nw B5 R1); (replace KB3 := box_nw B5 KB3); (replace FT3 := fr_nw B5 FT3); (replace FT4 := fr_nw B5 FT4); (replace G := below_trans G B5 (Nat.le_refl _)); (have S5 := Lib.hid (show w4.heap.size ≤ w5.heap.size from B5.size)))
          | (go_at_call 28; refine Calls.mono (spec_MayDo l0 T3 n0 tc3 _ _ l1 T4 n1 tc4 _ _ a2 a3 a4 a5 a6 _ (by omega) FT3.rd FT3.cap H0 (by omega) FT4.rd FT4.cap H1) ?_; rintro e w6 ⟨rfl, B6⟩; (replace R0 := rd_nw B6 R0); (replace R1 := rd_nw B6 R1); (replace KB3 := box_nw B6 KB3); (replace FT3 := fr_nw B6 FT3); (replace FT4 := fr_nw B6 FT4); (replace G := below_trans G B6 (Nat.le_refl _)); (have S6 := Lib.hid (show w5.heap.size ≤ w6.heap.size from B6.size))))
      clear B3
      clear B4
      clear B5
      clear B6
      clear FT3
      clear FT4
      go_wp2_with fail
      refine (to_grant l0 A0 n0 c0 _ _ _ (by omega) R0).mono ?_
      rintro e w7 ⟨T7, tc7, rfl, FT7, B7⟩
      replace R0 := R0.new B7
      replace R1 := R1.new B7
      replace KB3 := KB3.new B7
      replace G := below_trans G B7 (Nat.le_refl _)
      have S7 := Lib.hid B7.size
      clear B7
      go_wp2_with fail
      refine (to_limit l1 A1 n1 c1 _ _ _ (by omega) R1).mono ?_
      rintro e w8 ⟨T8, tc8, rfl, FT8, B8⟩
      replace R0 := R0.new B8
      replace R1 := R1.new B8
      replace KB3 := KB3.new B8
      replace FT7 := FT7.new B8
      replace G := below_trans G B8 (Nat.le_refl _)
      have S8 := Lib.hid B8.size
      clear B8
      have x9_0 : w8.cell? ⟨w.heap.size, 0, none⟩ = some (.int .i64 a3.f0) := KB3.at_ rfl
      have x9_1 : w8.cell? ⟨w.heap.size, 1, none⟩ = some (.int .i64 a3.f1) := KB3.at_ rfl
      go_wp2_with fail
      clear x9_0 x9_1
      refine (to_site_one a3 _).mono ?_
      rintro e w9 ⟨rfl, B9⟩
      replace R0 := R0.new B9
      replace R1 := R1.new B9
      replace KB3 := KB3.new B9
      replace FT7 := FT7.new B9
      replace FT8 := FT8.new B9
      replace G := below_trans G B9 (Nat.le_refl _)
      have S9 := Lib.hid B9.size
      clear B9
      go_wp2_with fail
      refine (impl_MayDoC l0 T7 n0 tc7 _ _ l1 T8 n1 tc8 _ _ a2 a3 a4 a5 a6 _ (by omega) FT7.rd FT7.cap H0 (by omega) FT8.rd FT8.cap H1).mono ?_
      rintro e w10 ⟨rfl, B10⟩
      replace R0 := R0.new B10
      replace R1 := R1.new B10
      replace KB3 := KB3.new B10
      replace FT7 := FT7.new B10
      replace FT8 := FT8.new B10
      replace G := below_trans G B10 (Nat.le_refl _)
      have S10 := Lib.hid B10.size
      clear B10
      go_wp2_with fail
      refine (to_grant l0 A0 n0 c0 _ _ _ (by omega) R0).mono ?_
      rintro e w11 ⟨T11, tc11, rfl, FT11, B11⟩
      replace R0 := R0.new B11
      replace R1 := R1.new B11
      replace KB3 := KB3.new B11
      replace FT7 := FT7.new B11
      replace FT8 := FT8.new B11
      replace G := below_trans G B11 (Nat.le_refl _)
      have S11 := Lib.hid B11.size
      clear B11
      go_wp2_with fail
      refine (eq_grant_same l0 T7 T11 n0 n0 tc7 tc11 _ _ _ _ _ (by omega) (by omega) FT7.rd FT11.rd).mono ?_
      rintro e w12 ⟨rfl, B12⟩
      replace R0 := R0.new B12
      replace R1 := R1.new B12
      replace KB3 := KB3.new B12
      replace FT7 := FT7.new B12
      replace FT8 := FT8.new B12
      replace FT11 := FT11.new B12
      replace G := below_trans G B12 (Nat.le_refl _)
      have S12 := Lib.hid B12.size
      clear B12
      clear FT11
      go_wp2_with fail
      refine (to_limit l1 A1 n1 c1 _ _ _ (by omega) R1).mono ?_
      rintro e w13 ⟨T13, tc13, rfl, FT13, B13⟩
      replace R0 := R0.new B13
      replace R1 := R1.new B13
      replace KB3 := KB3.new B13
      replace FT7 := FT7.new B13
      replace FT8 := FT8.new B13
      replace G := below_trans G B13 (Nat.le_refl _)
      have S13 := Lib.hid B13.size
      clear B13
      go_wp2_with fail
      refine (eq_limit_same l1 T8 T13 n1 n1 tc8 tc13 _ _ _ _ _ (by omega) (by omega) FT8.rd FT13.rd).mono ?_
      rintro e w14 ⟨rfl, B14⟩
      replace R0 := R0.new B14
      replace R1 := R1.new B14
      replace KB3 := KB3.new B14
      replace FT7 := FT7.new B14
      replace FT8 := FT8.new B14
      replace FT13 := FT13.new B14
      replace G := below_trans G B14 (Nat.le_refl _)
      have S14 := Lib.hid B14.size
      clear B14
      clear FT13
      go_wp2_with fail
      go_ret
      exact ⟨rfl, G⟩
    · skip
      have G : Below w.heap.size w (w.alloc (.cells #[.int .i64 a3.f0, .int .i64 a3.f1] 31)) := (Below.refl _ _).alloc (by simp) _
      have S0 := Lib.hid (show (w.alloc (.cells #[.int .i64 a3.f0, .int .i64 a3.f1] 31)).heap.size = w.heap.size + 1 by simp)
      have KB3 : BoxAt (w.alloc (.cells #[.int .i64 a3.f0, .int .i64 a3.f1] 31)) (w.heap.size) 31 #[.int .i64 a3.f0, .int .i64 a3.f1] := box_new _ _ _
      go_enter Try.func6, Try.ntmps6
      go_wp2_with fail
      refine (sz_grant A0 n0 c0 (1048576) _ hm0 (by omega) (by omega)).mono ?_
      rintro e w1 hq
      obtain ⟨rfl, B15⟩ := hq.says
      replace KB3 := KB3.new B15
      replace G := below_trans G B15 (Nat.le_refl _)
      have S1 := Lib.hid B15.size
      clear B15
      go_wp2_with fail
      refine (szno_limit A1 n1 c1 (1048576 - (n0 : Int)) _ hm1 (by omega) (by omega) (by omega)).mono ?_
      rintro e w2 hq
      obtain ⟨rfl, B16⟩ := hq.says
      replace KB3 := KB3.new B16
      replace G := below_trans G B16 (Nat.le_refl _)
      have S2 := Lib.hid B16.size
      clear B16
      go_wp2_with fail
      go_ret
      exact ⟨rfl, G⟩
  · skip
    have G : Below w.heap.size w (w.alloc (.cells #[.int .i64 a3.f0, .int .i64 a3.f1] 31)) := (Below.refl _ _).alloc (by simp) _
    have S0 := Lib.hid (show (w.alloc (.cells #[.int .i64 a3.f0, .int .i64 a3.f1] 31)).heap.size = w.heap.size + 1 by simp)
    have KB3 : BoxAt (w.alloc (.cells #[.int .i64 a3.f0, .int .i64 a3.f1] 31)) (w.heap.size) 31 #[.int .i64 a3.f0, .int .i64 a3.f1] := box_new _ _ _
    go_enter Try.func6, Try.ntmps6
    go_wp2_with fail
    refine (szno_grant A0 n0 c0 (1048576) _ hm0 (by omega) (by omega) (by omega)).mono ?_
    rintro e w1 hq
    obtain ⟨rfl, B17⟩ := hq.says
    replace KB3 := KB3.new B17
    replace G := below_trans G B17 (Nat.le_refl _)
    have S1 := Lib.hid B17.size
    clear B17
    go_wp2_with fail
    go_ret
    exact ⟨rfl, G⟩

set_option maxRecDepth 100000 in
theorem lifted (os : Os) (started : os.Started) (H : Type) (enc : TypeId × Value → H) :
    ReturnsInHanded {} Try.checked os 6 .any (Rows.fnExactMayDoSpec.pre6 enc Try.prog Try.f6 Rows.fnExactMayDoRow.domain false) (Rows.fnExactMayDoSpec.post enc Try.prog Try.f6 false true false false) := by
  refine law_lifted Try.func6 (by kernel_rfl) rfl rfl (by kernel_rfl) os started
    (ChangeSpec.witness6 (enc := enc) (C := Try.checked) false ⟨#[], #[.slice none 0 0, .slice none 0 0, .int .i64 0, .agg #[.int .i64 0, .int .i64 0], .int .i64 0, .int .i64 0, .bool false], []⟩ 8 (by kernel_rfl) (by kernel_rfl) (by kernel_rfl) (by kernel_rfl)) ?_
  intro W base args ds p hval hA hlt
  rw [Try.params6] at hA hval
  obtain ⟨v0, vs0, d0, ds0, p0, q0, hargs, rfl, rfl, h0, r0⟩ := trodAll_cons hA
  obtain ⟨v1, vs1, d1, ds1, p1, q1, rfl, rfl, rfl, h1, r1⟩ := trodAll_cons r0
  obtain ⟨v2, vs2, d2, ds2, p2, q2, rfl, rfl, rfl, h2, r2⟩ := trodAll_cons r1
  obtain ⟨v3, vs3, d3, ds3, p3, q3, rfl, rfl, rfl, h3, r3⟩ := trodAll_cons r2
  obtain ⟨v4, vs4, d4, ds4, p4, q4, rfl, rfl, rfl, h4, r4⟩ := trodAll_cons r3
  obtain ⟨v5, vs5, d5, ds5, p5, q5, rfl, rfl, rfl, h5, r5⟩ := trodAll_cons r4
  obtain ⟨v6, vs6, d6, ds6, p6, q6, rfl, rfl, rfl, h6, r6⟩ := trodAll_cons r5
  obtain ⟨rfl, rfl, rfl⟩ := trodAll_nil r6
  obtain rfl : args = #[v0, v1, v2, v3, v4, v5, v6] := by cases args; simp_all
  obtain ⟨A0, n0, c0, l0, rfl, m0, R0, H0⟩ := open_grant_list (hval 0 40 v0 rfl rfl) h0 (fun x hx => hlt x (by simp [hx]))
  obtain ⟨A1, n1, c1, l1, rfl, m1, R1, H1⟩ := open_limit_list (hval 1 30 v1 rfl rfl) h1 (fun x hx => hlt x (by simp [hx]))
  obtain ⟨a2, rfl, rfl, rfl, wf2⟩ := open_int Try.underlying3 (hval 2 3 v2 rfl rfl) h2
  obtain ⟨a3, rfl, H3⟩ := open_site (hval 3 31 v3 rfl rfl) h3
  obtain ⟨a4, rfl, rfl, rfl, wf4⟩ := open_int Try.underlying3 (hval 4 3 v4 rfl rfl) h4
  obtain ⟨a5, rfl, rfl, rfl, wf5⟩ := open_int Try.underlying3 (hval 5 3 v5 rfl rfl) h5
  obtain ⟨a6, rfl, rfl, rfl⟩ := open_bool Try.underlying4 (hval 6 4 v6 rfl rfl) h6
  exact ⟨⟨rfl, rfl, rfl⟩, walk l0 A0 n0 c0 l1 A1 n1 c1 a2 a3 a4 a5 a6 W m0 R0 H0 m1 R1 H1 wf2 H3 wf4 wf5⟩

theorem over : Rows.fnExactMayDoRow.holds Try.pinned (OpenSpec.ofChange Rows.fnExactMayDoSpec) :=
  OpenClaim.holds_of_wide 6 Try.f6 rfl rfl rfl rfl rfl rfl rfl ⟨rfl, rfl, rfl, rfl, rfl⟩ rfl rfl rfl rfl rfl (by kernel_rfl) Try.func6 (by kernel_rfl)
    (of_decide_eq_true (by kernel_rfl)) (by unfold Func.isWrapper; first | (rw [if_pos (by decide +kernel)]; kernel_rfl) | (rw [if_neg (by decide +kernel)]; exact ⟨rfl, rfl⟩))
    (fun os started H enc _ => lifted os started H enc)

theorem proved : Rows.FnExactMayDoSaid := over
#print axioms proved
end Go.Proofs.Ytagabcnjpmpppaa.fnExactMayDo
