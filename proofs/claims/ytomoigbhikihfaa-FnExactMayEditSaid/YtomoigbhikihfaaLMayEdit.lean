/- The law FnExactMayEdit answers true for every argument, and leaves each argument as it was. No condition. -/
import Derived.Test.YtomoigbhikihfaaSlI
import Derived.Test.YtomoigbhikihfaaTEdit
import Derived.Test.YtomoigbhikihfaaTNode
import Derived.Test.YtomoigbhikihfaaSgF
import Derived.Test.YtomoigbhikihfaaSgG
namespace Go.Proofs.Ytomoigbhikihfaa.fnExactMayEdit
open Go Go.ChangeShapes Go.WideShapes Go.ChangeAt Go.RowKit Go.Lib
open Go.ChangeMaps (open_string)
set_option linter.unusedVariables false
set_option linter.unusedSimpArgs false
set_option maxRecDepth 100000

theorem drw_size {W w' : World} (hb : Below W.drew.heap.size W.drew w') : W.heap.size ≤ w'.heap.size := hb.size
set_option maxRecDepth 100000 in
set_option maxHeartbeats 20000000 in
theorem walk (l0 : List TNode) (A0 : Option Addr) (n0 c0 : Nat) (l1 : List Int) (A1 : Option Addr) (n1 c1 : Nat) (a2 : TEdit) (w : World) (hm0 : n0 ≤ maxLen) (R0 : Rd w 0 w.heap.size 5 A0 n0 (cNode l0)) (H0 : Hid (cNodeOk l0)) (hm1 : n1 ≤ maxLen) (R1 : Rd w 0 w.heap.size 1 A1 n1 (i64s l1)) (H1 : Hid (I64s l1)) (H2 : Hid (TEdit.fit a2)) :
    Calls Try.prog 6 #[.slice A0 n0 c0, .slice A1 n1 c1, .agg #[.int .i64 a2.f0, .int .i64 a2.f1, .int .i64 a2.f2, .int .i64 a2.f3, .int .i64 a2.f4, .int .i64 a2.f5]] w fun e w' => e = .returned (.bool true) ∧ Below w.heap.size w w' := by
  have hm1 : n1 ≤ 9223372036854775807 := hm1
  have hm0 : n0 ≤ 9223372036854775807 := hm0
  by_cases hn1 : n1 ≤ 1048576
  · skip
    by_cases hz0 : n0 ≤ 1048576
    · skip
      have G : Below w.heap.size w (w.alloc (.cells #[.int .i64 a2.f0, .int .i64 a2.f1, .int .i64 a2.f2, .int .i64 a2.f3, .int .i64 a2.f4, .int .i64 a2.f5] 38)) := (Below.refl _ _).alloc (by simp) _
      have S0 := Lib.hid (show (w.alloc (.cells #[.int .i64 a2.f0, .int .i64 a2.f1, .int .i64 a2.f2, .int .i64 a2.f3, .int .i64 a2.f4, .int .i64 a2.f5] 38)).heap.size = w.heap.size + 1 by simp)
      replace R0 := R0.alloc (.cells #[.int .i64 a2.f0, .int .i64 a2.f1, .int .i64 a2.f2, .int .i64 a2.f3, .int .i64 a2.f4, .int .i64 a2.f5] 38)
      replace R1 := R1.alloc (.cells #[.int .i64 a2.f0, .int .i64 a2.f1, .int .i64 a2.f2, .int .i64 a2.f3, .int .i64 a2.f4, .int .i64 a2.f5] 38)
      have KB2 : BoxAt (w.alloc (.cells #[.int .i64 a2.f0, .int .i64 a2.f1, .int .i64 a2.f2, .int .i64 a2.f3, .int .i64 a2.f4, .int .i64 a2.f5] 38)) (w.heap.size) 38 #[.int .i64 a2.f0, .int .i64 a2.f1, .int .i64 a2.f2, .int .i64 a2.f3, .int .i64 a2.f4, .int .i64 a2.f5] := box_new _ _ _
      go_enter Try.func6, Try.ntmps6
      go_wp2_with fail
      refine (sz_node A0 n0 c0 (1048576) _ hm0 (by omega) (by omega)).mono ?_
      rintro e w1 hq
      obtain ⟨rfl, B1⟩ := hq.says
      replace R0 := R0.new B1
      replace R1 := R1.new B1
      replace KB2 := KB2.new B1
      replace G := below_trans G B1 (Nat.le_refl _)
      have S1 := Lib.hid B1.size
      clear B1
      go_wp2_with fail
      replace R0 := R0.drw
      replace R1 := R1.drw
      replace KB2 := KB2.drw
      replace G := G.drew
      go_region_held3 (fun w' => w'.cell? ⟨w.heap.size, 0, none⟩ = some (.int .i64 a2.f0) ∧ w'.cell? ⟨w.heap.size, 1, none⟩ = some (.int .i64 a2.f1) ∧ w'.cell? ⟨w.heap.size, 2, none⟩ = some (.int .i64 a2.f2) ∧ w'.cell? ⟨w.heap.size, 3, none⟩ = some (.int .i64 a2.f3) ∧ w'.cell? ⟨w.heap.size, 4, none⟩ = some (.int .i64 a2.f4) ∧ w'.cell? ⟨w.heap.size, 5, none⟩ = some (.int .i64 a2.f5))
        (exact ⟨KB2.at_ rfl, KB2.at_ rfl, KB2.at_ rfl, KB2.at_ rfl, KB2.at_ rfl, KB2.at_ rfl⟩)
        (first
          | (go_at_call 14; refine Calls.mono (to_node l0 A0 n0 c0 _ _ _ (by omega) R0) ?_; rintro e w2 ⟨T2, tc2, rfl, FT2, B2⟩; (replace R0 := rd_nw B2 R0); (replace R1 := rd_nw B2 R1); (replace KB2 := box_nw B2 KB2); (replace G := below_trans G B2 (Nat.le_refl _)); (have S2 := Lib.hid (drw_size B2)))
          | (go_at_call 15; refine Calls.mono (to_int l1 A1 n1 c1 _ _ _ (by omega) R1) ?_; rintro e w3 ⟨T3, tc3, rfl, FT3, B3⟩; (replace R0 := rd_nw B3 R0); (replace R1 := rd_nw B3 R1); (replace KB2 := box_nw B3 KB2); (replace FT2 := fr_nw B3 FT2); (replace G := below_trans G B3 (Nat.le_refl _)); (have S3 := Lib.hid (show w2.heap.size ≤ w3.heap.size from B3.size)))
          | (go_at_call 27; (with_reducible refine Calls.mono (to_edit_one a2 _) ?_); rintro e w4 ⟨rfl, B4⟩; (replace R0 := rd_nw B4 R0); (replace R1 := rd_nw B4 R1); (replace KB2 := box_nw B4 KB2); (replace FT2 := fr_nw B4 FT2); (replace FT3 := fr_nw B4 FT3); (replace G := below_trans G B4 (Nat.le_refl _)); (have S4 := Lib.hid (show w3.heap.size ≤ w4.heap.size from B4.size)))
          | (go_at_call 26; refine Calls.mono (spec_MayEdit l0 T2 n0 tc2 _ _ l1 T3 n1 tc3 _ _ a2 _ (by omega) FT2.rd FT2.cap H0 (by omega) FT3.rd FT3.cap H1 H2) ?_; rintro e w5 ⟨rfl, B5⟩; (replace R0 := rd_nw B5 R0); (replace R1 := rd_nw B5 R1); (replace KB2 := box_nw B5 KB2); (replace FT2 := fr_nw B5 FT2); (replace FT3 := fr_nw B5 FT3); (replace G := below_trans G B5 (Nat.le_refl _)); (have S5 := Lib.hid (show w4.heap.size ≤ w5.heap.size from B5.size))))
      clear B2
      clear B3
      clear B4
      clear B5
      clear FT2
      clear FT3
      go_wp2_with fail
      refine (to_node l0 A0 n0 c0 _ _ _ (by omega) R0).mono ?_
      rintro e w6 ⟨T6, tc6, rfl, FT6, B6⟩
      replace R0 := R0.new B6
      replace R1 := R1.new B6
      replace KB2 := KB2.new B6
      replace G := below_trans G B6 (Nat.le_refl _)
      have S6 := Lib.hid B6.size
      clear B6
      go_wp2_with fail
      refine (to_int l1 A1 n1 c1 _ _ _ (by omega) R1).mono ?_
      rintro e w7 ⟨T7, tc7, rfl, FT7, B7⟩
      replace R0 := R0.new B7
      replace R1 := R1.new B7
      replace KB2 := KB2.new B7
      replace FT6 := FT6.new B7
      replace G := below_trans G B7 (Nat.le_refl _)
      have S7 := Lib.hid B7.size
      clear B7
      have x8_0 : w7.cell? ⟨w.heap.size, 0, none⟩ = some (.int .i64 a2.f0) := KB2.at_ rfl
      have x8_1 : w7.cell? ⟨w.heap.size, 1, none⟩ = some (.int .i64 a2.f1) := KB2.at_ rfl
      have x8_2 : w7.cell? ⟨w.heap.size, 2, none⟩ = some (.int .i64 a2.f2) := KB2.at_ rfl
      have x8_3 : w7.cell? ⟨w.heap.size, 3, none⟩ = some (.int .i64 a2.f3) := KB2.at_ rfl
      have x8_4 : w7.cell? ⟨w.heap.size, 4, none⟩ = some (.int .i64 a2.f4) := KB2.at_ rfl
      have x8_5 : w7.cell? ⟨w.heap.size, 5, none⟩ = some (.int .i64 a2.f5) := KB2.at_ rfl
      go_wp2_with fail
      clear x8_0 x8_1 x8_2 x8_3 x8_4 x8_5
      refine (to_edit_one a2 _).mono ?_
      rintro e w8 ⟨rfl, B8⟩
      replace R0 := R0.new B8
      replace R1 := R1.new B8
      replace KB2 := KB2.new B8
      replace FT6 := FT6.new B8
      replace FT7 := FT7.new B8
      replace G := below_trans G B8 (Nat.le_refl _)
      have S8 := Lib.hid B8.size
      clear B8
      go_wp2_with fail
      refine (impl_MayEditC l0 T6 n0 tc6 _ _ l1 T7 n1 tc7 _ _ a2 _ (by omega) FT6.rd FT6.cap H0 (by omega) FT7.rd FT7.cap H1 H2).mono ?_
      rintro e w9 ⟨rfl, B9⟩
      replace R0 := R0.new B9
      replace R1 := R1.new B9
      replace KB2 := KB2.new B9
      replace FT6 := FT6.new B9
      replace FT7 := FT7.new B9
      replace G := below_trans G B9 (Nat.le_refl _)
      have S9 := Lib.hid B9.size
      clear B9
      go_wp2_with fail
      refine (to_node l0 A0 n0 c0 _ _ _ (by omega) R0).mono ?_
      rintro e w10 ⟨T10, tc10, rfl, FT10, B10⟩
      replace R0 := R0.new B10
      replace R1 := R1.new B10
      replace KB2 := KB2.new B10
      replace FT6 := FT6.new B10
      replace FT7 := FT7.new B10
      replace G := below_trans G B10 (Nat.le_refl _)
      have S10 := Lib.hid B10.size
      clear B10
      go_wp2_with fail
      refine (eq_node_same l0 T6 T10 n0 n0 tc6 tc10 _ _ _ _ _ (by omega) (by omega) FT6.rd FT10.rd).mono ?_
      rintro e w11 ⟨rfl, B11⟩
      replace R0 := R0.new B11
      replace R1 := R1.new B11
      replace KB2 := KB2.new B11
      replace FT6 := FT6.new B11
      replace FT7 := FT7.new B11
      replace FT10 := FT10.new B11
      replace G := below_trans G B11 (Nat.le_refl _)
      have S11 := Lib.hid B11.size
      clear B11
      clear FT10
      go_wp2_with fail
      refine (to_int l1 A1 n1 c1 _ _ _ (by omega) R1).mono ?_
      rintro e w12 ⟨T12, tc12, rfl, FT12, B12⟩
      replace R0 := R0.new B12
      replace R1 := R1.new B12
      replace KB2 := KB2.new B12
      replace FT6 := FT6.new B12
      replace FT7 := FT7.new B12
      replace G := below_trans G B12 (Nat.le_refl _)
      have S12 := Lib.hid B12.size
      clear B12
      go_wp2_with fail
      refine (eq_int_same l1 T7 T12 n1 n1 tc7 tc12 _ _ _ _ _ (by omega) (by omega) FT7.rd FT12.rd).mono ?_
      rintro e w13 hq
      obtain ⟨rfl, B13⟩ := hq.says
      replace R0 := R0.new B13
      replace R1 := R1.new B13
      replace KB2 := KB2.new B13
      replace FT6 := FT6.new B13
      replace FT7 := FT7.new B13
      replace FT12 := FT12.new B13
      replace G := below_trans G B13 (Nat.le_refl _)
      have S13 := Lib.hid B13.size
      clear B13
      clear FT12
      go_wp2_with fail
      go_ret
      exact ⟨rfl, G⟩
    · skip
      have G : Below w.heap.size w (w.alloc (.cells #[.int .i64 a2.f0, .int .i64 a2.f1, .int .i64 a2.f2, .int .i64 a2.f3, .int .i64 a2.f4, .int .i64 a2.f5] 38)) := (Below.refl _ _).alloc (by simp) _
      have S0 := Lib.hid (show (w.alloc (.cells #[.int .i64 a2.f0, .int .i64 a2.f1, .int .i64 a2.f2, .int .i64 a2.f3, .int .i64 a2.f4, .int .i64 a2.f5] 38)).heap.size = w.heap.size + 1 by simp)
      have KB2 : BoxAt (w.alloc (.cells #[.int .i64 a2.f0, .int .i64 a2.f1, .int .i64 a2.f2, .int .i64 a2.f3, .int .i64 a2.f4, .int .i64 a2.f5] 38)) (w.heap.size) 38 #[.int .i64 a2.f0, .int .i64 a2.f1, .int .i64 a2.f2, .int .i64 a2.f3, .int .i64 a2.f4, .int .i64 a2.f5] := box_new _ _ _
      go_enter Try.func6, Try.ntmps6
      go_wp2_with fail
      refine (szno_node A0 n0 c0 (1048576) _ hm0 (by omega) (by omega) (by omega)).mono ?_
      rintro e w1 hq
      obtain ⟨rfl, B14⟩ := hq.says
      replace KB2 := KB2.new B14
      replace G := below_trans G B14 (Nat.le_refl _)
      have S1 := Lib.hid B14.size
      clear B14
      go_wp2_with fail
      go_ret
      exact ⟨rfl, G⟩
  · go_enter Try.func6, Try.ntmps6
    go_wp2_with fail
    go_ret
    exact ⟨rfl, by repeat (first | exact Below.refl _ _ | (refine Below.alloc ?_ (by simp <;> omega) _))⟩

set_option maxRecDepth 100000 in
theorem lifted (os : Os) (started : os.Started) (H : Type) (enc : TypeId × Value → H) :
    ReturnsInHanded {} Try.checked os 6 .any (Rows.fnExactMayEditSpec.pre6 enc Try.prog Try.f6 Rows.fnExactMayEditRow.domain false) (Rows.fnExactMayEditSpec.post enc Try.prog Try.f6 false true false false) := by
  refine law_lifted Try.func6 (by kernel_rfl) rfl rfl (by kernel_rfl) os started
    (ChangeSpec.witness6 (enc := enc) (C := Try.checked) false ⟨#[], #[.slice none 0 0, .slice none 0 0, .agg #[.int .i64 0, .int .i64 0, .int .i64 0, .int .i64 0, .int .i64 0, .int .i64 0]], []⟩ 8 (by kernel_rfl) (by kernel_rfl) (by kernel_rfl) (by kernel_rfl)) ?_
  intro W base args ds p hval hA hlt
  rw [Try.params6] at hA hval
  obtain ⟨v0, vs0, d0, ds0, p0, q0, hargs, rfl, rfl, h0, r0⟩ := trodAll_cons hA
  obtain ⟨v1, vs1, d1, ds1, p1, q1, rfl, rfl, rfl, h1, r1⟩ := trodAll_cons r0
  obtain ⟨v2, vs2, d2, ds2, p2, q2, rfl, rfl, rfl, h2, r2⟩ := trodAll_cons r1
  obtain ⟨rfl, rfl, rfl⟩ := trodAll_nil r2
  obtain rfl : args = #[v0, v1, v2] := by cases args; simp_all
  obtain ⟨A0, n0, c0, l0, rfl, m0, R0, H0⟩ := open_node_list (hval 0 22 v0 rfl rfl) h0 (fun x hx => hlt x (by simp [hx]))
  obtain ⟨A1, n1, c1, l1, rfl, m1, R1, H1⟩ := open_int_list (hval 1 23 v1 rfl rfl) h1 (fun x hx => hlt x (by simp [hx]))
  obtain ⟨a2, rfl, H2⟩ := open_edit (hval 2 38 v2 rfl rfl) h2
  exact ⟨⟨rfl, rfl, rfl⟩, walk l0 A0 n0 c0 l1 A1 n1 c1 a2 W m0 R0 H0 m1 R1 H1 H2⟩

theorem over : Rows.fnExactMayEditRow.holds Try.pinned (OpenSpec.ofChange Rows.fnExactMayEditSpec) :=
  OpenClaim.holds_of_wide 6 Try.f6 rfl rfl rfl rfl rfl rfl rfl ⟨rfl, rfl, rfl, rfl, rfl⟩ rfl rfl rfl rfl rfl (by kernel_rfl) Try.func6 (by kernel_rfl)
    (of_decide_eq_true (by kernel_rfl)) (by unfold Func.isWrapper; first | (rw [if_pos (by decide +kernel)]; kernel_rfl) | (rw [if_neg (by decide +kernel)]; exact ⟨rfl, rfl⟩))
    (fun os started H enc _ => lifted os started H enc)

theorem proved : Rows.FnExactMayEditSaid := over
#print axioms proved
end Go.Proofs.Ytomoigbhikihfaa.fnExactMayEdit
