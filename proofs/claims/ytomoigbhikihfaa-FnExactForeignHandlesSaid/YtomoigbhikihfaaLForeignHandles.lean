/- The law FnExactForeignHandles answers true for every argument, and leaves each argument as it was. No condition. -/
import Derived.Test.YtomoigbhikihfaaSlI
import Derived.Test.YtomoigbhikihfaaTNode
import Derived.Test.YtomoigbhikihfaaHdC
namespace Go.Proofs.Ytomoigbhikihfaa.fnExactForeignHandles
open Go Go.ChangeShapes Go.WideShapes Go.ChangeAt Go.RowKit Go.Lib
open Go.ChangeMaps (open_string)
set_option linter.unusedVariables false
set_option linter.unusedSimpArgs false
set_option maxRecDepth 100000

theorem drw_size {W w' : World} (hb : Below W.drew.heap.size W.drew w') : W.heap.size ≤ w'.heap.size := hb.size
set_option maxRecDepth 100000 in
set_option maxHeartbeats 20000000 in
theorem walk (l0 : List TNode) (A0 : Option Addr) (n0 c0 : Nat) (l1 : List Int) (A1 : Option Addr) (n1 c1 : Nat) (a2 : Int) (a3 : Int) (l4 : List Int) (A4 : Option Addr) (n4 c4 : Nat) (w : World) (hm0 : n0 ≤ maxLen) (R0 : Rd w 0 w.heap.size 5 A0 n0 (cNode l0)) (H0 : Hid (cNodeOk l0)) (hm1 : n1 ≤ maxLen) (R1 : Rd w 0 w.heap.size 1 A1 n1 (i64s l1)) (H1 : Hid (I64s l1)) (wf2 : (Lit.int .i64 a2).wf = true) (wf3 : (Lit.int .i64 a3).wf = true) (hm4 : n4 ≤ maxLen) (R4 : Rd w 0 w.heap.size 1 A4 n4 (i64s l4)) (H4 : Hid (I64s l4)) :
    Calls Try.prog 11 #[.slice A0 n0 c0, .slice A1 n1 c1, .int .i64 a2, .int .i64 a3, .slice A4 n4 c4] w fun e w' => e = .returned (.bool true) ∧ Below w.heap.size w w' := by
  have hm1 : n1 ≤ 9223372036854775807 := hm1
  have hm4 : n4 ≤ 9223372036854775807 := hm4
  have hm0 : n0 ≤ 9223372036854775807 := hm0
  have Wf2 := Lib.hid wf2
  clear wf2
  have Wf3 := Lib.hid wf3
  clear wf3
  by_cases hn1 : n1 ≤ 1048576
  · skip
    by_cases hn4 : n4 ≤ 1048576
    · skip
      by_cases hz0 : n0 ≤ 1048576
      · skip
        go_enter Try.func11, Try.ntmps11
        go_wp2_with fail
        refine (sz_node A0 n0 c0 (1048576) _ hm0 (by omega) (by omega)).mono ?_
        rintro e w1 hq
        obtain ⟨rfl, B1⟩ := hq.says
        replace R0 := R0.new B1
        replace R1 := R1.new B1
        replace R4 := R4.new B1
        have G := B1
        have S1 := Lib.hid B1.size
        clear B1
        go_wp2_with fail
        refine (to_node l0 A0 n0 c0 _ _ _ (by omega) R0).mono ?_
        rintro e w2 ⟨T2, tc2, rfl, FT2, B2⟩
        replace R0 := R0.new B2
        replace R1 := R1.new B2
        replace R4 := R4.new B2
        replace G := below_trans G B2 (Nat.le_refl _)
        have S2 := Lib.hid B2.size
        clear B2
        go_wp2_with fail
        refine (to_int l1 A1 n1 c1 _ _ _ (by omega) R1).mono ?_
        rintro e w3 ⟨T3, tc3, rfl, FT3, B3⟩
        replace R0 := R0.new B3
        replace R1 := R1.new B3
        replace R4 := R4.new B3
        replace FT2 := FT2.new B3
        replace G := below_trans G B3 (Nat.le_refl _)
        have S3 := Lib.hid B3.size
        clear B3
        go_wp2_with fail
        refine (to_int l4 A4 n4 c4 _ _ _ (by omega) R4).mono ?_
        rintro e w4 ⟨T4, tc4, rfl, FT4, B4⟩
        replace R0 := R0.new B4
        replace R1 := R1.new B4
        replace R4 := R4.new B4
        replace FT2 := FT2.new B4
        replace FT3 := FT3.new B4
        replace G := below_trans G B4 (Nat.le_refl _)
        have S4 := Lib.hid B4.size
        clear B4
        go_wp2_with fail
        refine (spec_ForeignHandles l0 T2 n0 tc2 _ _ l1 T3 n1 tc3 _ _ a2 a3 l4 T4 n4 tc4 _ _ _ (by omega) FT2.rd FT2.cap H0 (by omega) FT3.rd FT3.cap H1 Wf2.out Wf3.out (by omega) FT4.rd FT4.cap H4).mono ?_
        rintro e w5 ⟨rfl, B5⟩
        replace R0 := R0.new B5
        replace R1 := R1.new B5
        replace R4 := R4.new B5
        replace FT2 := FT2.new B5
        replace FT3 := FT3.new B5
        replace FT4 := FT4.new B5
        replace G := below_trans G B5 (Nat.le_refl _)
        have S5 := Lib.hid B5.size
        clear B5
        clear FT2
        clear FT3
        clear FT4
        go_wp2_with fail
        refine (to_node l0 A0 n0 c0 _ _ _ (by omega) R0).mono ?_
        rintro e w6 ⟨T6, tc6, rfl, FT6, B6⟩
        replace R0 := R0.new B6
        replace R1 := R1.new B6
        replace R4 := R4.new B6
        replace G := below_trans G B6 (Nat.le_refl _)
        have S6 := Lib.hid B6.size
        clear B6
        go_wp2_with fail
        refine (to_int l1 A1 n1 c1 _ _ _ (by omega) R1).mono ?_
        rintro e w7 ⟨T7, tc7, rfl, FT7, B7⟩
        replace R0 := R0.new B7
        replace R1 := R1.new B7
        replace R4 := R4.new B7
        replace FT6 := FT6.new B7
        replace G := below_trans G B7 (Nat.le_refl _)
        have S7 := Lib.hid B7.size
        clear B7
        go_wp2_with fail
        refine (to_int l4 A4 n4 c4 _ _ _ (by omega) R4).mono ?_
        rintro e w8 ⟨T8, tc8, rfl, FT8, B8⟩
        replace R0 := R0.new B8
        replace R1 := R1.new B8
        replace R4 := R4.new B8
        replace FT6 := FT6.new B8
        replace FT7 := FT7.new B8
        replace G := below_trans G B8 (Nat.le_refl _)
        have S8 := Lib.hid B8.size
        clear B8
        go_wp2_with fail
        refine (impl_ForeignHandlesC l0 T6 n0 tc6 _ _ l1 T7 n1 tc7 _ _ a2 a3 l4 T8 n4 tc8 _ _ _ (by omega) FT6.rd FT6.cap H0 (by omega) FT7.rd FT7.cap H1 Wf2.out Wf3.out (by omega) FT8.rd FT8.cap H4).mono ?_
        rintro e w9 ⟨rfl, B9⟩
        replace R0 := R0.new B9
        replace R1 := R1.new B9
        replace R4 := R4.new B9
        replace FT6 := FT6.new B9
        replace FT7 := FT7.new B9
        replace FT8 := FT8.new B9
        replace G := below_trans G B9 (Nat.le_refl _)
        have S9 := Lib.hid B9.size
        clear B9
        go_wp2_with fail
        refine (to_node l0 A0 n0 c0 _ _ _ (by omega) R0).mono ?_
        rintro e w10 ⟨T10, tc10, rfl, FT10, B10⟩
        replace R0 := R0.new B10
        replace R1 := R1.new B10
        replace R4 := R4.new B10
        replace FT6 := FT6.new B10
        replace FT7 := FT7.new B10
        replace FT8 := FT8.new B10
        replace G := below_trans G B10 (Nat.le_refl _)
        have S10 := Lib.hid B10.size
        clear B10
        go_wp2_with fail
        refine (eq_node_same l0 T6 T10 n0 n0 tc6 tc10 _ _ _ _ _ (by omega) (by omega) FT6.rd FT10.rd).mono ?_
        rintro e w11 ⟨rfl, B11⟩
        replace R0 := R0.new B11
        replace R1 := R1.new B11
        replace R4 := R4.new B11
        replace FT6 := FT6.new B11
        replace FT7 := FT7.new B11
        replace FT8 := FT8.new B11
        replace FT10 := FT10.new B11
        replace G := below_trans G B11 (Nat.le_refl _)
        have S11 := Lib.hid B11.size
        clear B11
        clear FT10
        go_wp2_with fail
        refine (to_int l1 A1 n1 c1 _ _ _ (by omega) R1).mono ?_
        rintro e w12 ⟨T12, tc12, rfl, FT12, B12⟩
        replace R0 := R0.new B12
        replace R1 := R1.new B12
        replace R4 := R4.new B12
        replace FT6 := FT6.new B12
        replace FT7 := FT7.new B12
        replace FT8 := FT8.new B12
        replace G := below_trans G B12 (Nat.le_refl _)
        have S12 := Lib.hid B12.size
        clear B12
        go_wp2_with fail
        refine (eq_int_same l1 T7 T12 n1 n1 tc7 tc12 _ _ _ _ _ (by omega) (by omega) FT7.rd FT12.rd).mono ?_
        rintro e w13 hq
        obtain ⟨rfl, B13⟩ := hq.says
        replace R0 := R0.new B13
        replace R1 := R1.new B13
        replace R4 := R4.new B13
        replace FT6 := FT6.new B13
        replace FT7 := FT7.new B13
        replace FT8 := FT8.new B13
        replace FT12 := FT12.new B13
        replace G := below_trans G B13 (Nat.le_refl _)
        have S13 := Lib.hid B13.size
        clear B13
        clear FT12
        go_wp2_with fail
        refine (to_int l4 A4 n4 c4 _ _ _ (by omega) R4).mono ?_
        rintro e w14 ⟨T14, tc14, rfl, FT14, B14⟩
        replace R0 := R0.new B14
        replace R1 := R1.new B14
        replace R4 := R4.new B14
        replace FT6 := FT6.new B14
        replace FT7 := FT7.new B14
        replace FT8 := FT8.new B14
        replace G := below_trans G B14 (Nat.le_refl _)
        have S14 := Lib.hid B14.size
        clear B14
        go_wp2_with fail
        refine (eq_int_same l4 T8 T14 n4 n4 tc8 tc14 _ _ _ _ _ (by omega) (by omega) FT8.rd FT14.rd).mono ?_
        rintro e w15 hq
        obtain ⟨rfl, B15⟩ := hq.says
        replace R0 := R0.new B15
        replace R1 := R1.new B15
        replace R4 := R4.new B15
        replace FT6 := FT6.new B15
        replace FT7 := FT7.new B15
        replace FT8 := FT8.new B15
        replace FT14 := FT14.new B15
        replace G := below_trans G B15 (Nat.le_refl _)
        have S15 := Lib.hid B15.size
        clear B15
        clear FT14
        go_wp2_with fail
        go_ret
        exact ⟨rfl, G⟩
      · skip
        go_enter Try.func11, Try.ntmps11
        go_wp2_with fail
        refine (szno_node A0 n0 c0 (1048576) _ hm0 (by omega) (by omega) (by omega)).mono ?_
        rintro e w1 hq
        obtain ⟨rfl, B16⟩ := hq.says
        have G := B16
        have S1 := Lib.hid B16.size
        clear B16
        go_wp2_with fail
        go_ret
        exact ⟨rfl, G⟩
    · go_enter Try.func11, Try.ntmps11
      go_wp2_with fail
      go_ret
      exact ⟨rfl, by repeat (first | exact Below.refl _ _ | (refine Below.alloc ?_ (by simp <;> omega) _))⟩
  · go_enter Try.func11, Try.ntmps11
    go_wp2_with fail
    go_ret
    exact ⟨rfl, by repeat (first | exact Below.refl _ _ | (refine Below.alloc ?_ (by simp <;> omega) _))⟩

set_option maxRecDepth 100000 in
theorem lifted (os : Os) (started : os.Started) (H : Type) (enc : TypeId × Value → H) :
    ReturnsInHanded {} Try.checked os 11 .any (Rows.fnExactForeignHandlesSpec.pre6 enc Try.prog Try.f11 Rows.fnExactForeignHandlesRow.domain false) (Rows.fnExactForeignHandlesSpec.post enc Try.prog Try.f11 false true false false) := by
  refine law_lifted Try.func11 (by kernel_rfl) rfl rfl (by kernel_rfl) os started
    (ChangeSpec.witness6 (enc := enc) (C := Try.checked) false ⟨#[], #[.slice none 0 0, .slice none 0 0, .int .i64 0, .int .i64 0, .slice none 0 0], []⟩ 8 (by kernel_rfl) (by kernel_rfl) (by kernel_rfl) (by kernel_rfl)) ?_
  intro W base args ds p hval hA hlt
  rw [Try.params11] at hA hval
  obtain ⟨v0, vs0, d0, ds0, p0, q0, hargs, rfl, rfl, h0, r0⟩ := trodAll_cons hA
  obtain ⟨v1, vs1, d1, ds1, p1, q1, rfl, rfl, rfl, h1, r1⟩ := trodAll_cons r0
  obtain ⟨v2, vs2, d2, ds2, p2, q2, rfl, rfl, rfl, h2, r2⟩ := trodAll_cons r1
  obtain ⟨v3, vs3, d3, ds3, p3, q3, rfl, rfl, rfl, h3, r3⟩ := trodAll_cons r2
  obtain ⟨v4, vs4, d4, ds4, p4, q4, rfl, rfl, rfl, h4, r4⟩ := trodAll_cons r3
  obtain ⟨rfl, rfl, rfl⟩ := trodAll_nil r4
  obtain rfl : args = #[v0, v1, v2, v3, v4] := by cases args; simp_all
  obtain ⟨A0, n0, c0, l0, rfl, m0, R0, H0⟩ := open_node_list (hval 0 22 v0 rfl rfl) h0 (fun x hx => hlt x (by simp [hx]))
  obtain ⟨A1, n1, c1, l1, rfl, m1, R1, H1⟩ := open_int_list (hval 1 23 v1 rfl rfl) h1 (fun x hx => hlt x (by simp [hx]))
  obtain ⟨a2, rfl, rfl, rfl, wf2⟩ := open_int Try.underlying3 (hval 2 3 v2 rfl rfl) h2
  obtain ⟨a3, rfl, rfl, rfl, wf3⟩ := open_int Try.underlying3 (hval 3 3 v3 rfl rfl) h3
  obtain ⟨A4, n4, c4, l4, rfl, m4, R4, H4⟩ := open_int_list (hval 4 23 v4 rfl rfl) h4 (fun x hx => hlt x (by simp [hx]))
  exact ⟨⟨rfl, rfl, rfl⟩, walk l0 A0 n0 c0 l1 A1 n1 c1 a2 a3 l4 A4 n4 c4 W m0 R0 H0 m1 R1 H1 wf2 wf3 m4 R4 H4⟩

theorem over : Rows.fnExactForeignHandlesRow.holds Try.pinned (OpenSpec.ofChange Rows.fnExactForeignHandlesSpec) :=
  OpenClaim.holds_of_wide 11 Try.f11 rfl rfl rfl rfl rfl rfl rfl ⟨rfl, rfl, rfl, rfl, rfl⟩ rfl rfl rfl rfl rfl (by kernel_rfl) Try.func11 (by kernel_rfl)
    (of_decide_eq_true (by kernel_rfl)) (by unfold Func.isWrapper; first | (rw [if_pos (by decide +kernel)]; kernel_rfl) | (rw [if_neg (by decide +kernel)]; exact ⟨rfl, rfl⟩))
    (fun os started H enc _ => lifted os started H enc)

theorem proved : Rows.FnExactForeignHandlesSaid := over
#print axioms proved
end Go.Proofs.Ytomoigbhikihfaa.fnExactForeignHandles
