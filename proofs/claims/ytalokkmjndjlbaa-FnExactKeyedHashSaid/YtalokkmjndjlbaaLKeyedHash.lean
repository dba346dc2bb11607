/- The law FnExactKeyedHash answers true for every argument, and leaves each argument as it was. No condition. -/
import Derived.Test.YtalokkmjndjlbaaSlI
import Derived.Test.YtalokkmjndjlbaaKHash
namespace Go.Proofs.Ytalokkmjndjlbaa.fnExactKeyedHash
open Go Go.ChangeShapes Go.WideShapes Go.ChangeAt Go.RowKit Go.Lib
open Go.ChangeMaps (open_string)
set_option linter.unusedVariables false
set_option maxRecDepth 100000

set_option maxRecDepth 100000 in
set_option maxHeartbeats 1000000 in
theorem walk (a0 : Int) (l1 : List Int) (A1 : Option Addr) (n1 c1 : Nat) (w : World) (wf0 : (Lit.int .i64 a0).wf = true) (hm1 : n1 ≤ maxLen) (R1 : Rd w 0 w.heap.size 1 A1 n1 (i64s l1)) (H1 : Hid (I64s l1)) :
    Calls Try.prog 5 #[.int .i64 a0, .slice A1 n1 c1] w fun e w' => e = .returned (.bool true) ∧ Below w.heap.size w w' := by
  have hm1 : n1 ≤ 9223372036854775807 := hm1
  have Wf0 := Lib.hid wf0
  clear wf0
  by_cases hn1 : n1 ≤ 1048576
  · skip
    go_enter Try.func5, Try.ntmps5
    go_wp2_with fail
    refine (to_int l1 A1 n1 c1 _ _ _ (by omega) R1).mono ?_
    rintro e w1 ⟨T1, tc1, rfl, FT1, B1⟩
    replace R1 := R1.new B1
    have G := B1
    have S1 := Lib.hid B1.size
    clear B1
    go_wp2_with fail
    refine (spec_KeyedHash a0 l1 T1 n1 tc1 _ _ _ Wf0.out (by omega) FT1.rd H1).mono ?_
    rintro e w2 ⟨rfl, B2⟩
    replace R1 := R1.new B2
    replace FT1 := FT1.new B2
    replace G := below_trans G B2 (Nat.le_refl _)
    have S2 := Lib.hid B2.size
    clear B2
    clear FT1
    go_wp2_with fail
    refine (to_int l1 A1 n1 c1 _ _ _ (by omega) R1).mono ?_
    rintro e w3 ⟨T3, tc3, rfl, FT3, B3⟩
    replace R1 := R1.new B3
    replace G := below_trans G B3 (Nat.le_refl _)
    have S3 := Lib.hid B3.size
    clear B3
    go_wp2_with fail
    refine (impl_KeyedHash a0 l1 T3 n1 tc3 _ _ _ Wf0.out (by omega) FT3.rd H1).mono ?_
    rintro e w4 ⟨rfl, B4⟩
    replace R1 := R1.new B4
    replace FT3 := FT3.new B4
    replace G := below_trans G B4 (Nat.le_refl _)
    have S4 := Lib.hid B4.size
    clear B4
    go_wp2_with fail
    refine (to_int l1 A1 n1 c1 _ _ _ (by omega) R1).mono ?_
    rintro e w5 ⟨T5, tc5, rfl, FT5, B5⟩
    replace R1 := R1.new B5
    replace FT3 := FT3.new B5
    replace G := below_trans G B5 (Nat.le_refl _)
    have S5 := Lib.hid B5.size
    clear B5
    go_wp2_with fail
    refine (eq_int_same l1 T3 T5 n1 n1 tc3 tc5 _ _ _ _ _ (by omega) (by omega) FT3.rd FT5.rd).mono ?_
    rintro e w6 hq
    obtain ⟨rfl, B6⟩ := hq.says
    replace R1 := R1.new B6
    replace FT3 := FT3.new B6
    replace FT5 := FT5.new B6
    replace G := below_trans G B6 (Nat.le_refl _)
    have S6 := Lib.hid B6.size
    clear B6
    clear FT5
    go_wp2_with fail
    go_ret
    exact ⟨rfl, G⟩
  · go_enter Try.func5, Try.ntmps5
    go_wp2_with fail
    go_ret
    exact ⟨rfl, by repeat (first | exact Below.refl _ _ | (refine Below.alloc ?_ (by simp <;> omega) _))⟩

set_option maxRecDepth 100000 in
theorem lifted (os : Os) (started : os.Started) (H : Type) (enc : TypeId × Value → H) :
    ReturnsInHanded {} Try.checked os 5 .any (Rows.fnExactKeyedHashSpec.pre6 enc Try.prog Try.f5 Rows.fnExactKeyedHashRow.domain false) (Rows.fnExactKeyedHashSpec.post enc Try.prog Try.f5 false true false false) := by
  refine law_lifted Try.func5 (by kernel_rfl) rfl rfl (by kernel_rfl) os started
    (ChangeSpec.witness6 (enc := enc) (C := Try.checked) false ⟨#[], #[.int .i64 0, .slice none 0 0], []⟩ 8 (by kernel_rfl) (by kernel_rfl) (by kernel_rfl) (by kernel_rfl)) ?_
  intro W base args ds p hval hA hlt
  rw [Try.params5] at hA hval
  obtain ⟨v0, vs0, d0, ds0, p0, q0, hargs, rfl, rfl, h0, r0⟩ := trodAll_cons hA
  obtain ⟨v1, vs1, d1, ds1, p1, q1, rfl, rfl, rfl, h1, r1⟩ := trodAll_cons r0
  obtain ⟨rfl, rfl, rfl⟩ := trodAll_nil r1
  obtain rfl : args = #[v0, v1] := by cases args; simp_all
  obtain ⟨a0, rfl, rfl, rfl, wf0⟩ := open_int Try.underlying3 (hval 0 3 v0 rfl rfl) h0
  obtain ⟨A1, n1, c1, l1, rfl, m1, R1, H1⟩ := open_int_list (hval 1 28 v1 rfl rfl) h1 (fun x hx => hlt x (by simp [hx]))
  exact ⟨⟨rfl, rfl, rfl⟩, walk a0 l1 A1 n1 c1 W wf0 m1 R1 H1⟩

theorem over : Rows.fnExactKeyedHashRow.holds Try.pinned (OpenSpec.ofChange Rows.fnExactKeyedHashSpec) :=
  OpenClaim.holds_of_wide 5 Try.f5 rfl rfl rfl rfl rfl rfl rfl ⟨rfl, rfl, rfl, rfl, rfl⟩ rfl rfl rfl rfl rfl (by kernel_rfl) Try.func5 (by kernel_rfl)
    (of_decide_eq_true (by kernel_rfl)) (by unfold Func.isWrapper; first | (rw [if_pos (by decide +kernel)]; kernel_rfl) | (rw [if_neg (by decide +kernel)]; exact ⟨rfl, rfl⟩))
    (fun os started H enc _ => lifted os started H enc)

theorem proved : Rows.FnExactKeyedHashSaid := over
#print axioms proved
end Go.Proofs.Ytalokkmjndjlbaa.fnExactKeyedHash
