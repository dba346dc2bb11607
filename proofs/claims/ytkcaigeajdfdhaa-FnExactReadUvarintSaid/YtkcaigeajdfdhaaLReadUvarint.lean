/- The law FnExactReadUvarint answers true for every argument, and leaves each argument as it was. No condition. -/
import Derived.Test.YtkcaigeajdfdhaaSlB
import Derived.Test.YtkcaigeajdfdhaaRdL
namespace Go.Proofs.Ytkcaigeajdfdhaa.fnExactReadUvarint
open Go Go.ChangeShapes Go.WideShapes Go.ChangeAt Go.RowKit Go.Lib
open Go.ChangeMaps (open_string)
set_option linter.unusedVariables false
set_option maxRecDepth 100000

set_option maxRecDepth 100000 in
set_option maxHeartbeats 1000000 in
theorem walk (l0 : List Int) (A0 : Option Addr) (n0 c0 : Nat) (a1 : Int) (w : World) (hm0 : n0 ≤ maxLen) (R0 : Rd w 0 w.heap.size 1 A0 n0 (u8s l0)) (H0 : Hid (U8s l0)) (wf1 : (Lit.int .i64 a1).wf = true) :
    Calls Try.prog 6 #[.slice A0 n0 c0, .int .i64 a1] w fun e w' => e = .returned (.bool true) ∧ Below w.heap.size w w' := by
  have hm0 : n0 ≤ 9223372036854775807 := hm0
  have Wf1 := Lib.hid wf1
  clear wf1
  by_cases hn0 : n0 ≤ 1048576
  · skip
    go_enter Try.func6, Try.ntmps6
    go_wp2_with fail
    refine (to_byte l0 A0 n0 c0 _ _ _ (by omega) R0).mono ?_
    rintro e w1 ⟨T1, tc1, rfl, FT1, B1⟩
    replace R0 := R0.new B1
    have G := B1
    have S1 := Lib.hid B1.size
    clear B1
    go_wp2_with fail
    refine (spec_ReadUvarint l0 T1 n0 tc1 _ _ a1 _ (by omega) FT1.rd FT1.cap H0 Wf1.out).mono ?_
    rintro e w2 ⟨rfl, B2⟩
    replace R0 := R0.new B2
    replace FT1 := FT1.new B2
    replace G := below_trans G B2 (Nat.le_refl _)
    have S2 := Lib.hid B2.size
    clear B2
    clear FT1
    go_wp2_with fail
    refine (to_byte l0 A0 n0 c0 _ _ _ (by omega) R0).mono ?_
    rintro e w3 ⟨T3, tc3, rfl, FT3, B3⟩
    replace R0 := R0.new B3
    replace G := below_trans G B3 (Nat.le_refl _)
    have S3 := Lib.hid B3.size
    clear B3
    go_wp2_with fail
    refine (impl_ReadUvarintC l0 T3 n0 tc3 _ _ a1 _ (by omega) FT3.rd FT3.cap H0 Wf1.out).mono ?_
    rintro e w4 ⟨rfl, B4⟩
    replace R0 := R0.new B4
    replace FT3 := FT3.new B4
    replace G := below_trans G B4 (Nat.le_refl _)
    have S4 := Lib.hid B4.size
    clear B4
    go_wp2_with fail
    refine (to_byte l0 A0 n0 c0 _ _ _ (by omega) R0).mono ?_
    rintro e w5 ⟨T5, tc5, rfl, FT5, B5⟩
    replace R0 := R0.new B5
    replace FT3 := FT3.new B5
    replace G := below_trans G B5 (Nat.le_refl _)
    have S5 := Lib.hid B5.size
    clear B5
    go_wp2_with fail
    refine (eq_byte_same l0 T3 T5 n0 n0 tc3 tc5 _ _ _ _ _ (by omega) (by omega) FT3.rd FT5.rd).mono ?_
    rintro e w6 hq
    obtain ⟨rfl, B6⟩ := hq.says
    replace R0 := R0.new B6
    replace FT3 := FT3.new B6
    replace FT5 := FT5.new B6
    replace G := below_trans G B6 (Nat.le_refl _)
    have S6 := Lib.hid B6.size
    clear B6
    clear FT5
    go_wp2_with fail
    go_ret
    exact ⟨rfl, G⟩
  · go_enter Try.func6, Try.ntmps6
    go_wp2_with fail
    go_ret
    exact ⟨rfl, by repeat (first | exact Below.refl _ _ | (refine Below.alloc ?_ (by simp <;> omega) _))⟩

set_option maxRecDepth 100000 in
theorem lifted (os : Os) (started : os.Started) (H : Type) (enc : TypeId × Value → H) :
    ReturnsInHanded {} Try.checked os 6 .any (Rows.fnExactReadUvarintSpec.pre6 enc Try.prog Try.f6 Rows.fnExactReadUvarintRow.domain false) (Rows.fnExactReadUvarintSpec.post enc Try.prog Try.f6 false true false false) := by
  refine law_lifted Try.func6 (by kernel_rfl) rfl rfl (by kernel_rfl) os started
    (ChangeSpec.witness6 (enc := enc) (C := Try.checked) false ⟨#[], #[.slice none 0 0, .int .i64 0], []⟩ 8 (by kernel_rfl) (by kernel_rfl) (by kernel_rfl) (by kernel_rfl)) ?_
  intro W base args ds p hval hA hlt
  rw [Try.params6] at hA hval
  obtain ⟨v0, vs0, d0, ds0, p0, q0, hargs, rfl, rfl, h0, r0⟩ := trodAll_cons hA
  obtain ⟨v1, vs1, d1, ds1, p1, q1, rfl, rfl, rfl, h1, r1⟩ := trodAll_cons r0
  obtain ⟨rfl, rfl, rfl⟩ := trodAll_nil r1
  obtain rfl : args = #[v0, v1] := by cases args; simp_all
  obtain ⟨A0, n0, c0, l0, rfl, m0, R0, H0⟩ := open_byte_list (hval 0 22 v0 rfl rfl) h0 (fun x hx => hlt x (by simp [hx]))
  obtain ⟨a1, rfl, rfl, rfl, wf1⟩ := open_int Try.underlying3 (hval 1 3 v1 rfl rfl) h1
  exact ⟨⟨rfl, rfl, rfl⟩, walk l0 A0 n0 c0 a1 W m0 R0 H0 wf1⟩

theorem over : Rows.fnExactReadUvarintRow.holds Try.pinned (OpenSpec.ofChange Rows.fnExactReadUvarintSpec) :=
  OpenClaim.holds_of_wide 6 Try.f6 rfl rfl rfl rfl rfl rfl rfl ⟨rfl, rfl, rfl, rfl, rfl⟩ rfl rfl rfl rfl rfl (by kernel_rfl) Try.func6 (by kernel_rfl)
    (of_decide_eq_true (by kernel_rfl)) (by unfold Func.isWrapper; first | (rw [if_pos (by decide +kernel)]; kernel_rfl) | (rw [if_neg (by decide +kernel)]; exact ⟨rfl, rfl⟩))
    (fun os started H enc _ => lifted os started H enc)

theorem proved : Rows.FnExactReadUvarintSaid := over
#print axioms proved
end Go.Proofs.Ytkcaigeajdfdhaa.fnExactReadUvarint
