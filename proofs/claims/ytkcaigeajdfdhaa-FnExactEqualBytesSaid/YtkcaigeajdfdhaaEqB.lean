/- EqualBytes, of the program and of the model, answer whether the two lists of bytes are one. -/
import Derived.Test.YtkcaigeajdfdhaaSleqB
import Derived.Test.YtkcaigeajdfdhaaConv
namespace Go.Proofs.Ytkcaigeajdfdhaa
open Go Go.ChangeShapes Go.WideShapes Go.ChangeAt Go.RowKit Go.Lib
set_option linter.unusedVariables false
set_option maxRecDepth 100000
theorem impl_EqualBytes (l0 : List Int) (A0 : Option Addr) (n0 c0 lo0 hi0 : Nat) (l1 : List Int) (A1 : Option Addr) (n1 c1 lo1 hi1 : Nat) (w : World)
    (h0 : n0 ≤ 1048576) (r0 : Rd w lo0 hi0 1 A0 n0 (u8s l0)) (b0 : Hid (U8s l0)) (h1 : n1 ≤ 1048576) (r1 : Rd w lo1 hi1 1 A1 n1 (u8s l1)) (b1 : Hid (U8s l1)) :
    Calls Try.prog 40 #[.slice A0 n0 c0, .slice A1 n1 c1] w (Says (.bool (decide (l0 = l1))) w) := by
  go_enter Try.func40, Try.ntmps40
  go_wp2_with fail
  refine (sleq_byte l0 l1 A0 A1 n0 n1 c0 c1 _ _ _ _ _ (by omega) (by omega) r0 r1).mono ?_
  rintro e w1 ⟨rfl, d, rfl⟩
  go_wp2_with fail
  go_ret
  exact ⟨rfl, below_dN (Below.refl _ _) _⟩
theorem spec_EqualBytes (l0 : List Int) (A0 : Option Addr) (n0 c0 lo0 hi0 : Nat) (l1 : List Int) (A1 : Option Addr) (n1 c1 lo1 hi1 : Nat) (w : World)
    (h0 : n0 ≤ 1048576) (r0 : Rd w lo0 hi0 1 A0 n0 (u8s l0)) (b0 : Hid (U8s l0)) (h1 : n1 ≤ 1048576) (r1 : Rd w lo1 hi1 1 A1 n1 (u8s l1)) (b1 : Hid (U8s l1)) :
    Calls Try.prog 39 #[.slice A0 n0 c0, .slice A1 n1 c1] w (Says (.bool (decide (l0 = l1))) w) := by
  have e0 := conv_rd c0 r0
  have e1 := conv_rd c1 r1
  have e2 := strOfNums_eq b0.out b1.out
  go_enter Try.func39, Try.ntmps39
  go_wp2_with fail
  go_ret
  exact ⟨rfl, Below.refl _ _⟩
end Go.Proofs.Ytkcaigeajdfdhaa
