/- Max and Min, of the program and of the model, with what was there left as it was. -/
import Derived.Test.YtlnmgfbfpjfddaaIn
import Derived.Deep.LoopGhost
import Derived.Handy
namespace Go.Proofs.Ytlnmgfbfpjfddaa
open Go Go.ChangeShapes Go.WideShapes Go.ChangeAt Go.RowKit Go.Lib
set_option linter.unusedVariables false
set_option linter.unusedSimpArgs false
set_option maxRecDepth 100000
def mMax (a b : Int) : Int := if a < b then b else a
def mMin (a b : Int) : Int := if b < a then b else a
theorem impl_Max (a b : Int) (w : World) : Calls Try.prog 122 #[.int .i64 a, .int .i64 b] w (Says (.int .i64 (mMax a b)) w) := by
  by_cases h1 : a < b
  · have HE := Lib.hid (show mMax a b = b by unfold mMax; rw [if_pos h1])
    go_enter Try.func122, Try.ntmps122
    go_wp2
    go_rounds 2
    all_goals go_ret
    all_goals exact ⟨by rw [HE.out]; rfl, by repeat (first | exact Below.refl _ _ | apply Below.drew | refine Below.alloc ?_ (Nat.le_refl _) _)⟩
  · have HE := Lib.hid (show mMax a b = a by unfold mMax; rw [if_neg h1])
    have h2 : b ≤ a := by omega
    go_enter Try.func122, Try.ntmps122
    go_wp2
    go_rounds 2
    all_goals go_ret
    all_goals exact ⟨by rw [HE.out]; rfl, by repeat (first | exact Below.refl _ _ | apply Below.drew | refine Below.alloc ?_ (Nat.le_refl _) _)⟩

theorem impl_Min (a b : Int) (w : World) : Calls Try.prog 123 #[.int .i64 a, .int .i64 b] w (Says (.int .i64 (mMin a b)) w) := by
  by_cases h1 : b < a
  · have HE := Lib.hid (show mMin a b = b by unfold mMin; rw [if_pos h1])
    go_enter Try.func123, Try.ntmps123
    go_wp2
    go_rounds 2
    all_goals go_ret
    all_goals exact ⟨by rw [HE.out]; rfl, by repeat (first | exact Below.refl _ _ | apply Below.drew | refine Below.alloc ?_ (Nat.le_refl _) _)⟩
  · have HE := Lib.hid (show mMin a b = a by unfold mMin; rw [if_neg h1])
    have h2 : a ≤ b := by omega
    go_enter Try.func123, Try.ntmps123
    go_wp2
    go_rounds 2
    all_goals go_ret
    all_goals exact ⟨by rw [HE.out]; rfl, by repeat (first | exact Below.refl _ _ | apply Below.drew | refine Below.alloc ?_ (Nat.le_refl _) _)⟩

end Go.Proofs.Ytlnmgfbfpjfddaa
