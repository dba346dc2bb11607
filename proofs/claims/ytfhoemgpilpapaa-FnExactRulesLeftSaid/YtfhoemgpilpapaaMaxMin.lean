/- Max and Min, of the program and of the model, with what was there left as it was. -/
import Derived.Test.YtfhoemgpilpapaaIn
import Derived.Deep.LoopGhost
import Derived.Handy
namespace Go.Proofs.Ytfhoemgpilpapaa
open Go Go.ChangeShapes Go.WideShapes Go.ChangeAt Go.RowKit Go.Lib
set_option linter.unusedVariables false
set_option linter.unusedSimpArgs false
set_option maxRecDepth 100000
def mMax (a b : Int) : Int := if a < b then b else a
def mMin (a b : Int) : Int := if b < a then b else a
theorem impl_Max (a b : Int) (w : World) : Calls Try.prog 66 #[.int .i64 a, .int .i64 b] w (Says (.int .i64 (mMax a b)) w) := by
  by_cases h1 : a < b
  · have HE := Lib.hid (show mMax a b = b by unfold mMax; rw [if_pos h1])
    go_enter Try.func66, Try.ntmps66
    go_wp2
    go_rounds 2
    all_goals go_ret
    all_goals exact ⟨by rw [HE.out]; rfl, by repeat (first | exact Below.refl _ _ | apply Below.drew | refine Below.alloc ?_ (Nat.le_refl _) _)⟩
  · have HE := Lib.hid (show mMax a b = a by unfold mMax; rw [if_neg h1])
    have h2 : b ≤ a := by omega
    go_enter Try.func66, Try.ntmps66
    go_wp2
    go_rounds 2
    all_goals go_ret
    all_goals exact ⟨by rw [HE.out]; rfl, by repeat (first | exact Below.refl _ _ | apply Below.drew | refine Below.alloc ?_ (Nat.le_refl _) _)⟩

theorem spec_Max (a b : Int) (w : World) : Calls Try.prog 62 #[.int .i64 a, .int .i64 b] w (Says (.int .i64 (mMax a b)) w) := by
  by_cases h1 : a < b
  · have HE := Lib.hid (show mMax a b = b by unfold mMax; rw [if_pos h1])
    go_enter Try.func62, Try.ntmps62
    go_wp2
    all_goals go_ret
    all_goals exact ⟨by rw [HE.out]; rfl, by repeat (first | exact Below.refl _ _ | apply Below.drew | refine Below.alloc ?_ (Nat.le_refl _) _)⟩
  · have HE := Lib.hid (show mMax a b = a by unfold mMax; rw [if_neg h1])
    have h2 : b ≤ a := by omega
    go_enter Try.func62, Try.ntmps62
    go_wp2
    all_goals go_ret
    all_goals exact ⟨by rw [HE.out]; rfl, by repeat (first | exact Below.refl _ _ | apply Below.drew | refine Below.alloc ?_ (Nat.le_refl _) _)⟩

end Go.Proofs.Ytfhoemgpilpapaa
