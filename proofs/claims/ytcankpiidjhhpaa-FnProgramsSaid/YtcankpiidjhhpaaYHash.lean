/- Hash, what is needed of it. -/
import Derived.Test.YtcankpiidjhhpaaYGa
import Derived.Test.YtcankpiidjhhpaaYMod
namespace Go.Proofs.Ytcankpiidjhhpaa
open Go Go.ChangeShapes Go.WideShapes Go.ChangeAt Go.RowKit Go.Lib
set_option linter.unusedVariables false
set_option maxRecDepth 100000

theorem tmod_emod (a m : Int) : (a.tmod m + m) % m = a % m := by
 have h := Int.tmod_add_mul_tdiv a m
 rw [Int.add_emod_right]
 conv => rhs; rw [← h]
 rw [Int.add_mul_emod_self_left]
theorem mod_pos {a m : Int} (hm : 0 < m) (h : ¬ a.tmod m < 0) : a.tmod m = a % m := by
 have h1 := tmod_hi a m hm
 have h2 := tmod_emod a m
 rw [Int.add_emod_right, Int.emod_eq_of_lt (by omega) h1] at h2
 exact h2
theorem mod_neg {a m : Int} (hm : 0 < m) (h : a.tmod m < 0) : a.tmod m + m = a % m := by
 have h1 := tmod_lo a m hm
 have h2 := tmod_emod a m
 rw [Int.emod_eq_of_lt (by omega) (by omega)] at h2
 exact h2
theorem impl_mod (a m : Int) (w : World) (h1 : 1 ≤ m) (h2 : m ≤ 1000000000000) (w0 : (Lit.int .i64 a).wf = true) :
  Calls Try.prog 116 #[.int .i64 a, .int .i64 m] w fun e w' => e = .returned (.int .i64 (a % m)) ∧ w = w' := by
 have hr := bounds_i64 w0
 have b1 := tmod_lo a m (by omega)
 have b2 := tmod_hi a m (by omega)
 by_cases h3 : a.tmod m < 0
 ·
  have e1 := Lib.hid (mod_neg (show 0 < m by omega) h3)
  go_enter Try.func116, Try.ntmps116
  go_wp2
  all_goals go_ret
  all_goals exact ⟨by rw [← e1.out]; rfl, rfl⟩
 ·
  have e1 := Lib.hid (mod_pos (show 0 < m by omega) h3)
  go_enter Try.func116, Try.ntmps116
  go_wp2
  all_goals go_ret
  all_goals exact ⟨by rw [← e1.out]; rfl, rfl⟩
end Go.Proofs.Ytcankpiidjhhpaa
