/- Plain facts on the remainder of two integers, for the laws on Mod. -/
import Derived.Test.YtcankpiidjhhpaaRows
namespace Go.Proofs.Ytcankpiidjhhpaa
theorem tmod_lo (a m : Int) (h : 0 < m) : -m < a.tmod m := by
 have := Int.lt_tmod_of_pos a h; omega
theorem tmod_hi (a m : Int) (h : 0 < m) : a.tmod m < m := Int.tmod_lt_of_pos a h
theorem tmod_add_neg (a m : Int) (h : 0 < m) (h3 : a.tmod m < 0) : (a.tmod m + m).tmod m = a.tmod m + m := by
 have := tmod_lo a m h
 rw [Int.tmod_eq_emod_of_nonneg (by omega), Int.emod_eq_of_lt (by omega) (by omega)]
theorem tmod_add_nonneg (a m : Int) (h : 0 < m) (h3 : 0 ≤ a.tmod m) : (a.tmod m + m).tmod m = a.tmod m := by
 have := tmod_hi a m h
 rw [Int.tmod_eq_emod_of_nonneg (by omega), Int.add_emod_right, Int.emod_eq_of_lt (by omega) (by omega)]
end Go.Proofs.Ytcankpiidjhhpaa
