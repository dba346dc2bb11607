/- Mod, what is needed of it. -/
import Derived.Test.YtcankpiidjhhpaaRows
namespace Go.Proofs.Ytcankpiidjhhpaa
theorem tmod_lo (a m : Int) (h : 0 < m) : -m < a.tmod m := by
 have := Int.lt_tmod_of_pos a h; omega
theorem tmod_hi (a m : Int) (h : 0 < m) : a.tmod m < m := Int.tmod_lt_of_pos a h
end Go.Proofs.Ytcankpiidjhhpaa
