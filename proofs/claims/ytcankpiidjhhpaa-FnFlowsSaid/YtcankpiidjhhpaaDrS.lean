/- Draws of sites and patterns. No condition of its own. -/
import Derived.Test.YtcankpiidjhhpaaDrw
import Derived.Test.YtcankpiidjhhpaaTSite
import Derived.Test.YtcankpiidjhhpaaTPattern
namespace Go.Proofs.Ytcankpiidjhhpaa
open Go Go.ChangeShapes Go.WideShapes Go.ChangeAt Go.RowKit Go.Lib
set_option linter.unusedVariables false
set_option linter.unusedSimpArgs false
set_option maxRecDepth 100000
set_option maxHeartbeats 8000000 in
theorem raw_any (g n cap : Nat) (A : Option Addr) (w : World) (hn : n ≤ maxLen) (hc : Cur w g A n cap) :
    Calls Try.prog 101 #[.pointer (some ⟨g, 0, none⟩)] w (Num g A n cap (-9223372036854775808) 9223372036854775807 w) := by
  have HC := Lib.hid hc
  have HLT := hc.lt
  have HG := Lib.hid (World.grownBy.refl w (some g))
  clear hc
  go_enter Try.func101, Try.ntmps101
  have Lt0 := Lib.hid (show BoxAt (w.alloc (.cells #[.int .i64 (-2), .int .i64 (-1), .int .i64 0, .int .i64 9, .int .i64 10, .int .i64 9223372036854775807, .int .i64 (-9223372036854775808)] 3)) w.heap.size 3 #[.int .i64 (-2), .int .i64 (-1), .int .i64 0, .int .i64 9, .int .i64 10, .int .i64 9223372036854775807, .int .i64 (-9223372036854775808)] from by simpa using box_new w 3 #[.int .i64 (-2), .int .i64 (-1), .int .i64 0, .int .i64 9, .int .i64 10, .int .i64 9223372036854775807, .int .i64 (-9223372036854775808)])
  have aLt0 : w.heap.size ≤ w.heap.size := by have := HG.out.size; (try simp at this); omega
  replace HC := Lib.hid (HC.out.new (.cells #[.int .i64 (-2), .int .i64 (-1), .int .i64 0, .int .i64 9, .int .i64 10, .int .i64 9223372036854775807, .int .i64 (-9223372036854775808)] 3))
  replace HG := Lib.hid (dr_al HG.out (.cells #[.int .i64 (-2), .int .i64 (-1), .int .i64 0, .int .i64 9, .int .i64 10, .int .i64 9223372036854775807, .int .i64 (-9223372036854775808)] 3))
  go_wp2_with fail
  refine Calls.mono (int_any g n cap A [-2, -1, 0, 9, 10, 9223372036854775807, -9223372036854775808] w.heap.size (-9223372036854775808) (9223372036854775807) _ hn HC.out (by omega) Lt0.out (by decide) (by decide) (by decide)) ?_
  rintro e w1 ⟨y, hya, hyb, rfl, hc, hg⟩
  replace Lt0 := Lib.hid (Lt0.out.grown hg (by omega))
  have lLt0 : w.heap.size < w1.heap.size := Lt0.out.lt
  replace HC := Lib.hid hc
  replace HG := Lib.hid (grown_both HG.out hg)
  have s1 : w.heap.size ≤ w1.heap.size := HG.out.size
  clear hc hg
  clear Lt0
  go_wp2_with fail
  go_ret
  exact ⟨y, hya, hyb, rfl, HC.out, HG.out⟩
end Go.Proofs.Ytcankpiidjhhpaa
