/- spec.l5Copy: a new slice of the same nodes. -/
import Derived.Test.YtomoigbhikihfaaENode
namespace Go.Proofs.Ytomoigbhikihfaa
open Go Go.ChangeShapes Go.WideShapes Go.ChangeAt Go.RowKit Go.Lib
set_option linter.unusedVariables false
set_option linter.unusedSimpArgs false
set_option maxRecDepth 100000
theorem l5_copy (l : List TNode) (A : Option Addr) (n c lo hi : Nat) (w : World) (hn : n ≤ 1048576) (hr : Rd w lo hi 5 A n (cNode l)) :
    Calls Try.prog 52 #[.slice A n c] w (MakesO 54 5 n (cNode l) w) := by
  have HR := Lib.hid hr
  have HO := Lib.hid (World.ownsRow_lit (e := 54) (size := 5) w #[] 0 (Nat.le_refl _) (by unfold maxLen; omega) rfl)
  clear hr
  go_enter Try.func52, Try.ntmps52
  go_wp2_with (at_builtin; refine wp_app rfl _ _ _ rfl w.heap.size 54 (.agg #[.int .i64 0, .int .i64 0, .int .i64 0, .int .i64 0, .int .i64 0]) 5 40 Try.underlying25 icNode rfl (by decide) _ _ _ rfl HO.out lo hi A n c (cNode l) rfl (HR.out.alloc _) (ocNode l) (by unfold maxLen; omega) (by omega) (by simp) ?_; intro v1 w1 ho1 hb1 _ _; have HO1 := Lib.hid ho1; have HB1 := Lib.hid (((Below.refl w.heap.size w).alloc (Nat.le_refl _) _).trans hb1); clear ho1 hb1)
  go_ret
  exact ⟨_, rfl, by simpa using HO1.out, HB1.out⟩
end Go.Proofs.Ytomoigbhikihfaa
