/- The calls of FnLabels, their answers named. No condition of its own. -/
import Derived.Test.YtlnmgfbfpjfddaaDoorLbM
namespace Go.Proofs.YtlnmgfbfpjfddaaDoor
open Go Go.ChangeShapes Go.WideShapes Go.ChangeAt Go.RowKit Go.Lib
theorem isl_eq (x : Int) (v : Bool) (h : mIsLabel x = v) (W : World) : Calls Tryd.prog 17 #[.int .i64 x] W (Says (.bool v) W) := h ▸ impl_IsLabel x W
theorem jl_eq (x y z : Int) (h : mJoin x y = z) (W : World) (wx : (Lit.int .i64 x).wf = true) (wy : (Lit.int .i64 y).wf = true) : Calls Tryd.prog 16 #[.int .i64 x, .int .i64 y] W (Says (.int .i64 z) W) := h ▸ impl_JoinLabels x y W wx wy
theorem lw_eq (x y : Int) (v : Bool) (h : mLWith x y = v) (W : World) (wx : (Lit.int .i64 x).wf = true) (wy : (Lit.int .i64 y).wf = true) : Calls Tryd.prog 20 #[.int .i64 x, .int .i64 y] W (Says (.bool v) W) := h ▸ impl_LabelWithin x y W wx wy
theorem lo_eq (l : List Int) (A : Option Addr) (n c lo hi : Nat) (z : Int) (w : World) (h : ((mLabS l 9 : Nat) : Int) = z) (hn : n ≤ 1048576) (hr : Rd w lo hi 1 A n (i64s l)) (b0 : Hid (I64s l)) : Calls Tryd.prog 18 #[.slice A n c] w (Says (.int .i64 z) w) := h ▸ impl_LabelOf l A n c lo hi w hn hr b0
theorem ct_eq (l : List Int) (A : Option Addr) (n c lo hi : Nat) (z : Int) (v : Bool) (w : World) (h : decide (z ∈ l) = v) (hn : n ≤ 1048576) (hr : Rd w lo hi 1 A n (i64s l)) : Calls Tryd.prog 21 #[.slice A n c, .int .i64 z] w (Says (.bool v) w) := h ▸ says_of_same (laws_contains l A n c lo hi z w hn hr)
end Go.Proofs.YtlnmgfbfpjfddaaDoor
