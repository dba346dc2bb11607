/- ApplyEdit, of the program and of the model, as the law calls it. -/
import Derived.Test.YtomoigbhikihfaaAplD
import Derived.Test.YtomoigbhikihfaaAplT
namespace Go.Proofs.Ytomoigbhikihfaa
open Go Go.ChangeShapes Go.WideShapes Go.ChangeAt Go.RowKit Go.Lib
set_option linter.unusedVariables false
set_option maxRecDepth 100000
theorem mApply_len {l : List TNode} {e : TEdit} (h : cNodeOk l) (he : TEdit.fit e) : (mApply l e).length ≤ l.length + 16 := Nat.le_trans (apply_len h he (M := l.length + 16) (by omega) (by omega)) (Nat.le_refl _)
theorem spec_ApplyEdit (l0 : List TNode) (A0 : Option Addr) (n0 c0 lo0 hi0 : Nat) (a1 : TEdit) (w : World) (h0 : n0 ≤ 1048576) (r0 : Rd w lo0 hi0 5 A0 n0 (cNode l0)) (p0 : n0 ≤ c0) (b0 : Hid (cNodeOk l0)) (f1 : Hid a1.fit) :
    Calls Try.prog 53 #[.slice A0 n0 c0, .agg #[.int .i64 a1.f0, .int .i64 a1.f1, .int .i64 a1.f2, .int .i64 a1.f3, .int .i64 a1.f4, .int .i64 a1.f5]] w (MakesV 54 5 (mApply l0 a1).length (cNode (mApply l0 a1)) (.bool (mEdited l0 a1).isSome) w) :=
  spec_apply a1 l0 A0 n0 c0 lo0 hi0 w h0 r0 p0 b0 f1
theorem impl_ApplyEditC (l0 : List TNode) (A0 : Option Addr) (n0 c0 lo0 hi0 : Nat) (a1 : TEdit) (w : World) (h0 : n0 ≤ 1048576) (r0 : Rd w lo0 hi0 5 A0 n0 (cNode l0)) (p0 : n0 ≤ c0) (b0 : Hid (cNodeOk l0)) (f1 : Hid a1.fit) :
    Calls Try.prog 55 #[.slice A0 n0 c0, .agg #[.int .i64 a1.f0, .int .i64 a1.f1, .int .i64 a1.f2, .int .i64 a1.f3, .int .i64 a1.f4, .int .i64 a1.f5]] w (MakesV 54 5 (mApply l0 a1).length (cNode (mApply l0 a1)) (.bool (mEdited l0 a1).isSome) w) :=
  apply_any a1 l0 A0 n0 c0 lo0 hi0 w h0 r0 b0 f1
end Go.Proofs.Ytomoigbhikihfaa
