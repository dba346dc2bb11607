/- Sums of strings as lists of bytes. -/
import Derived.Test.YtlnmgfbfpjfddaaDoorCore
import Derived.Test.YtlnmgfbfpjfddaaDoorFmt
import Derived.Test.YtlnmgfbfpjfddaaDoorFmtImpl
import Derived.Test.YtlnmgfbfpjfddaaDoorDFrame
import Derived.Laws.Concat
namespace Go.Proofs.YtlnmgfbfpjfddaaDoor
open Go Go.ChangeShapes Go.WideShapes Go.ChangeAt Go.RowKit Go.Lib
set_option linter.unusedVariables false
set_option linter.unusedSimpArgs false
set_option maxRecDepth 100000
theorem itoa_in {y : Int} (h : -9223372036854775808 ≤ y ∧ y ≤ 9223372036854775807) : (itoa y).length ≤ 20 := itoa_len y h.1 h.2
theorem cat_lists (x y : List UInt8) (hx : x.length ≤ 1000) (hy : y.length ≤ 1000) (W : World) : (Op.stringOp .add ⟨x.toArray⟩ ⟨y.toArray⟩).run Tryd.prog W = .ok (.string ⟨(x ++ y).toArray⟩) W :=
  run_string_add_lists W x y (by omega) (by omega)
theorem says_impl (n : Int) (h : -9223372036854775808 ≤ n ∧ n ≤ 9223372036854775807) (V : World) (hT : Pow10 V) : Calls Tryd.prog 57 #[.int .i64 n] V (Says (.string ⟨(itoa n).toArray⟩) V) := format_impl n V h.1 h.2 hT
end Go.Proofs.YtlnmgfbfpjfddaaDoor
