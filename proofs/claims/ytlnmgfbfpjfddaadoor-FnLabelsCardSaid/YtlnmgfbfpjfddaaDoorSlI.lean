/- The laws' own helpers on slices of integers: copied, compared, marked, and the marks looked for. -/
import Derived.Test.YtlnmgfbfpjfddaaDoorSlG
namespace Go.Proofs.YtlnmgfbfpjfddaaDoor
open Go Go.ChangeShapes Go.WideShapes Go.ChangeAt Go.RowKit Go.Lib
set_option linter.unusedVariables false
set_option maxRecDepth 100000
section
variable {H : Type} {enc : TypeId × Value → H}
theorem open_int_list {W : World} {base : Nat} {v : Value} {d : DataW H} {p : List MemPlace} (hv : Value.okWide Tryd.prog W .any base 40 v)
  (h : DataW.Trod enc Tryd.prog W 0 (fun _ => true) true 40 v d p) (hlt : ∀ x ∈ p, x.block < W.heap.size) :
  ∃ (A : Option Addr) (n cap : Nat) (l : List Int), v = .slice A n cap ∧ n ≤ maxLen ∧ Rd W 0 W.heap.size 1 A n (i64s l) ∧ Hid (I64s l) := by
 obtain ⟨A, n, cap, l, h1, h2, h3, h4⟩ := open_num_list Tryd.underlying40 Tryd.underlying3 (by kernel_rfl) hv h hlt
 exact ⟨A, n, cap, l, h1, h2, h3, fun z hz => by have := bounds_i64 (h4 z hz); omega⟩
end
end Go.Proofs.YtlnmgfbfpjfddaaDoor
