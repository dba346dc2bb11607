/- The laws' own helpers on slices of bytes: copied, compared, marked, and the marks looked for. -/
import Derived.Test.YteldjnjjdjlpnaaDoorSlG
namespace Go.Proofs.YteldjnjjdjlpnaaDoor
open Go Go.ChangeShapes Go.WideShapes Go.ChangeAt Go.RowKit Go.Lib
set_option linter.unusedVariables false
set_option maxRecDepth 100000
section
variable {H : Type} {enc : TypeId × Value → H}
theorem open_byte_list {W : World} {base : Nat} {v : Value} {d : DataW H} {p : List MemPlace} (hv : Value.okWide Tryd.prog W .any base 22 v)
    (h : DataW.Trod enc Tryd.prog W 0 (fun _ => true) true 22 v d p) (hlt : ∀ x ∈ p, x.block < W.heap.size) :
    ∃ (A : Option Addr) (n cap : Nat) (l : List Int), v = .slice A n cap ∧ n ≤ maxLen ∧ Rd W 0 W.heap.size 1 A n (u8s l) ∧ Hid (U8s l) := by
  obtain ⟨A, n, cap, l, h1, h2, h3, h4⟩ := open_num_list Tryd.underlying22 Tryd.underlying5 (by kernel_rfl) hv h hlt
  exact ⟨A, n, cap, l, h1, h2, h3, fun z hz => by have := bounds_u8 (h4 z hz); omega⟩
end
end Go.Proofs.YteldjnjjdjlpnaaDoor
