/- The program's own FormatInt answers the decimal numeral of every int; it asks the table of powers of ten. -/
import Derived.Test.YtlnmgfbfpjfddaaDoorDFrame
import Derived.Test.YtlnmgfbfpjfddaaDoorShelf
namespace Go.Proofs.YtlnmgfbfpjfddaaDoor
open Go Go.RowKit Go.Lib

theorem below_new (w : World) (k : Nat) (os : Array Obj) : Below w.heap.size w (Sort.grow (w.drewN k) os) :=
  ⟨rfl, rfl, rfl, by simp [Sort.grow, World.drewN], fun i hi => by
    show (w.heap ++ os)[i]? = _
    rw [Array.getElem?_append_left hi]⟩

theorem format_impl (n : Int) (w : World) (hlo : -9223372036854775808 ≤ n) (hhi : n ≤ 9223372036854775807) (hT : Pow10 w) :
    Calls Tryd.prog 57 #[.int .i64 n] w fun e w' => e = .returned (.string ⟨(itoa n).toArray⟩) ∧ Below w.heap.size w w' := by
  have hT' : Lib.TabIs Tryd.prog w "internal/strconv.uint64pow10" .u64 Lib.pow10Tab := hT
  have H := Lib.hid hT'
  clear hT hT'
  go_enter Tryd.func57, Tryd.ntmps57
  go_wp2_with fail
  refine (Tryd.strconv_Itoa n hlo hhi _ H.out).mono ?_
  rintro e w1 ⟨rfl, k, os, rfl⟩
  go_wp2_with fail
  go_ret
  exact ⟨rfl, below_new _ _ _⟩
end Go.Proofs.YtlnmgfbfpjfddaaDoor
