/- slices.Grow of nil and slices.Concat at integers: a new slice of all that the slices hold, in order. -/
import Derived.Test.YtblmdjdaiilmmaaApp
import Derived.Lib.AppendZeros
namespace Go.Proofs.Ytblmdjdaiilmmaa
open Go Go.ChangeShapes Go.WideShapes Go.ChangeAt Go.RowKit Go.Lib
set_option linter.unusedVariables false
set_option maxRecDepth 100000

theorem info_int' : (Try.prog.info? 3).map (fun i => (i.zero, i.size, i.bytes)) = some (some (.int .i64 0), 1, 8) := by kernel_rfl
theorem own_zeros (w : World) (n cap : Nat) (hn : n ≤ cap) (hm : cap ≤ maxLen) :
    (w.alloc (.cells (Builtin.zeroCells (Value.int .i64 0).cells n ++ Builtin.zeroCells (Value.int .i64 0).cells (cap - n)) 3)).ownsRow w.heap.size 3 1 (.slice (some ⟨w.heap.size, 0, none⟩) 0 cap) 0 [] :=
  World.ownsRow_made w _ cap (Nat.le_refl _) hm (by
    rw [Array.size_append, size_zeroCells, size_zeroCells]
    have h : (Value.int .i64 0).cells.size = 1 := rfl
    rw [h]; omega)
/-- A slice of integers that is an element: its address, length, capacity and what it reads as. -/
structure SlV where
  A : Option Addr
  n : Nat
  c : Nat
  l : List Int
def SlV.val (s : SlV) : Value := .slice s.A s.n s.c
def catL (ss : List SlV) : List Int := ss.flatMap SlV.l
def catN (ss : List SlV) : Nat := (catL ss).length
theorem catL_snoc {ss : List SlV} {k : Nat} {x : SlV} (h : ss[k]? = some x) : catL (ss.take (k + 1)) = catL (ss.take k) ++ x.l := by
  unfold catL
  rw [List.take_add_one, h, List.flatMap_append]; simp
theorem catN_snoc {ss : List SlV} {k : Nat} {x : SlV} (h : ss[k]? = some x) (hn : x.l.length = x.n) : catN (ss.take (k + 1)) = catN (ss.take k) + x.n := by
  unfold catN
  rw [catL_snoc h, List.length_append, hn]
theorem catN_take (ss : List SlV) (k : Nat) : catN (ss.take k) ≤ catN ss := by
  unfold catN catL
  conv => rhs; rw [← List.take_append_drop k ss, List.flatMap_append, List.length_append]
  omega

end Go.Proofs.Ytblmdjdaiilmmaa
