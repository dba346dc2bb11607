/- BytesToInts, of the program and of the model, answer the length and then each byte. -/
import Derived.Test.YtfceddgacefejaaApp
namespace Go.Proofs.Ytfceddgacefejaa
open Go Go.ChangeShapes Go.WideShapes Go.ChangeAt Go.RowKit Go.Lib
set_option linter.unusedVariables false
set_option maxRecDepth 100000

theorem info_int : (Try.prog.info? 3).map (fun i => (i.zero, i.size, i.bytes)) = some (some (.int .i64 0), 1, 8) := by kernel_rfl
def mB2I (l : List Int) : List Int := (l.length : Int) :: l
theorem mB2I_len (l : List Int) : (mB2I l).length = l.length + 1 := rfl
theorem one_int (z : Int) : ∀ u ∈ (#[Value.int .i64 z]).toList, u.oneCell' = true := by
 intro u hu
 simp only [List.mem_singleton] at hu
 subst hu
 rfl

theorem b2i_step {l : List Int} {k : Nat} {z : Int} (n0 : Nat) (hz : l[k]? = some z) : i64s ((n0 : Int) :: l.take k) ++ (#[Value.int .i64 z]).toList = i64s ((n0 : Int) :: l.take (k + 1)) := by
 rw [List.take_add_one, hz]
 simp
theorem b2i_end {l : List Int} {n : Nat} (h : l.length = n) : ((n : Int) :: l.take n) = mB2I l := by
 rw [← h, List.take_length]; rfl
end Go.Proofs.Ytfceddgacefejaa
