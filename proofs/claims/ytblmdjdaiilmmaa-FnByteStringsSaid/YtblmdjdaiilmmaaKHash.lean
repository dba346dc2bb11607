/- KeyedHash, of the program and of the model, answer the hash of the key, the values and the key. -/
import Derived.Test.YtblmdjdaiilmmaaConcat
import Derived.Test.YtblmdjdaiilmmaaHash
namespace Go.Proofs.Ytblmdjdaiilmmaa
open Go Go.ChangeShapes Go.WideShapes Go.ChangeAt Go.RowKit Go.Lib
set_option linter.unusedVariables false
set_option maxRecDepth 100000
def mKHash (key : Int) (l : List Int) : Int := mHash (key :: (l ++ [key]))
theorem mKHash_bd (key : Int) (l : List Int) : 0 ≤ mKHash key l ∧ mKHash key l < 2147483647 := mHash_bd _
theorem i64s_key {key : Int} {l : List Int} (hk : (Lit.int .i64 key).wf = true) (h : I64s l) : Hid (I64s (key :: (l ++ [key]))) := by
  intro z hz
  simp only [List.mem_cons, List.mem_append, List.not_mem_nil, or_false] at hz
  rcases hz with rfl | hz | rfl
  · exact bounds_i64 hk
  · exact h z hz
  · exact bounds_i64 hk
end Go.Proofs.Ytblmdjdaiilmmaa
