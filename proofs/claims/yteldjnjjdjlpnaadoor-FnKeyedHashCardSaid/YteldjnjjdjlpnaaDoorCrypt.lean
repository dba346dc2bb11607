/- Encrypt and Decrypt, of the program and of the model. -/
import Derived.Test.YteldjnjjdjlpnaaDoorKHash
import Derived.Test.YteldjnjjdjlpnaaDoorSlB
import Derived.Test.YteldjnjjdjlpnaaDoorB2I
import Derived.Test.YteldjnjjdjlpnaaDoorRws
import Derived.Deep.RegionHeld3
namespace Go.Proofs.YteldjnjjdjlpnaaDoor
open Go Go.ChangeShapes Go.WideShapes Go.ChangeAt Go.RowKit Go.Lib
set_option linter.unusedVariables false
set_option maxRecDepth 100000

/-- What the stream adds to the byte at index i. -/
def strm (key : Int) (i : Nat) : Int := mKHash key [(i : Int)]
theorem strm_bd (key : Int) (i : Nat) : 0 ≤ strm key i ∧ strm key i < 2147483647 := mKHash_bd _ _
def mCry (key f : Int) (l : List Int) : List Int := l.mapIdx fun i z => (z + f * strm key i) % 256
theorem mCry_len (key f : Int) (l : List Int) : (mCry key f l).length = l.length := by simp [mCry]
theorem mCry_get {key f : Int} {l : List Int} {k : Nat} {z : Int} (h : l[k]? = some z) : (mCry key f l)[k]? = some ((z + f * strm key k) % 256) := by
  unfold mCry
  rw [List.getElem?_mapIdx, h]; rfl

end Go.Proofs.YteldjnjjdjlpnaaDoor
