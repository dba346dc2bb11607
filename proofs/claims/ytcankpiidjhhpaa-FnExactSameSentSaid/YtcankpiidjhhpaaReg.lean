/- Small facts for regions that draw their order: a whole block written anew. -/
import Derived.Test.YtcankpiidjhhpaaCore
import Derived.Laws.CopyOwn
namespace Go.Proofs.Ytcankpiidjhhpaa
open Go Go.ChangeShapes Go.WideShapes Go.ChangeAt Go.RowKit Go.Lib
set_option linter.unusedVariables false
theorem box_row {w : World} {g : Nat} {t : TypeId} {old cs : Array Value} (h : BoxAt w g t old) : BoxAt (w.setRow g cs) g t cs := setRow_heap w g old cs t (0, 0) h
theorem box_far {w : World} {g k : Nat} {t : TypeId} {old cs : Array Value} (h : BoxAt w k t old) (hne : k ≠ g) : BoxAt (w.setRow g cs) k t old := (setRow_other w g k cs hne).trans h
theorem chg_row (w : World) (g : Nat) (cs : Array Value) : Chg g (g + 1) w (w.setRow g cs) :=
 ⟨rfl, rfl, rfl, by simp, fun k _ hn => setRow_other w g k cs (by omega)⟩
end Go.Proofs.Ytcankpiidjhhpaa
