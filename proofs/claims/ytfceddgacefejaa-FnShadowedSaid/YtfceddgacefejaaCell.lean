/- A cell of a block written anew. -/
import Derived.Test.YtfceddgacefejaaCore
namespace Go.Proofs.Ytfceddgacefejaa
open Go Go.ChangeShapes Go.WideShapes Go.ChangeAt Go.RowKit Go.Lib
set_option linter.unusedVariables false
theorem bx_cell {w : World} {g j : Nat} {t : TypeId} {cs : Array Value} {u : Value} (h : BoxAt w g t cs) : BoxAt (w.setCell ⟨g, j, none⟩ u) g t (cs.setIfInBounds j u) := by
 unfold BoxAt at *
 simp [World.setCell, Array.getElem?_modify, h]
theorem bx_cell_far {w : World} {g k j : Nat} {t : TypeId} {cs : Array Value} {u : Value} (h : BoxAt w k t cs) (hne : k ≠ g) : BoxAt (w.setCell ⟨g, j, none⟩ u) k t cs :=
 (Below.heap_setCell w ⟨g, j, none⟩ u k hne).trans h
end Go.Proofs.Ytfceddgacefejaa
