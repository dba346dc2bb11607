/- Max and Min, of the program and of the model, with what was there left as it was. -/
import Derived.Test.YteldjnjjdjlpnaaDoorIn
import Derived.Deep.LoopGhost
import Derived.Handy
namespace Go.Proofs.YteldjnjjdjlpnaaDoor
open Go Go.ChangeShapes Go.WideShapes Go.ChangeAt Go.RowKit Go.Lib
set_option linter.unusedVariables false
set_option linter.unusedSimpArgs false
set_option maxRecDepth 100000
def mMax (a b : Int) : Int := if a < b then b else a
def mMin (a b : Int) : Int := if b < a then b else a
end Go.Proofs.YteldjnjjdjlpnaaDoor
