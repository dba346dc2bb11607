/- Applies, of the program and of the model. -/
import Derived.Test.YthipflbjnnplaaaRule
import Derived.Deep.RegionHeld3
namespace Go.Proofs.Ythipflbjnnplaaa
open Go Go.ChangeShapes Go.WideShapes Go.ChangeAt Go.RowKit Go.Lib
set_option linter.unusedVariables false
set_option linter.unusedSimpArgs false
set_option maxRecDepth 100000
end Go.Proofs.Ythipflbjnnplaaa
