/- slices.IndexFunc and slices.ContainsFunc at slices of Grant, with whatever predicate that leaves what was there. -/
import Derived.Test.YtafekceggpbnlaaGreatTGrant
import Derived.Test.YtafekceggpbnlaaGreatFun
namespace Go.Proofs.YtafekceggpbnlaaGreat
open Go Go.ChangeShapes Go.WideShapes Go.ChangeAt Go.RowKit Go.Lib
set_option linter.unusedVariables false
set_option linter.unusedSimpArgs false
set_option maxRecDepth 100000
end Go.Proofs.YtafekceggpbnlaaGreat
