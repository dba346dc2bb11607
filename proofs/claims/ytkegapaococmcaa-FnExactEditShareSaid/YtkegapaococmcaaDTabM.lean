/- Slices of Tab: marked. No condition of its own. -/
import Derived.Test.YtkegapaococmcaaDTab
namespace Go.Proofs.Ytkegapaococmcaa
open Go Go.ChangeShapes Go.WideShapes Go.ChangeAt Go.RowKit Go.Lib
set_option linter.unusedVariables false
set_option linter.unusedSimpArgs false
set_option maxRecDepth 100000
set_option maxHeartbeats 4000000

end Go.Proofs.Ytkegapaococmcaa
