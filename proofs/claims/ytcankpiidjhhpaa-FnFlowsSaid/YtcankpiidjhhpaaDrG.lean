/- Draws of grants. No condition of its own. -/
import Derived.Test.YtcankpiidjhhpaaDrS
import Derived.Test.YtcankpiidjhhpaaTGrant
import Derived.Test.YtcankpiidjhhpaaGB
import Derived.Test.YtcankpiidjhhpaaApp
namespace Go.Proofs.Ytcankpiidjhhpaa
open Go Go.ChangeShapes Go.WideShapes Go.ChangeAt Go.RowKit Go.Lib
set_option linter.unusedVariables false
set_option linter.unusedSimpArgs false
set_option maxRecDepth 100000
end Go.Proofs.Ytcankpiidjhhpaa
