/- AFlow, what is needed of it. -/
import Derived.Test.YtcankpiidjhhpaaYGd
import Derived.Test.YtcankpiidjhhpaaYGc
namespace Go.Proofs.Ytcankpiidjhhpaa
open Go Go.ChangeShapes Go.WideShapes Go.ChangeAt Go.RowKit Go.Lib
set_option linter.unusedVariables false
set_option linter.unusedSimpArgs false
set_option maxRecDepth 100000
end Go.Proofs.Ytcankpiidjhhpaa
