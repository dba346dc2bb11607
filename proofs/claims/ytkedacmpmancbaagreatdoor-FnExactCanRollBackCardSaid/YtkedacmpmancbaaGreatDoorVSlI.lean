/- SlI, what is needed of it. -/
import Derived.Test.YtkedacmpmancbaaGreatDoorVSlG
namespace Go.Proofs.YtkedacmpmancbaaGreatDoor
open Go Go.ChangeShapes Go.WideShapes Go.ChangeAt Go.RowKit Go.Lib
set_option linter.unusedVariables false
set_option maxRecDepth 100000
end Go.Proofs.YtkedacmpmancbaaGreatDoor
