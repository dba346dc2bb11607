/- Cell, what is needed of it. -/
import Derived.Test.YtkedacmpmancbaaGreatDoorVCore
namespace Go.Proofs.YtkedacmpmancbaaGreatDoor
open Go Go.ChangeShapes Go.WideShapes Go.ChangeAt Go.RowKit Go.Lib
set_option linter.unusedVariables false
end Go.Proofs.YtkedacmpmancbaaGreatDoor
