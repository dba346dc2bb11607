/- Cell, what is needed of it. -/
import Derived.Test.YtphhnmfgomcanaaGreatDoorQCore
namespace Go.Proofs.YtphhnmfgomcanaaGreatDoor
open Go Go.ChangeShapes Go.WideShapes Go.ChangeAt Go.RowKit Go.Lib
set_option linter.unusedVariables false
end Go.Proofs.YtphhnmfgomcanaaGreatDoor
