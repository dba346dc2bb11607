/- IsAllowed, of the program and of the model, answer whether some grant of the list covers the act. -/
import Derived.Test.YtafekceggpbnlaaGreatGrant
import Derived.Test.YtafekceggpbnlaaGreatFAllowed
namespace Go.Proofs.YtafekceggpbnlaaGreat
open Go Go.ChangeShapes Go.WideShapes Go.ChangeAt Go.RowKit Go.Lib
set_option linter.unusedVariables false
set_option linter.unusedSimpArgs false
set_option maxRecDepth 100000
def mAllowed (l : List TGrant) (ext : Int) (s : TSite) (kind tick : Int) (clicked : Bool) : Bool := l.any fun g => mCovers g ext s kind tick clicked
end Go.Proofs.YtafekceggpbnlaaGreat
