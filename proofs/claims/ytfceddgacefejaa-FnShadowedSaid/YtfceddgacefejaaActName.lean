/- ActionName, of the program and of the model. -/
import Derived.Test.YtfceddgacefejaaIn
namespace Go.Proofs.Ytfceddgacefejaa
open Go Go.ChangeShapes Go.WideShapes Go.ChangeAt Go.RowKit Go.Lib
set_option linter.unusedVariables false
set_option maxRecDepth 100000
def mActName (a : Int) : ByteArray := if (a == 1) = true then ⟨#[97, 108, 108, 111, 119]⟩ else if (a == 2) = true then ⟨#[98, 108, 111, 99, 107]⟩ else if (a == 3) = true then ⟨#[115, 101, 110, 100]⟩ else ⟨#[]⟩
end Go.Proofs.Ytfceddgacefejaa
