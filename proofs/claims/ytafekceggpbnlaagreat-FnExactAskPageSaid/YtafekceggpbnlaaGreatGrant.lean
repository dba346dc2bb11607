/- Grants: whether one is valid, and what it covers, of the program and of the model. -/
import Derived.Test.YtafekceggpbnlaaGreatSite
import Derived.Test.YtafekceggpbnlaaGreatTGrant
namespace Go.Proofs.YtafekceggpbnlaaGreat
open Go Go.ChangeShapes Go.WideShapes Go.ChangeAt Go.RowKit Go.Lib
set_option linter.unusedVariables false
set_option linter.unusedSimpArgs false
set_option maxRecDepth 100000
abbrev vGrant (x : TGrant) : Value := .agg #[.int .i64 x.f0, .int .i64 x.f1, .int .i64 x.f2, .int .i64 x.f3, .int .i64 x.f4, .int .i64 x.f5, .bool x.f6]
def mIsGrant (g : TGrant) : Bool := inR g.f0 1 5 && mIsPattern ⟨g.f1, g.f2⟩ && inR g.f3 1 4 && decide (0 ≤ g.f4) && decide (g.f4 ≤ g.f5) && decide (g.f5 ≤ 10000)
def mCovers (g : TGrant) (ext : Int) (s : TSite) (kind tick : Int) (clicked : Bool) : Bool :=
  mIsGrant g && g.f0 == ext && g.f3 == kind && mMatchSite ⟨g.f1, g.f2⟩ s && inR tick g.f4 g.f5 && (clicked || !g.f6)

end Go.Proofs.YtafekceggpbnlaaGreat
