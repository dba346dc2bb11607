/- FollowRequest of the model. -/
import Derived.Test.YtfceddgacefejaaFolI
import Derived.Deep.RegionHeld3
import Derived.Deep.LoopGhost
namespace Go.Proofs.Ytfceddgacefejaa
open Go Go.ChangeShapes Go.WideShapes Go.ChangeAt Go.RowKit Go.Lib
set_option linter.unusedVariables false
set_option linter.unusedSimpArgs false
set_option maxRecDepth 100000
theorem got_place {l : List TRule} {q : TRequest} (h : mDecides l q = true) : ∃ m : Nat, mDecide l q = (m : Int) ∧ l[m]? = some (mGot l q) := by
  unfold mDecides at h
  have h0 := of_decide_eq_true h
  have hb := decide_bd l q
  have hlt : (mDecide l q).toNat < l.length := by omega
  refine ⟨(mDecide l q).toNat, by omega, ?_⟩
  unfold mGot
  rw [if_neg (by omega), List.getElem?_eq_getElem hlt]; rfl
end Go.Proofs.Ytfceddgacefejaa
