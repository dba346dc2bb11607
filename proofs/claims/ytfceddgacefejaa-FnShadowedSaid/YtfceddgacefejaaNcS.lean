/- NeverChosen of the model. -/
import Derived.Test.YtfceddgacefejaaNcM
import Derived.Test.YtfceddgacefejaaRule
import Derived.Deep.LoopGhost
namespace Go.Proofs.Ytfceddgacefejaa
open Go Go.ChangeShapes Go.WideShapes Go.ChangeAt Go.RowKit Go.Lib
set_option linter.unusedVariables false
set_option linter.unusedSimpArgs false
set_option maxRecDepth 100000
/-- Of the first k rules those that are never chosen. -/
def ncTo (l : List TRule) (S : List Int) (k : Nat) : List Int := (rangeI 0 k).filter fun i => (match l[i.toNat]? with | some r => mIsRule r | none => false) && !(S.any fun z => z == i)
theorem ncTo_snoc (l : List TRule) (S : List Int) {k : Nat} {r : TRule} (hr : l[k]? = some r) : ncTo l S (k + 1) = if (mIsRule r && !(S.any fun z => z == (k : Int))) = true then ncTo l S k ++ [(k : Int)] else ncTo l S k := by
  unfold ncTo
  have e : rangeI 0 (k + 1) = rangeI 0 k ++ [(k : Int)] := by
    unfold rangeI; rw [List.range_succ, List.map_append, List.map_cons, List.map_nil, Int.zero_add]
  rw [e, List.filter_append, List.filter_cons, List.filter_nil]
  simp only [Int.toNat_natCast, hr]
  split <;> simp
theorem ncTo_len (l : List TRule) (S : List Int) (k : Nat) : (ncTo l S k).length ≤ k := Nat.le_trans (List.length_filter_le _ _) (Nat.le_of_eq (rangeI_len _ _))
end Go.Proofs.Ytfceddgacefejaa
