/- What a filter and a field give, one element more. -/
import Derived.Test.YtejcioenoofjlaaGreatSorted
import Derived.Test.YtejcioenoofjlaaGreatPut
namespace Go.Proofs.YtejcioenoofjlaaGreat
open Go Go.ChangeShapes Go.WideShapes Go.ChangeAt Go.RowKit Go.Lib
set_option linter.unusedVariables false
set_option linter.unusedSimpArgs false
set_option maxRecDepth 100000
/-- Of the elements that p holds of, what f gives. -/
def mFm {α : Type} (p : α → Bool) (f : α → Int) (l : List α) : List Int := (l.filter p).map f
section
variable {α : Type} {p : α → Bool} {f : α → Int} {l : List α} {k : Nat} {x : α}
theorem fm_yes (h : l[k]? = some x) (hp : p x = true) : mFm p f (l.take (k + 1)) = mFm p f (l.take k) ++ [f x] := by
  unfold mFm; rw [List.take_add_one, h]; simp [hp]
theorem fm_no (h : l[k]? = some x) (hp : p x = false) : mFm p f (l.take (k + 1)) = mFm p f (l.take k) := by
  unfold mFm; rw [List.take_add_one, h]; simp [hp]
theorem fm_len : (mFm p f l).length ≤ l.length := by unfold mFm; rw [List.length_map]; exact List.length_filter_le _ _
theorem fm_take : (mFm p f (l.take k)).length ≤ k := Nat.le_trans fm_len (List.length_take_le _ _)
end
end Go.Proofs.YtejcioenoofjlaaGreat
