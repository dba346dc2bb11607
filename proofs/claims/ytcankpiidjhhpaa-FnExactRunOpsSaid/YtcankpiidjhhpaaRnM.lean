/- RunOps: what is sent of what the machine sends. Lists alone. -/
import Derived.Test.YtcankpiidjhhpaaMcM
import Derived.Test.YtcankpiidjhhpaaCgM
namespace Go.Proofs.Ytcankpiidjhhpaa
open Go Go.ChangeShapes Go.WideShapes Go.ChangeAt Go.RowKit Go.Lib
set_option linter.unusedVariables false
set_option linter.unusedSimpArgs false
set_option maxRecDepth 100000

def mayS (flows : List TFlow) (e : Int) (s : TSent) : Bool := mMayF flows e s.f2 s.f0
def mRnF (flows : List TFlow) (e : Int) (s : List TSent) : List TSent := s.filter (mayS flows e)
def mRunO (l : List TOp) (values : List Int) (flows : List TFlow) (e : Int) : List TSent := if mAreOps l then mRnF flows e (mMc values l).s else []
theorem mRnF_snoc (flows : List TFlow) (e : Int) (s : List TSent) (x : TSent) : mRnF flows e (s ++ [x]) = if mayS flows e x = true then mRnF flows e s ++ [x] else mRnF flows e s := by
  unfold mRnF
  rw [List.filter_append]
  by_cases h : mayS flows e x = true
  · rw [if_pos h]; simp [h]
  · rw [if_neg h]; simp [h]
theorem mRnF_len (flows : List TFlow) (e : Int) (s : List TSent) : (mRnF flows e s).length ≤ s.length := List.length_filter_le _ _
theorem mcs_len (vals : List Int) : ∀ (l : List TOp), (mMc vals l).s.length ≤ l.length := by
  have key : ∀ (l : List TOp) (x : MMc), (l.foldl (mStep vals) x).s.length ≤ x.s.length + l.length := by
    intro l
    induction l with
    | nil => intro x; simp
    | cons o l ih =>
      intro x
      refine Nat.le_trans (ih _) ?_
      have : (mStep vals x o).s.length ≤ x.s.length + 1 := by
        simp only [mStep, List.length_append]
        unfold mSd
        split <;> simp
      simp only [List.length_cons]
      omega
  intro l
  have := key l mMc0
  simpa [mMc, mMc0] using this
theorem mRunO_len (l : List TOp) (values : List Int) (flows : List TFlow) (e : Int) : (mRunO l values flows e).length ≤ 16 := by
  unfold mRunO
  split
  · rename_i h
    simp only [mAreOps, Bool.and_eq_true, decide_eq_true_eq] at h
    have h1 := mRnF_len flows e (mMc values l).s
    have h2 := mcs_len values l
    omega
  · simp
end Go.Proofs.Ytcankpiidjhhpaa
