/- DecideRule, of the program and of the model. -/
import Derived.Test.YthipflbjnnplaaaApplies
import Derived.Test.YthipflbjnnplaaaBeforeS
import Derived.Test.YthipflbjnnplaaaFun
import Derived.Deep.RegionHeld3
import Derived.Deep.LoopGhost
namespace Go.Proofs.Ythipflbjnnplaaa
open Go Go.ChangeShapes Go.WideShapes Go.ChangeAt Go.RowKit Go.Lib
set_option linter.unusedVariables false
set_option linter.unusedSimpArgs false
set_option maxRecDepth 100000
/-- The place of the foremost of the first k elements of which p holds, or -1. -/
def bestOf {α : Type} (p : α → Bool) (lt : α → α → Bool) (l : List α) : Nat → Int
  | 0 => -1
  | k + 1 => match l[k]? with
    | none => bestOf p lt l k
    | some x => if p x && (decide (bestOf p lt l k < 0) || (match l[(bestOf p lt l k).toNat]? with | some y => lt x y | none => false)) then (k : Int) else bestOf p lt l k
section
variable {α : Type} {p : α → Bool} {lt : α → α → Bool} {l : List α} {k m : Nat} {x y : α}
theorem best_bd (k : Nat) : -1 ≤ bestOf p lt l k ∧ bestOf p lt l k < k := by
  induction k with
  | zero => exact ⟨by simp [bestOf], by simp [bestOf]⟩
  | succ k ih =>
    rw [bestOf]
    split
    · omega
    · split <;> omega
theorem best_no (hz : l[k]? = some x) (hq : p x = false) : bestOf p lt l (k + 1) = bestOf p lt l k := by
  rw [bestOf, hz]; simp [hq]
theorem best_first (hz : l[k]? = some x) (hq : p x = true) (hb : bestOf p lt l k = -1) : bestOf p lt l (k + 1) = k := by
  rw [bestOf, hz]; simp [hq, hb]
theorem best_yes (hz : l[k]? = some x) (hq : p x = true) (hb : bestOf p lt l k = (m : Int)) (hy : l[m]? = some y) (hl : lt x y = true) : bestOf p lt l (k + 1) = k := by
  rw [bestOf, hz]; simp [hq, hb, hy, hl]
theorem best_less (hz : l[k]? = some x) (hq : p x = true) (hb : bestOf p lt l k = (m : Int)) (hy : l[m]? = some y) (hl : lt x y = false) : bestOf p lt l (k + 1) = m := by
  rw [bestOf, hz]; simp [hq, hb, hy, hl]; intro; omega
end
def mDecide (l : List TRule) (q : TRequest) : Int := bestOf (fun r => mApplies r q) mIsBefore l l.length
theorem decide_bd (l : List TRule) (q : TRequest) : -1 ≤ mDecide l q ∧ mDecide l q < l.length := best_bd _

theorem rd_at8 {w : World} {lo hi n m b off : Nat} {l : List TRule} {y : TRule} (h : Rd w lo hi 8 (some ⟨b, off, none⟩) n (cRule l)) (hl : l.length = n) (hy : l[m]? = some y) (hm : m < n) :
    ∀ (j : Nat) (u : Value), (TRule.cells y)[j]? = some u → w.cell? ⟨b, off + m * 8 + j, none⟩ = some u := by
  obtain ⟨b', off', y', e, _, _, hz, hc⟩ := rd_elem TRule.len h hl hm
  cases e
  rw [hy] at hz
  cases hz
  exact hc

end Go.Proofs.Ythipflbjnnplaaa
