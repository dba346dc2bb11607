/- AppliesTo, of the program and of the model. -/
import Derived.Test.YtblmdjdaiilmmaaApplies
import Derived.Test.YtblmdjdaiilmmaaFun
import Derived.Test.YtblmdjdaiilmmaaSlI
import Derived.Test.YtblmdjdaiilmmaaApp
import Derived.Test.YtblmdjdaiilmmaaBest
import Derived.Handy
import Derived.Deep.RegionHeld3
import Derived.Deep.LoopGhost
namespace Go.Proofs.Ytblmdjdaiilmmaa
open Go Go.ChangeShapes Go.WideShapes Go.ChangeAt Go.RowKit Go.Lib
set_option linter.unusedVariables false
set_option linter.unusedSimpArgs false
set_option maxRecDepth 100000
def rangeI (a : Int) (n : Nat) : List Int := (List.range n).map fun k : Nat => a + (k : Int)
theorem rangeI_len (a : Int) (n : Nat) : (rangeI a n).length = n := by simp [rangeI]
theorem rangeI_get (a : Int) {n k : Nat} (h : k < n) : (rangeI a n)[k]? = some (a + (k : Int)) := by simp [rangeI, h]
theorem rangeI_mem {a x : Int} {n : Nat} (h : x ∈ rangeI a n) : ∃ k : Nat, k < n ∧ x = a + (k : Int) := by
  simp [rangeI] at h
  obtain ⟨k, hk, rfl⟩ := h
  exact ⟨k, hk, rfl⟩
theorem info_intN : (Try.prog.info? 3).map (fun i => (i.zero, i.size, i.bytes)) = some (some (.int .i64 0), 1, 8) := by kernel_rfl
theorem one_intN (z : Int) : ∀ u ∈ (#[Value.int .i64 z]).toList, u.oneCell' = true := by
  intro u hu
  simp only [List.mem_singleton] at hu
  subst hu
  rfl
theorem filt_snoc {α : Type} {p : α → Bool} {l : List α} {k : Nat} {x : α} (h : l[k]? = some x) : (l.take (k + 1)).filter p = if p x = true then (l.take k).filter p ++ [x] else (l.take k).filter p := by
  rw [List.take_add_one, h, Option.toList_some, List.filter_append]
  by_cases hp : p x = true <;> simp [hp]

def mAt (l : List TRule) (q : TRequest) (i : Int) : Bool := match l[i.toNat]? with | some x => mApplies x q | none => false
def mTo (l : List TRule) (q : TRequest) : List Int := (rangeI 0 l.length).filter (mAt l q)
theorem mTo_len (l : List TRule) (q : TRequest) : (mTo l q).length ≤ l.length := Nat.le_trans (List.length_filter_le _ _) (Nat.le_of_eq (rangeI_len _ _))
end Go.Proofs.Ytblmdjdaiilmmaa
