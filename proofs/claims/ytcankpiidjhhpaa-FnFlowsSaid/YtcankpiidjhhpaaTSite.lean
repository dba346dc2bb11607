/- The laws' own helpers on slices of Site: copied, compared, marked, and the marks looked for. -/
import Derived.Test.YtcankpiidjhhpaaRws
import Derived.StillTailTactics
namespace Go.Proofs.Ytcankpiidjhhpaa
open Go Go.ChangeShapes Go.WideShapes Go.ChangeAt Go.RowKit Go.Lib
set_option linter.unusedVariables false
set_option maxRecDepth 100000

structure TSite where
 f0 : Int
 f1 : Int
deriving DecidableEq
def TSite.cells (x : TSite) : List Value := [.int .i64 x.f0, .int .i64 x.f1]
abbrev cSite (d : List TSite) : List Value := d.flatMap TSite.cells
theorem TSite.len (x : TSite) : x.cells.length = 2 := rfl
def TSite.fit (x : TSite) : Prop := (-9223372036854775808 ≤ x.f0 ∧ x.f0 ≤ 9223372036854775807) ∧ (-9223372036854775808 ≤ x.f1 ∧ x.f1 ≤ 9223372036854775807)
def cSiteOk (d : List TSite) : Prop := ∀ x ∈ d, TSite.fit x
/-- The marks of one element, from k on. -/
def TSite.mark (k : Nat) : TSite := ⟨((k + 0 : Nat) : Int), ((k + 1 : Nat) : Int)⟩
def TSite.marks (k n : Nat) : List TSite := (List.range n).map fun i => TSite.mark (k + i * 2)
theorem TSite.marks_len (k n : Nat) : (TSite.marks k n).length = n := by simp [TSite.marks]
theorem TSite.marks_get (k n i : Nat) (h : i < n) : (TSite.marks k n)[i]? = some (TSite.mark (k + i * 2)) := by simp [TSite.marks, h]

theorem TSite.mark_eq (k0 k : Nat) : TSite.mark (k0 + k * 2) = ⟨(k0 : Int) + k * 2, (k0 : Int) + k * 2 + 1⟩ := by
 unfold TSite.mark
 congr 1 <;> (first | omega | (congr 2; omega) | skip)
section
variable {H : Type} {enc : TypeId × Value → H} {w : World} {base fuel : Nat} {spare : Nat → Bool} {held : Bool}
end

section
variable {H : Type} {enc : TypeId × Value → H}
end

end Go.Proofs.Ytcankpiidjhhpaa
