/- The laws' own helpers on slices of Request: copied, compared, marked, and the marks looked for. -/
import Derived.Test.YtcankpiidjhhpaaRws
import Derived.Test.YtcankpiidjhhpaaTSite
import Derived.StillTailTactics
namespace Go.Proofs.Ytcankpiidjhhpaa
open Go Go.ChangeShapes Go.WideShapes Go.ChangeAt Go.RowKit Go.Lib
set_option linter.unusedVariables false
set_option linter.unusedSimpArgs false
set_option maxRecDepth 100000

structure TRequest where
 f0 : Int
 f1 : Int
 f2 : Int
deriving DecidableEq
def TRequest.cells (x : TRequest) : List Value := [.int .i64 x.f0, .int .i64 x.f1, .int .i64 x.f2]
abbrev cRequest (d : List TRequest) : List Value := d.flatMap TRequest.cells
theorem TRequest.len (x : TRequest) : x.cells.length = 3 := rfl
def TRequest.fit (x : TRequest) : Prop := (-9223372036854775808 ≤ x.f0 ∧ x.f0 ≤ 9223372036854775807) ∧ (-9223372036854775808 ≤ x.f1 ∧ x.f1 ≤ 9223372036854775807) ∧ (-9223372036854775808 ≤ x.f2 ∧ x.f2 ≤ 9223372036854775807)
def cRequestOk (d : List TRequest) : Prop := ∀ x ∈ d, TRequest.fit x
/-- The marks of one element, from k on. -/
def TRequest.mark (k : Nat) : TRequest := ⟨((k + 0 : Nat) : Int), ((k + 1 : Nat) : Int), ((k + 2 : Nat) : Int)⟩
def TRequest.marks (k n : Nat) : List TRequest := (List.range n).map fun i => TRequest.mark (k + i * 3)
theorem TRequest.marks_len (k n : Nat) : (TRequest.marks k n).length = n := by simp [TRequest.marks]
theorem TRequest.marks_get (k n i : Nat) (h : i < n) : (TRequest.marks k n)[i]? = some (TRequest.mark (k + i * 3)) := by simp [TRequest.marks, h]

theorem TRequest.mark_eq (k0 k : Nat) : TRequest.mark (k0 + k * 3) = ⟨(k0 : Int) + k * 3, (k0 : Int) + k * 3 + 1, (k0 : Int) + k * 3 + 2⟩ := by
 unfold TRequest.mark
 congr 1 <;> (first | omega | (congr 2; omega) | skip)
section
variable {H : Type} {enc : TypeId × Value → H} {w : World} {base fuel : Nat} {spare : Nat → Bool} {held : Bool}
end

section
variable {H : Type} {enc : TypeId × Value → H}
end

end Go.Proofs.Ytcankpiidjhhpaa
