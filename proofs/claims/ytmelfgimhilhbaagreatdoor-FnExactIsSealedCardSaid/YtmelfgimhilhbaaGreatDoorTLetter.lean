/- The laws' own helpers on slices of Letter: copied, compared, marked, and the marks looked for. -/
import Derived.Test.YtmelfgimhilhbaaGreatDoorRws
import Derived.StillTailTactics
namespace Go.Proofs.YtmelfgimhilhbaaGreatDoor
open Go Go.ChangeShapes Go.WideShapes Go.ChangeAt Go.RowKit Go.Lib
set_option linter.unusedVariables false
set_option linter.unusedSimpArgs false
set_option maxRecDepth 100000

structure TLetter where
  f0 : Int
  f1 : Int
  f2 : Int
  f3 : Int
deriving DecidableEq
def TLetter.cells (x : TLetter) : List Value := [.int .i64 x.f0, .int .i64 x.f1, .int .i64 x.f2, .int .i64 x.f3]
abbrev cLetter (d : List TLetter) : List Value := d.flatMap TLetter.cells
theorem TLetter.len (x : TLetter) : x.cells.length = 4 := rfl
def TLetter.fit (x : TLetter) : Prop := (-9223372036854775808 ≤ x.f0 ∧ x.f0 ≤ 9223372036854775807) ∧ (-9223372036854775808 ≤ x.f1 ∧ x.f1 ≤ 9223372036854775807) ∧ (-9223372036854775808 ≤ x.f2 ∧ x.f2 ≤ 9223372036854775807) ∧ (-9223372036854775808 ≤ x.f3 ∧ x.f3 ≤ 9223372036854775807)
def cLetterOk (d : List TLetter) : Prop := ∀ x ∈ d, TLetter.fit x
/-- The marks of one element, from k on. -/
def TLetter.mark (k : Nat) : TLetter := ⟨((k + 0 : Nat) : Int), ((k + 1 : Nat) : Int), ((k + 2 : Nat) : Int), ((k + 3 : Nat) : Int)⟩
def TLetter.marks (k n : Nat) : List TLetter := (List.range n).map fun i => TLetter.mark (k + i * 4)
theorem TLetter.marks_len (k n : Nat) : (TLetter.marks k n).length = n := by simp [TLetter.marks]
theorem TLetter.marks_get (k n i : Nat) (h : i < n) : (TLetter.marks k n)[i]? = some (TLetter.mark (k + i * 4)) := by simp [TLetter.marks, h]

theorem TLetter.mark_eq (k0 k : Nat) : TLetter.mark (k0 + k * 4) = ⟨(k0 : Int) + k * 4, (k0 : Int) + k * 4 + 1, (k0 : Int) + k * 4 + 2, (k0 : Int) + k * 4 + 3⟩ := by
  unfold TLetter.mark
  congr 1 <;> (first | omega | (congr 2; omega) | skip)
section
variable {H : Type} {enc : TypeId × Value → H} {w : World} {base fuel : Nat} {spare : Nat → Bool} {held : Bool}
end

section
variable {H : Type} {enc : TypeId × Value → H}
end

end Go.Proofs.YtmelfgimhilhbaaGreatDoor
