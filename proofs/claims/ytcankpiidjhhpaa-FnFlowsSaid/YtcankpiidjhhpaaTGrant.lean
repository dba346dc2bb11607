/- The laws' own helpers on slices of Grant: copied, compared, marked, and the marks looked for. -/
import Derived.Test.YtcankpiidjhhpaaRws
import Derived.Test.YtcankpiidjhhpaaTPattern
import Derived.StillTailTactics
namespace Go.Proofs.Ytcankpiidjhhpaa
open Go Go.ChangeShapes Go.WideShapes Go.ChangeAt Go.RowKit Go.Lib
set_option linter.unusedVariables false
set_option maxRecDepth 100000

structure TGrant where
 f0 : Int
 f1 : Int
 f2 : Int
 f3 : Int
 f4 : Int
 f5 : Int
 f6 : Bool
deriving DecidableEq
def TGrant.cells (x : TGrant) : List Value := [.int .i64 x.f0, .int .i64 x.f1, .int .i64 x.f2, .int .i64 x.f3, .int .i64 x.f4, .int .i64 x.f5, .bool x.f6]
abbrev cGrant (d : List TGrant) : List Value := d.flatMap TGrant.cells
theorem TGrant.len (x : TGrant) : x.cells.length = 7 := rfl
def TGrant.fit (x : TGrant) : Prop := (-9223372036854775808 ≤ x.f0 ∧ x.f0 ≤ 9223372036854775807) ∧ (-9223372036854775808 ≤ x.f1 ∧ x.f1 ≤ 9223372036854775807) ∧ (-9223372036854775808 ≤ x.f2 ∧ x.f2 ≤ 9223372036854775807) ∧ (-9223372036854775808 ≤ x.f3 ∧ x.f3 ≤ 9223372036854775807) ∧ (-9223372036854775808 ≤ x.f4 ∧ x.f4 ≤ 9223372036854775807) ∧ (-9223372036854775808 ≤ x.f5 ∧ x.f5 ≤ 9223372036854775807)
def cGrantOk (d : List TGrant) : Prop := ∀ x ∈ d, TGrant.fit x
/-- The marks of one element, from k on. -/
def TGrant.mark (k : Nat) : TGrant := ⟨((k + 0 : Nat) : Int), ((k + 1 : Nat) : Int), ((k + 2 : Nat) : Int), ((k + 3 : Nat) : Int), ((k + 4 : Nat) : Int), ((k + 5 : Nat) : Int), ((((k + 6 : Nat) : Int) % 3) == 0)⟩
def TGrant.marks (k n : Nat) : List TGrant := (List.range n).map fun i => TGrant.mark (k + i * 7)
theorem TGrant.marks_len (k n : Nat) : (TGrant.marks k n).length = n := by simp [TGrant.marks]
theorem TGrant.marks_get (k n i : Nat) (h : i < n) : (TGrant.marks k n)[i]? = some (TGrant.mark (k + i * 7)) := by simp [TGrant.marks, h]

theorem TGrant.mark_eq (k0 k : Nat) : TGrant.mark (k0 + k * 7) = ⟨(k0 : Int) + k * 7, (k0 : Int) + k * 7 + 1, (k0 : Int) + k * 7 + 2, (k0 : Int) + k * 7 + 3, (k0 : Int) + k * 7 + 4, (k0 : Int) + k * 7 + 5, ((((k0 : Int) + k * 7 + 6) % 3) == 0)⟩ := by
 unfold TGrant.mark
 congr 1 <;> (first | omega | (congr 2; omega) | skip)
section
variable {H : Type} {enc : TypeId × Value → H} {w : World} {base fuel : Nat} {spare : Nat → Bool} {held : Bool}
end

section
variable {H : Type} {enc : TypeId × Value → H}
end

end Go.Proofs.Ytcankpiidjhhpaa
