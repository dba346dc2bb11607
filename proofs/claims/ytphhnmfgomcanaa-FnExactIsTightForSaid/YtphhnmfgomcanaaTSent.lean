/- The laws' own helpers on slices of Sent: copied, compared, marked, and the marks looked for. -/
import Derived.Test.YtphhnmfgomcanaaRws
import Derived.StillTailTactics
namespace Go.Proofs.Ytphhnmfgomcanaa
open Go Go.ChangeShapes Go.WideShapes Go.ChangeAt Go.RowKit Go.Lib
set_option linter.unusedVariables false
set_option linter.unusedSimpArgs false
set_option maxRecDepth 100000

structure TSent where
  f0 : Int
  f1 : Int
  f2 : Int
deriving DecidableEq
def TSent.cells (x : TSent) : List Value := [.int .i64 x.f0, .int .i64 x.f1, .int .i64 x.f2]
abbrev cSent (d : List TSent) : List Value := d.flatMap TSent.cells
theorem TSent.len (x : TSent) : x.cells.length = 3 := rfl
def TSent.fit (x : TSent) : Prop := (-9223372036854775808 ≤ x.f0 ∧ x.f0 ≤ 9223372036854775807) ∧ (-9223372036854775808 ≤ x.f1 ∧ x.f1 ≤ 9223372036854775807) ∧ (-9223372036854775808 ≤ x.f2 ∧ x.f2 ≤ 9223372036854775807)
def cSentOk (d : List TSent) : Prop := ∀ x ∈ d, TSent.fit x
/-- The marks of one element, from k on. -/
def TSent.mark (k : Nat) : TSent := ⟨((k + 0 : Nat) : Int), ((k + 1 : Nat) : Int), ((k + 2 : Nat) : Int)⟩
def TSent.marks (k n : Nat) : List TSent := (List.range n).map fun i => TSent.mark (k + i * 3)
theorem TSent.marks_len (k n : Nat) : (TSent.marks k n).length = n := by simp [TSent.marks]
theorem TSent.marks_get (k n i : Nat) (h : i < n) : (TSent.marks k n)[i]? = some (TSent.mark (k + i * 3)) := by simp [TSent.marks, h]

theorem TSent.mark_eq (k0 k : Nat) : TSent.mark (k0 + k * 3) = ⟨(k0 : Int) + k * 3, (k0 : Int) + k * 3 + 1, (k0 : Int) + k * 3 + 2⟩ := by
  unfold TSent.mark
  congr 1 <;> (first | omega | (congr 2; omega) | skip)
section
variable {H : Type} {enc : TypeId × Value → H} {w : World} {base fuel : Nat} {spare : Nat → Bool} {held : Bool}
end

section
variable {H : Type} {enc : TypeId × Value → H}
end

theorem equalIn_Sent (x y : TSent) (d : Nat) (w : World) :
    (Op.equalIn (d + 2) 53 (.agg #[.int .i64 x.f0, .int .i64 x.f1, .int .i64 x.f2]) (.agg #[.int .i64 y.f0, .int .i64 y.f1, .int .i64 y.f2])).run Try.prog w = .ok (decide (x = y)) w := by
  rw [run_equalIn_agg w (d + 1) 53 _ _ (by kernel_rfl) (by kernel_rfl)]
  simp only [Program.fieldsOf, Try.underlying53]
  rw [eqf_int (by decide) rfl rfl rfl, eqf_int (by decide) rfl rfl rfl, eqf_int (by decide) rfl rfl rfl]
  simp only [Op.eqFields, Sem.run_pure]
  have he : decide (x = y) = (x.f0 == y.f0 && (x.f1 == y.f1 && (x.f2 == y.f2))) := by
    cases x; cases y
    simp
    rw [Bool.eq_iff_iff]; simp
  rw [he]
  cases x.f0 == y.f0 <;> cases x.f1 == y.f1 <;> cases x.f2 == y.f2 <;> rfl
theorem neq_Sent (x y : TSent) (w : World) : (binOp .neq 53 (.agg #[.int .i64 x.f0, .int .i64 x.f1, .int .i64 x.f2]) (.agg #[.int .i64 y.f0, .int .i64 y.f1, .int .i64 y.f2])).run Try.prog w = .ok (.bool (!decide (x = y))) w := by
  rw [run_neq_struct, equalIn_Sent x y 9998 w]; rfl
theorem eql_Sent (x y : TSent) (w : World) : (binOp .eql 53 (.agg #[.int .i64 x.f0, .int .i64 x.f1, .int .i64 x.f2]) (.agg #[.int .i64 y.f0, .int .i64 y.f1, .int .i64 y.f2])).run Try.prog w = .ok (.bool (decide (x = y))) w := by
  rw [run_eql_struct, equalIn_Sent x y 9998 w]; rfl

end Go.Proofs.Ytphhnmfgomcanaa
