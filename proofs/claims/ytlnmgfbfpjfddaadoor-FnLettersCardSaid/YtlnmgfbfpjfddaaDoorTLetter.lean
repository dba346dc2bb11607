/- The laws' own helpers on slices of Letter: copied, compared, marked, and the marks looked for. -/
import Derived.Test.YtlnmgfbfpjfddaaDoorRws
import Derived.StillTailTactics
namespace Go.Proofs.YtlnmgfbfpjfddaaDoor
open Go Go.ChangeShapes Go.WideShapes Go.ChangeAt Go.RowKit Go.Lib
set_option linter.unusedVariables false
set_option linter.unusedSimpArgs false
set_option maxRecDepth 100000

structure TLetter where
 f0 : Int
 f1 : Int
 f2 : Int
 f3 : Int
deriving DecidableEq
def TLetter.cells (x : TLetter) : List Value := [.int .i64 x.f0, .int .i64 x.f1, .int .i64 x.f2, .int .i64 x.f3]
abbrev cLetter (d : List TLetter) : List Value := d.flatMap TLetter.cells
theorem TLetter.len (x : TLetter) : x.cells.length = 4 := rfl
def TLetter.fit (x : TLetter) : Prop := (-9223372036854775808 ≤ x.f0 ∧ x.f0 ≤ 9223372036854775807) ∧ (-9223372036854775808 ≤ x.f1 ∧ x.f1 ≤ 9223372036854775807) ∧ (-9223372036854775808 ≤ x.f2 ∧ x.f2 ≤ 9223372036854775807) ∧ (-9223372036854775808 ≤ x.f3 ∧ x.f3 ≤ 9223372036854775807)
def cLetterOk (d : List TLetter) : Prop := ∀ x ∈ d, TLetter.fit x
/-- The marks of one element, from k on. -/
def TLetter.mark (k : Nat) : TLetter := ⟨((k + 0 : Nat) : Int), ((k + 1 : Nat) : Int), ((k + 2 : Nat) : Int), ((k + 3 : Nat) : Int)⟩
def TLetter.marks (k n : Nat) : List TLetter := (List.range n).map fun i => TLetter.mark (k + i * 4)
theorem TLetter.marks_len (k n : Nat) : (TLetter.marks k n).length = n := by simp [TLetter.marks]
theorem TLetter.marks_get (k n i : Nat) (h : i < n) : (TLetter.marks k n)[i]? = some (TLetter.mark (k + i * 4)) := by simp [TLetter.marks, h]

theorem TLetter.mark_eq (k0 k : Nat) : TLetter.mark (k0 + k * 4) = ⟨(k0 : Int) + k * 4, (k0 : Int) + k * 4 + 1, (k0 : Int) + k * 4 + 2, (k0 : Int) + k * 4 + 3⟩ := by
 unfold TLetter.mark
 congr 1 <;> (first | omega | (congr 2; omega) | skip)
section
variable {H : Type} {enc : TypeId × Value → H} {w : World} {base fuel : Nat} {spare : Nat → Bool} {held : Bool}
end

section
variable {H : Type} {enc : TypeId × Value → H}
end

theorem equalIn_Letter (x y : TLetter) (d : Nat) (w : World) :
  (Op.equalIn (d + 2) 62 (.agg #[.int .i64 x.f0, .int .i64 x.f1, .int .i64 x.f2, .int .i64 x.f3]) (.agg #[.int .i64 y.f0, .int .i64 y.f1, .int .i64 y.f2, .int .i64 y.f3])).run Tryd.prog w = .ok (decide (x = y)) w := by
 rw [run_equalIn_agg w (d + 1) 62 _ _ (by kernel_rfl) (by kernel_rfl)]
 simp only [Program.fieldsOf, Tryd.underlying62]
 rw [eqf_int (by decide) rfl rfl rfl, eqf_int (by decide) rfl rfl rfl, eqf_int (by decide) rfl rfl rfl, eqf_int (by decide) rfl rfl rfl]
 simp only [Op.eqFields, Sem.run_pure]
 have he : decide (x = y) = (x.f0 == y.f0 && (x.f1 == y.f1 && (x.f2 == y.f2 && (x.f3 == y.f3)))) := by
  cases x; cases y
  simp
  rw [Bool.eq_iff_iff]; simp
 rw [he]
 cases x.f0 == y.f0 <;> cases x.f1 == y.f1 <;> cases x.f2 == y.f2 <;> cases x.f3 == y.f3 <;> rfl
theorem neq_Letter (x y : TLetter) (w : World) : (binOp .neq 62 (.agg #[.int .i64 x.f0, .int .i64 x.f1, .int .i64 x.f2, .int .i64 x.f3]) (.agg #[.int .i64 y.f0, .int .i64 y.f1, .int .i64 y.f2, .int .i64 y.f3])).run Tryd.prog w = .ok (.bool (!decide (x = y))) w := by
 rw [run_neq_struct, equalIn_Letter x y 9998 w]; rfl
theorem eql_Letter (x y : TLetter) (w : World) : (binOp .eql 62 (.agg #[.int .i64 x.f0, .int .i64 x.f1, .int .i64 x.f2, .int .i64 x.f3]) (.agg #[.int .i64 y.f0, .int .i64 y.f1, .int .i64 y.f2, .int .i64 y.f3])).run Tryd.prog w = .ok (.bool (decide (x = y))) w := by
 rw [run_eql_struct, equalIn_Letter x y 9998 w]; rfl

end Go.Proofs.YtlnmgfbfpjfddaaDoor
