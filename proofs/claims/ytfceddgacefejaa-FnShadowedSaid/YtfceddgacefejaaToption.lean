/- The laws' own helpers on slices of option: copied, compared, marked, and the marks looked for. -/
import Derived.Test.YtfceddgacefejaaRws
import Derived.StillTailTactics
namespace Go.Proofs.Ytfceddgacefejaa
open Go Go.ChangeShapes Go.WideShapes Go.ChangeAt Go.RowKit Go.Lib
set_option linter.unusedVariables false
set_option maxRecDepth 100000

structure Toption where
 f0 : Bool
 f1 : Int
deriving DecidableEq
def Toption.cells (x : Toption) : List Value := [.bool x.f0, .int .i64 x.f1]
abbrev coption (d : List Toption) : List Value := d.flatMap Toption.cells
theorem Toption.len (x : Toption) : x.cells.length = 2 := rfl
def Toption.fit (x : Toption) : Prop := (-9223372036854775808 ≤ x.f1 ∧ x.f1 ≤ 9223372036854775807)
def coptionOk (d : List Toption) : Prop := ∀ x ∈ d, Toption.fit x
/-- The marks of one element, from k on. -/
def Toption.mark (k : Nat) : Toption := ⟨((((k + 0 : Nat) : Int) % 3) == 0), ((k + 1 : Nat) : Int)⟩
def Toption.marks (k n : Nat) : List Toption := (List.range n).map fun i => Toption.mark (k + i * 2)
theorem Toption.marks_len (k n : Nat) : (Toption.marks k n).length = n := by simp [Toption.marks]
theorem Toption.marks_get (k n i : Nat) (h : i < n) : (Toption.marks k n)[i]? = some (Toption.mark (k + i * 2)) := by simp [Toption.marks, h]

theorem Toption.mark_eq (k0 k : Nat) : Toption.mark (k0 + k * 2) = ⟨((((k0 : Int) + k * 2 + 0) % 3) == 0), (k0 : Int) + k * 2 + 1⟩ := by
 unfold Toption.mark
 congr 1 <;> (first | omega | (congr 2; omega) | skip)
section
variable {H : Type} {enc : TypeId × Value → H} {w : World} {base fuel : Nat} {spare : Nat → Bool} {held : Bool}
end

section
variable {H : Type} {enc : TypeId × Value → H}
end

theorem equalIn_option (x y : Toption) (d : Nat) (w : World) :
  (Op.equalIn (d + 2) 136 (.agg #[.bool x.f0, .int .i64 x.f1]) (.agg #[.bool y.f0, .int .i64 y.f1])).run Try.prog w = .ok (decide (x = y)) w := by
 rw [run_equalIn_agg w (d + 1) 136 _ _ (by kernel_rfl) (by kernel_rfl)]
 simp only [Program.fieldsOf, Try.underlying136]
 rw [eqf_bool (by decide) rfl rfl rfl, eqf_int (by decide) rfl rfl rfl]
 simp only [Op.eqFields, Sem.run_pure]
 have he : decide (x = y) = (x.f0 == y.f0 && (x.f1 == y.f1)) := by
  cases x; cases y
  simp
  rw [Bool.eq_iff_iff]; simp
 rw [he]
 cases x.f0 == y.f0 <;> cases x.f1 == y.f1 <;> rfl
theorem neq_option (x y : Toption) (w : World) : (binOp .neq 136 (.agg #[.bool x.f0, .int .i64 x.f1]) (.agg #[.bool y.f0, .int .i64 y.f1])).run Try.prog w = .ok (.bool (!decide (x = y))) w := by
 rw [run_neq_struct, equalIn_option x y 9998 w]; rfl
theorem eql_option (x y : Toption) (w : World) : (binOp .eql 136 (.agg #[.bool x.f0, .int .i64 x.f1]) (.agg #[.bool y.f0, .int .i64 y.f1])).run Try.prog w = .ok (.bool (decide (x = y))) w := by
 rw [run_eql_struct, equalIn_option x y 9998 w]; rfl

end Go.Proofs.Ytfceddgacefejaa
