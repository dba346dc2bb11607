/- The laws' own helpers on slices of Pattern: copied, compared, marked, and the marks looked for. -/
import Derived.Test.YtfceddgacefejaaRws
import Derived.StillTailTactics
namespace Go.Proofs.Ytfceddgacefejaa
open Go Go.ChangeShapes Go.WideShapes Go.ChangeAt Go.RowKit Go.Lib
set_option linter.unusedVariables false
set_option maxRecDepth 100000

structure TPattern where
 f0 : Int
 f1 : Int
deriving DecidableEq
def TPattern.cells (x : TPattern) : List Value := [.int .i64 x.f0, .int .i64 x.f1]
abbrev cPattern (d : List TPattern) : List Value := d.flatMap TPattern.cells
theorem TPattern.len (x : TPattern) : x.cells.length = 2 := rfl
def TPattern.fit (x : TPattern) : Prop := (-9223372036854775808 ≤ x.f0 ∧ x.f0 ≤ 9223372036854775807) ∧ (-9223372036854775808 ≤ x.f1 ∧ x.f1 ≤ 9223372036854775807)
def cPatternOk (d : List TPattern) : Prop := ∀ x ∈ d, TPattern.fit x
/-- The marks of one element, from k on. -/
def TPattern.mark (k : Nat) : TPattern := ⟨((k + 0 : Nat) : Int), ((k + 1 : Nat) : Int)⟩
def TPattern.marks (k n : Nat) : List TPattern := (List.range n).map fun i => TPattern.mark (k + i * 2)
theorem TPattern.marks_len (k n : Nat) : (TPattern.marks k n).length = n := by simp [TPattern.marks]
theorem TPattern.marks_get (k n i : Nat) (h : i < n) : (TPattern.marks k n)[i]? = some (TPattern.mark (k + i * 2)) := by simp [TPattern.marks, h]

theorem to_pattern_one (x : TPattern) (w : World) :
  Calls Try.prog 226 #[.agg #[.int .i64 x.f0, .int .i64 x.f1]] w (Says (.agg #[.int .i64 x.f0, .int .i64 x.f1]) w) := by
 go_enter Try.func226, Try.ntmps226
 go_wp2
 exact bodyPost_ret (v := .agg #[.int .i64 x.f0, .int .i64 x.f1]) (by simp [results, Try.results226, go_sem]) rfl
  ⟨rfl, by repeat (first | exact Below.refl _ _ | (refine Below.alloc ?_ (by simp <;> omega) _))⟩

theorem eq_pattern_one (x : TPattern) (w : World) :
  Calls Try.prog 231 #[.agg #[.int .i64 x.f0, .int .i64 x.f1], .agg #[.int .i64 x.f0, .int .i64 x.f1]] w (Says (.bool true) w) := by
 go_enter Try.func231, Try.ntmps231
 go_wp2
 go_ret
 exact ⟨rfl, by repeat (first | exact Below.refl _ _ | (refine Below.alloc ?_ (by simp <;> omega) _) | (refine below_dN ?_ _))⟩

theorem TPattern.mark_eq (k0 k : Nat) : TPattern.mark (k0 + k * 2) = ⟨(k0 : Int) + k * 2, (k0 : Int) + k * 2 + 1⟩ := by
 unfold TPattern.mark
 congr 1 <;> (first | omega | (congr 2; omega) | skip)
section
variable {H : Type} {enc : TypeId × Value → H} {w : World} {base fuel : Nat} {spare : Nat → Bool} {held : Bool}
theorem read_pattern {cs : List Value} {y : DataW H × List MemPlace} (h : DataW.trod enc Try.prog w base spare held fuel 206 cs = some y) : ∃ x : TPattern, cs = x.cells ∧ x.fit := by
 obtain ⟨ys, n, _, _, hlen, hyl, hf⟩ := DataW.trod_struct Try.underlying206 h
 have hlen : cs.length = 2 := hlen.trans (by kernel_rfl)
 have hyl : ys.length = 2 := hyl
 have ci : Try.prog.cellsOf 3 = 1 := by kernel_rfl
 match cs, hlen with
 | [z0, z1], _ =>
  have h0 : DataW.trod enc Try.prog w base spare held n 3 (([z0, z1].drop 0).take (Try.prog.cellsOf 3)) = ys[0]? := hf 0 _ rfl
  rw [ci] at h0
  have h0' : DataW.trod enc Try.prog w base spare held n 3 [z0] = some (ys[0]'(by omega)) := h0.trans (List.getElem?_eq_getElem (by omega))
  obtain ⟨x0, e0, _, w0⟩ := DataW.trod_int Try.underlying3 h0'
  have h1 : DataW.trod enc Try.prog w base spare held n 3 (([z0, z1].drop 1).take (Try.prog.cellsOf 3)) = ys[1]? := hf 1 _ rfl
  rw [ci] at h1
  have h1' : DataW.trod enc Try.prog w base spare held n 3 [z1] = some (ys[1]'(by omega)) := h1.trans (List.getElem?_eq_getElem (by omega))
  obtain ⟨x1, e1, _, w1⟩ := DataW.trod_int Try.underlying3 h1'
  exact ⟨⟨x0, x1⟩, by simp_all [TPattern.cells], bounds_i64 w0, bounds_i64 w1⟩
end

section
variable {H : Type} {enc : TypeId × Value → H}
theorem open_pattern {W : World} {base : Nat} {v : Value} {d : DataW H} {p : List MemPlace} (hv : Value.okWide Try.prog W .any base 206 v)
  (h : DataW.Trod enc Try.prog W 0 (fun _ => true) true 206 v d p) : ∃ x : TPattern, v = .agg #[.int .i64 x.f0, .int .i64 x.f1] ∧ Hid x.fit := by
 obtain ⟨cs, rfl, hsz⟩ := okWide_struct Try.underlying206 hv
 obtain ⟨fuel, hf⟩ := h
 obtain ⟨x, hx, hfit⟩ := read_pattern hf
 refine ⟨x, ?_, hfit⟩
 have hx' : cs.toList = x.cells := hx
 rw [show cs = x.cells.toArray by rw [← hx']]
 rfl
end

theorem equalIn_Pattern (x y : TPattern) (d : Nat) (w : World) :
  (Op.equalIn (d + 2) 33 (.agg #[.int .i64 x.f0, .int .i64 x.f1]) (.agg #[.int .i64 y.f0, .int .i64 y.f1])).run Try.prog w = .ok (decide (x = y)) w := by
 rw [run_equalIn_agg w (d + 1) 33 _ _ (by kernel_rfl) (by kernel_rfl)]
 simp only [Program.fieldsOf, Try.underlying33]
 rw [eqf_int (by decide) rfl rfl rfl, eqf_int (by decide) rfl rfl rfl]
 simp only [Op.eqFields, Sem.run_pure]
 have he : decide (x = y) = (x.f0 == y.f0 && (x.f1 == y.f1)) := by
  cases x; cases y
  simp
  rw [Bool.eq_iff_iff]; simp
 rw [he]
 cases x.f0 == y.f0 <;> cases x.f1 == y.f1 <;> rfl
theorem neq_Pattern (x y : TPattern) (w : World) : (binOp .neq 33 (.agg #[.int .i64 x.f0, .int .i64 x.f1]) (.agg #[.int .i64 y.f0, .int .i64 y.f1])).run Try.prog w = .ok (.bool (!decide (x = y))) w := by
 rw [run_neq_struct, equalIn_Pattern x y 9998 w]; rfl
theorem eql_Pattern (x y : TPattern) (w : World) : (binOp .eql 33 (.agg #[.int .i64 x.f0, .int .i64 x.f1]) (.agg #[.int .i64 y.f0, .int .i64 y.f1])).run Try.prog w = .ok (.bool (decide (x = y))) w := by
 rw [run_eql_struct, equalIn_Pattern x y 9998 w]; rfl

end Go.Proofs.Ytfceddgacefejaa
