/- The laws' own helpers on slices of Edit: copied, compared, marked, and the marks looked for. -/
import Derived.Test.YtomoigbhikihfaaRws
import Derived.StillTailTactics
namespace Go.Proofs.Ytomoigbhikihfaa
open Go Go.ChangeShapes Go.WideShapes Go.ChangeAt Go.RowKit Go.Lib
set_option linter.unusedVariables false
set_option maxRecDepth 100000

structure TEdit where
  f0 : Int
  f1 : Int
  f2 : Int
  f3 : Int
  f4 : Int
  f5 : Int
deriving DecidableEq
def TEdit.cells (x : TEdit) : List Value := [.int .i64 x.f0, .int .i64 x.f1, .int .i64 x.f2, .int .i64 x.f3, .int .i64 x.f4, .int .i64 x.f5]
abbrev cEdit (d : List TEdit) : List Value := d.flatMap TEdit.cells
theorem TEdit.len (x : TEdit) : x.cells.length = 6 := rfl
def TEdit.fit (x : TEdit) : Prop := (-9223372036854775808 ≤ x.f0 ∧ x.f0 ≤ 9223372036854775807) ∧ (-9223372036854775808 ≤ x.f1 ∧ x.f1 ≤ 9223372036854775807) ∧ (-9223372036854775808 ≤ x.f2 ∧ x.f2 ≤ 9223372036854775807) ∧ (-9223372036854775808 ≤ x.f3 ∧ x.f3 ≤ 9223372036854775807) ∧ (-9223372036854775808 ≤ x.f4 ∧ x.f4 ≤ 9223372036854775807) ∧ (-9223372036854775808 ≤ x.f5 ∧ x.f5 ≤ 9223372036854775807)
def cEditOk (d : List TEdit) : Prop := ∀ x ∈ d, TEdit.fit x
/-- The marks of one element, from k on. -/
def TEdit.mark (k : Nat) : TEdit := ⟨((k + 0 : Nat) : Int), ((k + 1 : Nat) : Int), ((k + 2 : Nat) : Int), ((k + 3 : Nat) : Int), ((k + 4 : Nat) : Int), ((k + 5 : Nat) : Int)⟩
def TEdit.marks (k n : Nat) : List TEdit := (List.range n).map fun i => TEdit.mark (k + i * 6)
theorem TEdit.marks_len (k n : Nat) : (TEdit.marks k n).length = n := by simp [TEdit.marks]
theorem TEdit.marks_get (k n i : Nat) (h : i < n) : (TEdit.marks k n)[i]? = some (TEdit.mark (k + i * 6)) := by simp [TEdit.marks, h]

theorem to_edit_one (x : TEdit) (w : World) :
    Calls Try.prog 27 #[.agg #[.int .i64 x.f0, .int .i64 x.f1, .int .i64 x.f2, .int .i64 x.f3, .int .i64 x.f4, .int .i64 x.f5]] w (Says (.agg #[.int .i64 x.f0, .int .i64 x.f1, .int .i64 x.f2, .int .i64 x.f3, .int .i64 x.f4, .int .i64 x.f5]) w) := by
  go_enter Try.func27, Try.ntmps27
  go_wp2
  exact bodyPost_ret (v := .agg #[.int .i64 x.f0, .int .i64 x.f1, .int .i64 x.f2, .int .i64 x.f3, .int .i64 x.f4, .int .i64 x.f5]) (by simp [results, Try.results27, go_sem]) rfl
    ⟨rfl, by repeat (first | exact Below.refl _ _ | (refine Below.alloc ?_ (by simp <;> omega) _))⟩

theorem TEdit.mark_eq (k0 k : Nat) : TEdit.mark (k0 + k * 6) = ⟨(k0 : Int) + k * 6, (k0 : Int) + k * 6 + 1, (k0 : Int) + k * 6 + 2, (k0 : Int) + k * 6 + 3, (k0 : Int) + k * 6 + 4, (k0 : Int) + k * 6 + 5⟩ := by
  unfold TEdit.mark
  congr 1 <;> (first | omega | (congr 2; omega) | skip)
section
variable {H : Type} {enc : TypeId × Value → H} {w : World} {base fuel : Nat} {spare : Nat → Bool} {held : Bool}
theorem read_edit {cs : List Value} {y : DataW H × List MemPlace} (h : DataW.trod enc Try.prog w base spare held fuel 38 cs = some y) : ∃ x : TEdit, cs = x.cells ∧ x.fit := by
  obtain ⟨ys, n, _, _, hlen, hyl, hf⟩ := DataW.trod_struct Try.underlying38 h
  have hlen : cs.length = 6 := hlen.trans (by kernel_rfl)
  have hyl : ys.length = 6 := hyl
  have ci : Try.prog.cellsOf 3 = 1 := by kernel_rfl
  match cs, hlen with
  | [z0, z1, z2, z3, z4, z5], _ =>
    have h0 : DataW.trod enc Try.prog w base spare held n 3 (([z0, z1, z2, z3, z4, z5].drop 0).take (Try.prog.cellsOf 3)) = ys[0]? := hf 0 _ rfl
    rw [ci] at h0
    have h0' : DataW.trod enc Try.prog w base spare held n 3 [z0] = some (ys[0]'(by omega)) := h0.trans (List.getElem?_eq_getElem (by omega))
    obtain ⟨x0, e0, _, w0⟩ := DataW.trod_int Try.underlying3 h0'
    have h1 : DataW.trod enc Try.prog w base spare held n 3 (([z0, z1, z2, z3, z4, z5].drop 1).take (Try.prog.cellsOf 3)) = ys[1]? := hf 1 _ rfl
    rw [ci] at h1
    have h1' : DataW.trod enc Try.prog w base spare held n 3 [z1] = some (ys[1]'(by omega)) := h1.trans (List.getElem?_eq_getElem (by omega))
    obtain ⟨x1, e1, _, w1⟩ := DataW.trod_int Try.underlying3 h1'
    have h2 : DataW.trod enc Try.prog w base spare held n 3 (([z0, z1, z2, z3, z4, z5].drop 2).take (Try.prog.cellsOf 3)) = ys[2]? := hf 2 _ rfl
    rw [ci] at h2
    have h2' : DataW.trod enc Try.prog w base spare held n 3 [z2] = some (ys[2]'(by omega)) := h2.trans (List.getElem?_eq_getElem (by omega))
    obtain ⟨x2, e2, _, w2⟩ := DataW.trod_int Try.underlying3 h2'
    have h3 : DataW.trod enc Try.prog w base spare held n 3 (([z0, z1, z2, z3, z4, z5].drop 3).take (Try.prog.cellsOf 3)) = ys[3]? := hf 3 _ rfl
    rw [ci] at h3
    have h3' : DataW.trod enc Try.prog w base spare held n 3 [z3] = some (ys[3]'(by omega)) := h3.trans (List.getElem?_eq_getElem (by omega))
    obtain ⟨x3, e3, _, w3⟩ := DataW.trod_int Try.underlying3 h3'
    have h4 : DataW.trod enc Try.prog w base spare held n 3 (([z0, z1, z2, z3, z4, z5].drop 4).take (Try.prog.cellsOf 3)) = ys[4]? := hf 4 _ rfl
    rw [ci] at h4
    have h4' : DataW.trod enc Try.prog w base spare held n 3 [z4] = some (ys[4]'(by omega)) := h4.trans (List.getElem?_eq_getElem (by omega))
    obtain ⟨x4, e4, _, w4⟩ := DataW.trod_int Try.underlying3 h4'
    have h5 : DataW.trod enc Try.prog w base spare held n 3 (([z0, z1, z2, z3, z4, z5].drop 5).take (Try.prog.cellsOf 3)) = ys[5]? := hf 5 _ rfl
    rw [ci] at h5
    have h5' : DataW.trod enc Try.prog w base spare held n 3 [z5] = some (ys[5]'(by omega)) := h5.trans (List.getElem?_eq_getElem (by omega))
    obtain ⟨x5, e5, _, w5⟩ := DataW.trod_int Try.underlying3 h5'
    exact ⟨⟨x0, x1, x2, x3, x4, x5⟩, by simp_all [TEdit.cells], bounds_i64 w0, bounds_i64 w1, bounds_i64 w2, bounds_i64 w3, bounds_i64 w4, bounds_i64 w5⟩
end

section
variable {H : Type} {enc : TypeId × Value → H}
theorem open_edit {W : World} {base : Nat} {v : Value} {d : DataW H} {p : List MemPlace} (hv : Value.okWide Try.prog W .any base 38 v)
    (h : DataW.Trod enc Try.prog W 0 (fun _ => true) true 38 v d p) : ∃ x : TEdit, v = .agg #[.int .i64 x.f0, .int .i64 x.f1, .int .i64 x.f2, .int .i64 x.f3, .int .i64 x.f4, .int .i64 x.f5] ∧ Hid x.fit := by
  obtain ⟨cs, rfl, hsz⟩ := okWide_struct Try.underlying38 hv
  obtain ⟨fuel, hf⟩ := h
  obtain ⟨x, hx, hfit⟩ := read_edit hf
  refine ⟨x, ?_, hfit⟩
  have hx' : cs.toList = x.cells := hx
  rw [show cs = x.cells.toArray by rw [← hx']]
  rfl
end

theorem equalIn_Edit (x y : TEdit) (d : Nat) (w : World) :
    (Op.equalIn (d + 2) 40 (.agg #[.int .i64 x.f0, .int .i64 x.f1, .int .i64 x.f2, .int .i64 x.f3, .int .i64 x.f4, .int .i64 x.f5]) (.agg #[.int .i64 y.f0, .int .i64 y.f1, .int .i64 y.f2, .int .i64 y.f3, .int .i64 y.f4, .int .i64 y.f5])).run Try.prog w = .ok (decide (x = y)) w := by
  rw [run_equalIn_agg w (d + 1) 40 _ _ (by kernel_rfl) (by kernel_rfl)]
  simp only [Program.fieldsOf, Try.underlying40]
  rw [eqf_int (by decide) rfl rfl rfl, eqf_int (by decide) rfl rfl rfl, eqf_int (by decide) rfl rfl rfl, eqf_int (by decide) rfl rfl rfl, eqf_int (by decide) rfl rfl rfl, eqf_int (by decide) rfl rfl rfl]
  simp only [Op.eqFields, Sem.run_pure]
  have he : decide (x = y) = (x.f0 == y.f0 && (x.f1 == y.f1 && (x.f2 == y.f2 && (x.f3 == y.f3 && (x.f4 == y.f4 && (x.f5 == y.f5)))))) := by
    cases x; cases y
    simp
    rw [Bool.eq_iff_iff]; simp
  rw [he]
  cases x.f0 == y.f0 <;> cases x.f1 == y.f1 <;> cases x.f2 == y.f2 <;> cases x.f3 == y.f3 <;> cases x.f4 == y.f4 <;> cases x.f5 == y.f5 <;> rfl
theorem neq_Edit (x y : TEdit) (w : World) : (binOp .neq 40 (.agg #[.int .i64 x.f0, .int .i64 x.f1, .int .i64 x.f2, .int .i64 x.f3, .int .i64 x.f4, .int .i64 x.f5]) (.agg #[.int .i64 y.f0, .int .i64 y.f1, .int .i64 y.f2, .int .i64 y.f3, .int .i64 y.f4, .int .i64 y.f5])).run Try.prog w = .ok (.bool (!decide (x = y))) w := by
  rw [run_neq_struct, equalIn_Edit x y 9998 w]; rfl
theorem eql_Edit (x y : TEdit) (w : World) : (binOp .eql 40 (.agg #[.int .i64 x.f0, .int .i64 x.f1, .int .i64 x.f2, .int .i64 x.f3, .int .i64 x.f4, .int .i64 x.f5]) (.agg #[.int .i64 y.f0, .int .i64 y.f1, .int .i64 y.f2, .int .i64 y.f3, .int .i64 y.f4, .int .i64 y.f5])).run Try.prog w = .ok (.bool (decide (x = y))) w := by
  rw [run_eql_struct, equalIn_Edit x y 9998 w]; rfl

end Go.Proofs.Ytomoigbhikihfaa
