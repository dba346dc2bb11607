/- The laws' own helpers on slices of Deed: copied, compared, marked, and the marks looked for. -/
import Derived.Test.YtgemmddhkbfndaaDoorRws
import Derived.StillTailTactics
namespace Go.Proofs.YtgemmddhkbfndaaDoor
open Go Go.ChangeShapes Go.WideShapes Go.ChangeAt Go.RowKit Go.Lib
set_option linter.unusedVariables false
set_option linter.unusedSimpArgs false
set_option maxRecDepth 100000

structure TDeed where
  f0 : Int
  f1 : Int
  f2 : Int
  f3 : Int
  f4 : Int
deriving DecidableEq
def TDeed.cells (x : TDeed) : List Value := [.int .i64 x.f0, .int .i64 x.f1, .int .i64 x.f2, .int .i64 x.f3, .int .i64 x.f4]
abbrev cDeed (d : List TDeed) : List Value := d.flatMap TDeed.cells
theorem TDeed.len (x : TDeed) : x.cells.length = 5 := rfl
def TDeed.fit (x : TDeed) : Prop := (-9223372036854775808 ≤ x.f0 ∧ x.f0 ≤ 9223372036854775807) ∧ (-9223372036854775808 ≤ x.f1 ∧ x.f1 ≤ 9223372036854775807) ∧ (-9223372036854775808 ≤ x.f2 ∧ x.f2 ≤ 9223372036854775807) ∧ (-9223372036854775808 ≤ x.f3 ∧ x.f3 ≤ 9223372036854775807) ∧ (-9223372036854775808 ≤ x.f4 ∧ x.f4 ≤ 9223372036854775807)
def cDeedOk (d : List TDeed) : Prop := ∀ x ∈ d, TDeed.fit x
/-- The marks of one element, from k on. -/
def TDeed.mark (k : Nat) : TDeed := ⟨((k + 0 : Nat) : Int), ((k + 1 : Nat) : Int), ((k + 2 : Nat) : Int), ((k + 3 : Nat) : Int), ((k + 4 : Nat) : Int)⟩
def TDeed.marks (k n : Nat) : List TDeed := (List.range n).map fun i => TDeed.mark (k + i * 5)
theorem TDeed.marks_len (k n : Nat) : (TDeed.marks k n).length = n := by simp [TDeed.marks]
theorem TDeed.marks_get (k n i : Nat) (h : i < n) : (TDeed.marks k n)[i]? = some (TDeed.mark (k + i * 5)) := by simp [TDeed.marks, h]

theorem to_deed_one (x : TDeed) (w : World) :
    Calls Tryd.prog 5 #[.agg #[.int .i64 x.f0, .int .i64 x.f1, .int .i64 x.f2, .int .i64 x.f3, .int .i64 x.f4]] w (Says (.agg #[.int .i64 x.f0, .int .i64 x.f1, .int .i64 x.f2, .int .i64 x.f3, .int .i64 x.f4]) w) := by
  go_enter Tryd.func5, Tryd.ntmps5
  go_wp2
  exact bodyPost_ret (v := .agg #[.int .i64 x.f0, .int .i64 x.f1, .int .i64 x.f2, .int .i64 x.f3, .int .i64 x.f4]) (by simp [results, Tryd.results5, go_sem]) rfl
    ⟨rfl, by repeat (first | exact Below.refl _ _ | (refine Below.alloc ?_ (by simp <;> omega) _))⟩

theorem eq_deed_one (x : TDeed) (w : World) :
    Calls Tryd.prog 7 #[.agg #[.int .i64 x.f0, .int .i64 x.f1, .int .i64 x.f2, .int .i64 x.f3, .int .i64 x.f4], .agg #[.int .i64 x.f0, .int .i64 x.f1, .int .i64 x.f2, .int .i64 x.f3, .int .i64 x.f4]] w (Says (.bool true) w) := by
  go_enter Tryd.func7, Tryd.ntmps7
  go_wp2
  go_ret
  exact ⟨rfl, by repeat (first | exact Below.refl _ _ | (refine Below.alloc ?_ (by simp <;> omega) _) | (refine below_dN ?_ _))⟩

theorem TDeed.mark_eq (k0 k : Nat) : TDeed.mark (k0 + k * 5) = ⟨(k0 : Int) + k * 5, (k0 : Int) + k * 5 + 1, (k0 : Int) + k * 5 + 2, (k0 : Int) + k * 5 + 3, (k0 : Int) + k * 5 + 4⟩ := by
  unfold TDeed.mark
  congr 1 <;> (first | omega | (congr 2; omega) | skip)
section
variable {H : Type} {enc : TypeId × Value → H} {w : World} {base fuel : Nat} {spare : Nat → Bool} {held : Bool}
theorem read_deed {cs : List Value} {y : DataW H × List MemPlace} (h : DataW.trod enc Tryd.prog w base spare held fuel 23 cs = some y) : ∃ x : TDeed, cs = x.cells ∧ x.fit := by
  obtain ⟨ys, n, _, _, hlen, hyl, hf⟩ := DataW.trod_struct Tryd.underlying23 h
  have hlen : cs.length = 5 := hlen.trans (by kernel_rfl)
  have hyl : ys.length = 5 := hyl
  have ci : Tryd.prog.cellsOf 3 = 1 := by kernel_rfl
  match cs, hlen with
  | [z0, z1, z2, z3, z4], _ =>
    have h0 : DataW.trod enc Tryd.prog w base spare held n 3 (([z0, z1, z2, z3, z4].drop 0).take (Tryd.prog.cellsOf 3)) = ys[0]? := hf 0 _ rfl
    rw [ci] at h0
    have h0' : DataW.trod enc Tryd.prog w base spare held n 3 [z0] = some (ys[0]'(by omega)) := h0.trans (List.getElem?_eq_getElem (by omega))
    obtain ⟨x0, e0, _, w0⟩ := DataW.trod_int Tryd.underlying3 h0'
    have h1 : DataW.trod enc Tryd.prog w base spare held n 3 (([z0, z1, z2, z3, z4].drop 1).take (Tryd.prog.cellsOf 3)) = ys[1]? := hf 1 _ rfl
    rw [ci] at h1
    have h1' : DataW.trod enc Tryd.prog w base spare held n 3 [z1] = some (ys[1]'(by omega)) := h1.trans (List.getElem?_eq_getElem (by omega))
    obtain ⟨x1, e1, _, w1⟩ := DataW.trod_int Tryd.underlying3 h1'
    have h2 : DataW.trod enc Tryd.prog w base spare held n 3 (([z0, z1, z2, z3, z4].drop 2).take (Tryd.prog.cellsOf 3)) = ys[2]? := hf 2 _ rfl
    rw [ci] at h2
    have h2' : DataW.trod enc Tryd.prog w base spare held n 3 [z2] = some (ys[2]'(by omega)) := h2.trans (List.getElem?_eq_getElem (by omega))
    obtain ⟨x2, e2, _, w2⟩ := DataW.trod_int Tryd.underlying3 h2'
    have h3 : DataW.trod enc Tryd.prog w base spare held n 3 (([z0, z1, z2, z3, z4].drop 3).take (Tryd.prog.cellsOf 3)) = ys[3]? := hf 3 _ rfl
    rw [ci] at h3
    have h3' : DataW.trod enc Tryd.prog w base spare held n 3 [z3] = some (ys[3]'(by omega)) := h3.trans (List.getElem?_eq_getElem (by omega))
    obtain ⟨x3, e3, _, w3⟩ := DataW.trod_int Tryd.underlying3 h3'
    have h4 : DataW.trod enc Tryd.prog w base spare held n 3 (([z0, z1, z2, z3, z4].drop 4).take (Tryd.prog.cellsOf 3)) = ys[4]? := hf 4 _ rfl
    rw [ci] at h4
    have h4' : DataW.trod enc Tryd.prog w base spare held n 3 [z4] = some (ys[4]'(by omega)) := h4.trans (List.getElem?_eq_getElem (by omega))
    obtain ⟨x4, e4, _, w4⟩ := DataW.trod_int Tryd.underlying3 h4'
    exact ⟨⟨x0, x1, x2, x3, x4⟩, by simp_all [TDeed.cells], bounds_i64 w0, bounds_i64 w1, bounds_i64 w2, bounds_i64 w3, bounds_i64 w4⟩
end

section
variable {H : Type} {enc : TypeId × Value → H}
theorem open_deed {W : World} {base : Nat} {v : Value} {d : DataW H} {p : List MemPlace} (hv : Value.okWide Tryd.prog W .any base 23 v)
    (h : DataW.Trod enc Tryd.prog W 0 (fun _ => true) true 23 v d p) : ∃ x : TDeed, v = .agg #[.int .i64 x.f0, .int .i64 x.f1, .int .i64 x.f2, .int .i64 x.f3, .int .i64 x.f4] ∧ Hid x.fit := by
  obtain ⟨cs, rfl, hsz⟩ := okWide_struct Tryd.underlying23 hv
  obtain ⟨fuel, hf⟩ := h
  obtain ⟨x, hx, hfit⟩ := read_deed hf
  refine ⟨x, ?_, hfit⟩
  have hx' : cs.toList = x.cells := hx
  rw [show cs = x.cells.toArray by rw [← hx']]
  rfl
end

theorem equalIn_Deed (x y : TDeed) (d : Nat) (w : World) :
    (Op.equalIn (d + 2) 24 (.agg #[.int .i64 x.f0, .int .i64 x.f1, .int .i64 x.f2, .int .i64 x.f3, .int .i64 x.f4]) (.agg #[.int .i64 y.f0, .int .i64 y.f1, .int .i64 y.f2, .int .i64 y.f3, .int .i64 y.f4])).run Tryd.prog w = .ok (decide (x = y)) w := by
  rw [run_equalIn_agg w (d + 1) 24 _ _ (by kernel_rfl) (by kernel_rfl)]
  simp only [Program.fieldsOf, Tryd.underlying24]
  rw [eqf_int (by decide) rfl rfl rfl, eqf_int (by decide) rfl rfl rfl, eqf_int (by decide) rfl rfl rfl, eqf_int (by decide) rfl rfl rfl, eqf_int (by decide) rfl rfl rfl]
  simp only [Op.eqFields, Sem.run_pure]
  have he : decide (x = y) = (x.f0 == y.f0 && (x.f1 == y.f1 && (x.f2 == y.f2 && (x.f3 == y.f3 && (x.f4 == y.f4))))) := by
    cases x; cases y
    simp
    rw [Bool.eq_iff_iff]; simp
  rw [he]
  cases x.f0 == y.f0 <;> cases x.f1 == y.f1 <;> cases x.f2 == y.f2 <;> cases x.f3 == y.f3 <;> cases x.f4 == y.f4 <;> rfl
theorem neq_Deed (x y : TDeed) (w : World) : (binOp .neq 24 (.agg #[.int .i64 x.f0, .int .i64 x.f1, .int .i64 x.f2, .int .i64 x.f3, .int .i64 x.f4]) (.agg #[.int .i64 y.f0, .int .i64 y.f1, .int .i64 y.f2, .int .i64 y.f3, .int .i64 y.f4])).run Tryd.prog w = .ok (.bool (!decide (x = y))) w := by
  rw [run_neq_struct, equalIn_Deed x y 9998 w]; rfl
theorem eql_Deed (x y : TDeed) (w : World) : (binOp .eql 24 (.agg #[.int .i64 x.f0, .int .i64 x.f1, .int .i64 x.f2, .int .i64 x.f3, .int .i64 x.f4]) (.agg #[.int .i64 y.f0, .int .i64 y.f1, .int .i64 y.f2, .int .i64 y.f3, .int .i64 y.f4])).run Tryd.prog w = .ok (.bool (decide (x = y))) w := by
  rw [run_eql_struct, equalIn_Deed x y 9998 w]; rfl

end Go.Proofs.YtgemmddhkbfndaaDoor
