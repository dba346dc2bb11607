/- TSite, what is needed of it. -/
import Derived.Test.YtkedacmpmancbaaGreatDoorVFrame
import Derived.Test.YtkedacmpmancbaaGreatDoorVRws
import Derived.StillTailTactics
namespace Go.Proofs.YtkedacmpmancbaaGreatDoor
open Go Go.ChangeShapes Go.WideShapes Go.ChangeAt Go.RowKit Go.Lib
set_option linter.unusedVariables false
set_option maxRecDepth 100000

structure TSite where
 f0 : Int
 f1 : Int
deriving DecidableEq
def TSite.cells (x : TSite) : List Value := [.int .i64 x.f0, .int .i64 x.f1]
abbrev cSite (d : List TSite) : List Value := d.flatMap TSite.cells
theorem TSite.len (x : TSite) : x.cells.length = 2 := rfl
def TSite.fit (x : TSite) : Prop := (-9223372036854775808 ≤ x.f0 ∧ x.f0 ≤ 9223372036854775807) ∧ (-9223372036854775808 ≤ x.f1 ∧ x.f1 ≤ 9223372036854775807)
/-- The marks of one element, from k on. -/
def TSite.mark (k : Nat) : TSite := ⟨((k + 0 : Nat) : Int), ((k + 1 : Nat) : Int)⟩
def TSite.marks (k n : Nat) : List TSite := (List.range n).map fun i => TSite.mark (k + i * 2)
theorem to_site_one (x : TSite) (w : World) :
  Calls Tryz.prog 129 #[.agg #[.int .i64 x.f0, .int .i64 x.f1]] w (Says (.agg #[.int .i64 x.f0, .int .i64 x.f1]) w) := by
 go_enter Tryz.func129, Tryz.ntmps129
 go_wp2
 exact bodyPost_ret (v := .agg #[.int .i64 x.f0, .int .i64 x.f1]) (by simp [results, Tryz.results129, go_sem]) rfl
  ⟨rfl, aU15⟩

section
variable {H : Type} {enc : TypeId × Value → H} {w : World} {base fuel : Nat} {spare : Nat → Bool} {held : Bool}
theorem read_site {cs : List Value} {y : DataW H × List MemPlace} (h : DataW.trod enc Tryz.prog w base spare held fuel 126 cs = some y) : ∃ x : TSite, cs = x.cells ∧ x.fit := by
 obtain ⟨ys, n, _, _, hlen, hyl, hf⟩ := DataW.trod_struct Tryz.underlying126 h
 have hlen : cs.length = 2 := hlen.trans (by kernel_rfl)
 have hyl : ys.length = 2 := hyl
 have ci : Tryz.prog.cellsOf 3 = 1 := by kernel_rfl
 match cs, hlen with
 | [z0, z1], _ =>
  have h0 : DataW.trod enc Tryz.prog w base spare held n 3 (([z0, z1].drop 0).take (Tryz.prog.cellsOf 3)) = ys[0]? := hf 0 _ rfl
  rw [ci] at h0
  have h0' : DataW.trod enc Tryz.prog w base spare held n 3 [z0] = some (ys[0]'(by omega)) := h0.trans (List.getElem?_eq_getElem (by omega))
  obtain ⟨x0, e0, _, w0⟩ := DataW.trod_int Tryz.underlying3 h0'
  have h1 : DataW.trod enc Tryz.prog w base spare held n 3 (([z0, z1].drop 1).take (Tryz.prog.cellsOf 3)) = ys[1]? := hf 1 _ rfl
  rw [ci] at h1
  have h1' : DataW.trod enc Tryz.prog w base spare held n 3 [z1] = some (ys[1]'(by omega)) := h1.trans (List.getElem?_eq_getElem (by omega))
  obtain ⟨x1, e1, _, w1⟩ := DataW.trod_int Tryz.underlying3 h1'
  exact ⟨⟨x0, x1⟩, by simp_all [TSite.cells], bounds_i64 w0, bounds_i64 w1⟩
end


theorem equalIn_Site (x y : TSite) (d : Nat) (w : World) :
  (Op.equalIn (d + 2) 111 (.agg #[.int .i64 x.f0, .int .i64 x.f1]) (.agg #[.int .i64 y.f0, .int .i64 y.f1])).run Tryz.prog w = .ok (decide (x = y)) w := by
 rw [run_equalIn_agg w (d + 1) 111 _ _ (by kernel_rfl) (by kernel_rfl)]
 simp only [Program.fieldsOf, Tryz.underlying111]
 rw [eqf_int (by decide) rfl rfl rfl, eqf_int (by decide) rfl rfl rfl]
 simp only [Op.eqFields, Sem.run_pure]
 have he : decide (x = y) = (x.f0 == y.f0 && (x.f1 == y.f1)) := by
  cases x; cases y
  simp
  rw [Bool.eq_iff_iff]; simp
 rw [he]
 cases x.f0 == y.f0 <;> cases x.f1 == y.f1 <;> rfl
theorem eql_Site (x y : TSite) (w : World) : (binOp .eql 111 (.agg #[.int .i64 x.f0, .int .i64 x.f1]) (.agg #[.int .i64 y.f0, .int .i64 y.f1])).run Tryz.prog w = .ok (.bool (decide (x = y))) w := by
 rw [run_eql_struct, equalIn_Site x y 9998 w]; rfl

end Go.Proofs.YtkedacmpmancbaaGreatDoor
