/- TPattern, what is needed of it. -/
import Derived.Test.YtkedacmpmancbaaGreatDoorVFrame
import Derived.Test.YtkedacmpmancbaaGreatDoorVRws
import Derived.StillTailTactics
namespace Go.Proofs.YtkedacmpmancbaaGreatDoor
open Go Go.ChangeShapes Go.WideShapes Go.ChangeAt Go.RowKit Go.Lib
set_option linter.unusedVariables false
set_option maxRecDepth 100000

structure TPattern where
 f0 : Int
 f1 : Int
deriving DecidableEq
def TPattern.cells (x : TPattern) : List Value := [.int .i64 x.f0, .int .i64 x.f1]
abbrev cPattern (d : List TPattern) : List Value := d.flatMap TPattern.cells
theorem TPattern.len (x : TPattern) : x.cells.length = 2 := rfl
def TPattern.fit (x : TPattern) : Prop := (-9223372036854775808 ≤ x.f0 ∧ x.f0 ≤ 9223372036854775807) ∧ (-9223372036854775808 ≤ x.f1 ∧ x.f1 ≤ 9223372036854775807)
/-- The marks of one element, from k on. -/
def TPattern.mark (k : Nat) : TPattern := ⟨((k + 0 : Nat) : Int), ((k + 1 : Nat) : Int)⟩
def TPattern.marks (k n : Nat) : List TPattern := (List.range n).map fun i => TPattern.mark (k + i * 2)
theorem to_pattern_one (x : TPattern) (w : World) :
  Calls Tryz.prog 128 #[.agg #[.int .i64 x.f0, .int .i64 x.f1]] w (Says (.agg #[.int .i64 x.f0, .int .i64 x.f1]) w) := by
 go_enter Tryz.func128, Tryz.ntmps128
 go_wp2
 exact bodyPost_ret (v := .agg #[.int .i64 x.f0, .int .i64 x.f1]) (by simp [results, Tryz.results128, go_sem]) rfl
  ⟨rfl, aU15⟩

section
variable {H : Type} {enc : TypeId × Value → H} {w : World} {base fuel : Nat} {spare : Nat → Bool} {held : Bool}
theorem read_pattern {cs : List Value} {y : DataW H × List MemPlace} (h : DataW.trod enc Tryz.prog w base spare held fuel 120 cs = some y) : ∃ x : TPattern, cs = x.cells ∧ x.fit := by
 obtain ⟨ys, n, _, _, hlen, hyl, hf⟩ := DataW.trod_struct Tryz.underlying120 h
 have hlen : cs.length = 2 := hlen.trans (by kernel_rfl)
 have hyl : ys.length = 2 := hyl
 have ci : Tryz.prog.cellsOf 3 = 1 := by kernel_rfl
 match cs, hlen with
 | [z0, z1], _ =>
  have h0 : DataW.trod enc Tryz.prog w base spare held n 3 (([z0, z1].drop 0).take (Tryz.prog.cellsOf 3)) = ys[0]? := hf 0 _ rfl
  rw [ci] at h0
  have h0' : DataW.trod enc Tryz.prog w base spare held n 3 [z0] = some (ys[0]'(by omega)) := h0.trans (List.getElem?_eq_getElem (by omega))
  obtain ⟨x0, e0, _, w0⟩ := DataW.trod_int Tryz.underlying3 h0'
  have h1 : DataW.trod enc Tryz.prog w base spare held n 3 (([z0, z1].drop 1).take (Tryz.prog.cellsOf 3)) = ys[1]? := hf 1 _ rfl
  rw [ci] at h1
  have h1' : DataW.trod enc Tryz.prog w base spare held n 3 [z1] = some (ys[1]'(by omega)) := h1.trans (List.getElem?_eq_getElem (by omega))
  obtain ⟨x1, e1, _, w1⟩ := DataW.trod_int Tryz.underlying3 h1'
  exact ⟨⟨x0, x1⟩, by simp_all [TPattern.cells], bounds_i64 w0, bounds_i64 w1⟩
end


end Go.Proofs.YtkedacmpmancbaaGreatDoor
