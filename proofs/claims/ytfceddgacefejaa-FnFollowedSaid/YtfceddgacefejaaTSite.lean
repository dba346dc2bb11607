/- The laws' own helpers on slices of Site: copied, compared, marked, and the marks looked for. -/
import Derived.Test.YtfceddgacefejaaRws
import Derived.StillTailTactics
namespace Go.Proofs.Ytfceddgacefejaa
open Go Go.ChangeShapes Go.WideShapes Go.ChangeAt Go.RowKit Go.Lib
set_option linter.unusedVariables false
set_option maxRecDepth 100000

structure TSite where
 f0 : Int
 f1 : Int
deriving DecidableEq
def TSite.cells (x : TSite) : List Value := [.int .i64 x.f0, .int .i64 x.f1]
abbrev cSite (d : List TSite) : List Value := d.flatMap TSite.cells
theorem TSite.len (x : TSite) : x.cells.length = 2 := rfl
def TSite.fit (x : TSite) : Prop := (-9223372036854775808 ≤ x.f0 ∧ x.f0 ≤ 9223372036854775807) ∧ (-9223372036854775808 ≤ x.f1 ∧ x.f1 ≤ 9223372036854775807)
def cSiteOk (d : List TSite) : Prop := ∀ x ∈ d, TSite.fit x
/-- The marks of one element, from k on. -/
def TSite.mark (k : Nat) : TSite := ⟨((k + 0 : Nat) : Int), ((k + 1 : Nat) : Int)⟩
def TSite.marks (k n : Nat) : List TSite := (List.range n).map fun i => TSite.mark (k + i * 2)
theorem TSite.marks_len (k n : Nat) : (TSite.marks k n).length = n := by simp [TSite.marks]
theorem TSite.marks_get (k n i : Nat) (h : i < n) : (TSite.marks k n)[i]? = some (TSite.mark (k + i * 2)) := by simp [TSite.marks, h]

theorem to_site_one (x : TSite) (w : World) :
  Calls Try.prog 227 #[.agg #[.int .i64 x.f0, .int .i64 x.f1]] w (Says (.agg #[.int .i64 x.f0, .int .i64 x.f1]) w) := by
 go_enter Try.func227, Try.ntmps227
 go_wp2
 exact bodyPost_ret (v := .agg #[.int .i64 x.f0, .int .i64 x.f1]) (by simp [results, Try.results227, go_sem]) rfl
  ⟨rfl, by repeat (first | exact Below.refl _ _ | (refine Below.alloc ?_ (by simp <;> omega) _))⟩

theorem eq_site_one (x : TSite) (w : World) :
  Calls Try.prog 232 #[.agg #[.int .i64 x.f0, .int .i64 x.f1], .agg #[.int .i64 x.f0, .int .i64 x.f1]] w (Says (.bool true) w) := by
 go_enter Try.func232, Try.ntmps232
 go_wp2
 go_ret
 exact ⟨rfl, by repeat (first | exact Below.refl _ _ | (refine Below.alloc ?_ (by simp <;> omega) _) | (refine below_dN ?_ _))⟩

theorem TSite.mark_eq (k0 k : Nat) : TSite.mark (k0 + k * 2) = ⟨(k0 : Int) + k * 2, (k0 : Int) + k * 2 + 1⟩ := by
 unfold TSite.mark
 congr 1 <;> (first | omega | (congr 2; omega) | skip)
section
variable {H : Type} {enc : TypeId × Value → H} {w : World} {base fuel : Nat} {spare : Nat → Bool} {held : Bool}
theorem read_site {cs : List Value} {y : DataW H × List MemPlace} (h : DataW.trod enc Try.prog w base spare held fuel 207 cs = some y) : ∃ x : TSite, cs = x.cells ∧ x.fit := by
 obtain ⟨ys, n, _, _, hlen, hyl, hf⟩ := DataW.trod_struct Try.underlying207 h
 have hlen : cs.length = 2 := hlen.trans (by kernel_rfl)
 have hyl : ys.length = 2 := hyl
 have ci : Try.prog.cellsOf 3 = 1 := by kernel_rfl
 match cs, hlen with
 | [z0, z1], _ =>
  have h0 : DataW.trod enc Try.prog w base spare held n 3 (([z0, z1].drop 0).take (Try.prog.cellsOf 3)) = ys[0]? := hf 0 _ rfl
  rw [ci] at h0
  have h0' : DataW.trod enc Try.prog w base spare held n 3 [z0] = some (ys[0]'(by omega)) := h0.trans (List.getElem?_eq_getElem (by omega))
  obtain ⟨x0, e0, _, w0⟩ := DataW.trod_int Try.underlying3 h0'
  have h1 : DataW.trod enc Try.prog w base spare held n 3 (([z0, z1].drop 1).take (Try.prog.cellsOf 3)) = ys[1]? := hf 1 _ rfl
  rw [ci] at h1
  have h1' : DataW.trod enc Try.prog w base spare held n 3 [z1] = some (ys[1]'(by omega)) := h1.trans (List.getElem?_eq_getElem (by omega))
  obtain ⟨x1, e1, _, w1⟩ := DataW.trod_int Try.underlying3 h1'
  exact ⟨⟨x0, x1⟩, by simp_all [TSite.cells], bounds_i64 w0, bounds_i64 w1⟩
end

section
variable {H : Type} {enc : TypeId × Value → H}
theorem open_site {W : World} {base : Nat} {v : Value} {d : DataW H} {p : List MemPlace} (hv : Value.okWide Try.prog W .any base 207 v)
  (h : DataW.Trod enc Try.prog W 0 (fun _ => true) true 207 v d p) : ∃ x : TSite, v = .agg #[.int .i64 x.f0, .int .i64 x.f1] ∧ Hid x.fit := by
 obtain ⟨cs, rfl, hsz⟩ := okWide_struct Try.underlying207 hv
 obtain ⟨fuel, hf⟩ := h
 obtain ⟨x, hx, hfit⟩ := read_site hf
 refine ⟨x, ?_, hfit⟩
 have hx' : cs.toList = x.cells := hx
 rw [show cs = x.cells.toArray by rw [← hx']]
 rfl
end

theorem equalIn_Site (x y : TSite) (d : Nat) (w : World) :
  (Op.equalIn (d + 2) 27 (.agg #[.int .i64 x.f0, .int .i64 x.f1]) (.agg #[.int .i64 y.f0, .int .i64 y.f1])).run Try.prog w = .ok (decide (x = y)) w := by
 rw [run_equalIn_agg w (d + 1) 27 _ _ (by kernel_rfl) (by kernel_rfl)]
 simp only [Program.fieldsOf, Try.underlying27]
 rw [eqf_int (by decide) rfl rfl rfl, eqf_int (by decide) rfl rfl rfl]
 simp only [Op.eqFields, Sem.run_pure]
 have he : decide (x = y) = (x.f0 == y.f0 && (x.f1 == y.f1)) := by
  cases x; cases y
  simp
  rw [Bool.eq_iff_iff]; simp
 rw [he]
 cases x.f0 == y.f0 <;> cases x.f1 == y.f1 <;> rfl
theorem neq_Site (x y : TSite) (w : World) : (binOp .neq 27 (.agg #[.int .i64 x.f0, .int .i64 x.f1]) (.agg #[.int .i64 y.f0, .int .i64 y.f1])).run Try.prog w = .ok (.bool (!decide (x = y))) w := by
 rw [run_neq_struct, equalIn_Site x y 9998 w]; rfl
theorem eql_Site (x y : TSite) (w : World) : (binOp .eql 27 (.agg #[.int .i64 x.f0, .int .i64 x.f1]) (.agg #[.int .i64 y.f0, .int .i64 y.f1])).run Try.prog w = .ok (.bool (decide (x = y))) w := by
 rw [run_eql_struct, equalIn_Site x y 9998 w]; rfl

end Go.Proofs.Ytfceddgacefejaa
