/- The laws' own helpers on slices of Limit: copied, compared, marked, and the marks looked for. -/
import Derived.Test.YtfceddgacefejaaRws
import Derived.Test.YtfceddgacefejaaTPattern
import Derived.StillTailTactics
namespace Go.Proofs.Ytfceddgacefejaa
open Go Go.ChangeShapes Go.WideShapes Go.ChangeAt Go.RowKit Go.Lib
set_option linter.unusedVariables false
set_option linter.unusedSimpArgs false
set_option maxRecDepth 100000

structure TLimit where
  f0 : Int
  f1 : Int
  f2 : Int
  f3 : Int
deriving DecidableEq
def TLimit.cells (x : TLimit) : List Value := [.int .i64 x.f0, .int .i64 x.f1, .int .i64 x.f2, .int .i64 x.f3]
abbrev cLimit (d : List TLimit) : List Value := d.flatMap TLimit.cells
theorem TLimit.len (x : TLimit) : x.cells.length = 4 := rfl
def TLimit.fit (x : TLimit) : Prop := (-9223372036854775808 ≤ x.f0 ∧ x.f0 ≤ 9223372036854775807) ∧ (-9223372036854775808 ≤ x.f1 ∧ x.f1 ≤ 9223372036854775807) ∧ (-9223372036854775808 ≤ x.f2 ∧ x.f2 ≤ 9223372036854775807) ∧ (-9223372036854775808 ≤ x.f3 ∧ x.f3 ≤ 9223372036854775807)
def cLimitOk (d : List TLimit) : Prop := ∀ x ∈ d, TLimit.fit x
/-- The marks of one element, from k on. -/
def TLimit.mark (k : Nat) : TLimit := ⟨((k + 0 : Nat) : Int), ((k + 1 : Nat) : Int), ((k + 2 : Nat) : Int), ((k + 3 : Nat) : Int)⟩
def TLimit.marks (k n : Nat) : List TLimit := (List.range n).map fun i => TLimit.mark (k + i * 4)
theorem TLimit.marks_len (k n : Nat) : (TLimit.marks k n).length = n := by simp [TLimit.marks]
theorem TLimit.marks_get (k n i : Nat) (h : i < n) : (TLimit.marks k n)[i]? = some (TLimit.mark (k + i * 4)) := by simp [TLimit.marks, h]

theorem to_limit_one (x : TLimit) (w : World) :
    Calls Try.prog 240 #[.agg #[.int .i64 x.f0, .int .i64 x.f1, .int .i64 x.f2, .int .i64 x.f3]] w (Says (.agg #[.int .i64 x.f0, .int .i64 x.f1, .int .i64 x.f2, .int .i64 x.f3]) w) := by
  go_enter Try.func240, Try.ntmps240
  go_wp2_with fail
  refine (to_pattern_one ⟨x.f1, x.f2⟩ _).mono ?_
  rintro e w1 ⟨rfl, hb1⟩
  obtain ⟨hc0, hf0⟩ := bcell hb1
  have HB1 := Lib.hid hb1
  have hs0 := hb1.size
  simp at hs0
  have hz0 : w.heap.size + 2 < w1.heap.size := by omega
  have ha0 : w.heap.size < w1.heap.size := by omega
  have hd0 : w.heap.size + 1 < w1.heap.size := by omega
  have he0 : w.heap.size + 1 + 1 < w1.heap.size := by omega
  clear hb1 hs0
  go_wp2_with fail
  exact bodyPost_ret (v := .agg #[.int .i64 x.f0, .int .i64 x.f1, .int .i64 x.f2, .int .i64 x.f3]) (by simp [results, Try.results240, go_sem, hc0, ha0, hd0, he0]) rfl
    ⟨rfl, by repeat (refine Below.setCell ?_ (by simp <;> omega) _)
             exact ((((Below.refl _ _).alloc (Nat.le_refl _) _).alloc (by simp) _).alloc (by simp <;> omega) _).trans (HB1.out.mono (by simp <;> omega))⟩

theorem eq_limit_one (x : TLimit) (w : World) :
    Calls Try.prog 245 #[.agg #[.int .i64 x.f0, .int .i64 x.f1, .int .i64 x.f2, .int .i64 x.f3], .agg #[.int .i64 x.f0, .int .i64 x.f1, .int .i64 x.f2, .int .i64 x.f3]] w (Says (.bool true) w) := by
  go_enter Try.func245, Try.ntmps245
  go_wp2
  go_ret
  exact ⟨rfl, by repeat (first | exact Below.refl _ _ | (refine Below.alloc ?_ (by simp <;> omega) _) | (refine below_dN ?_ _))⟩

theorem TLimit.mark_eq (k0 k : Nat) : TLimit.mark (k0 + k * 4) = ⟨(k0 : Int) + k * 4, (k0 : Int) + k * 4 + 1, (k0 : Int) + k * 4 + 2, (k0 : Int) + k * 4 + 3⟩ := by
  unfold TLimit.mark
  congr 1 <;> (first | omega | (congr 2; omega) | skip)
section
variable {H : Type} {enc : TypeId × Value → H} {w : World} {base fuel : Nat} {spare : Nat → Bool} {held : Bool}
theorem read_limit {cs : List Value} {y : DataW H × List MemPlace} (h : DataW.trod enc Try.prog w base spare held fuel 228 cs = some y) : ∃ x : TLimit, cs = x.cells ∧ x.fit := by
  obtain ⟨ys, n, _, _, hlen, hyl, hf⟩ := DataW.trod_struct Try.underlying228 h
  have hlen : cs.length = 4 := hlen.trans (by kernel_rfl)
  have hyl : ys.length = 3 := hyl
  have ci : Try.prog.cellsOf 3 = 1 := by kernel_rfl
  have cPattern : Try.prog.cellsOf 206 = 2 := by kernel_rfl
  match cs, hlen with
  | [z0, z1, z2, z3], _ =>
    have h0 : DataW.trod enc Try.prog w base spare held n 3 (([z0, z1, z2, z3].drop 0).take (Try.prog.cellsOf 3)) = ys[0]? := hf 0 _ rfl
    rw [ci] at h0
    have h0' : DataW.trod enc Try.prog w base spare held n 3 [z0] = some (ys[0]'(by omega)) := h0.trans (List.getElem?_eq_getElem (by omega))
    obtain ⟨x0, e0, _, w0⟩ := DataW.trod_int Try.underlying3 h0'
    have h1 : DataW.trod enc Try.prog w base spare held n 206 (([z0, z1, z2, z3].drop 1).take (Try.prog.cellsOf 206)) = ys[1]? := hf 1 _ rfl
    rw [cPattern] at h1
    have h1' : DataW.trod enc Try.prog w base spare held n 206 [z1, z2] = some (ys[1]'(by omega)) := h1.trans (List.getElem?_eq_getElem (by omega))
    obtain ⟨p1, e1, g1⟩ := read_pattern h1'
    simp only [TPattern.cells, List.cons.injEq, and_true] at e1
    have h2 : DataW.trod enc Try.prog w base spare held n 3 (([z0, z1, z2, z3].drop 3).take (Try.prog.cellsOf 3)) = ys[2]? := hf 2 _ rfl
    rw [ci] at h2
    have h2' : DataW.trod enc Try.prog w base spare held n 3 [z3] = some (ys[2]'(by omega)) := h2.trans (List.getElem?_eq_getElem (by omega))
    obtain ⟨x3, e2, _, w2⟩ := DataW.trod_int Try.underlying3 h2'
    exact ⟨⟨x0, p1.f0, p1.f1, x3⟩, by simp_all [TLimit.cells], bounds_i64 w0, g1.1, g1.2, bounds_i64 w2⟩
end

section
variable {H : Type} {enc : TypeId × Value → H}
theorem open_limit {W : World} {base : Nat} {v : Value} {d : DataW H} {p : List MemPlace} (hv : Value.okWide Try.prog W .any base 228 v)
    (h : DataW.Trod enc Try.prog W 0 (fun _ => true) true 228 v d p) : ∃ x : TLimit, v = .agg #[.int .i64 x.f0, .int .i64 x.f1, .int .i64 x.f2, .int .i64 x.f3] ∧ Hid x.fit := by
  obtain ⟨cs, rfl, hsz⟩ := okWide_struct Try.underlying228 hv
  obtain ⟨fuel, hf⟩ := h
  obtain ⟨x, hx, hfit⟩ := read_limit hf
  refine ⟨x, ?_, hfit⟩
  have hx' : cs.toList = x.cells := hx
  rw [show cs = x.cells.toArray by rw [← hx']]
  rfl
end

end Go.Proofs.Ytfceddgacefejaa
