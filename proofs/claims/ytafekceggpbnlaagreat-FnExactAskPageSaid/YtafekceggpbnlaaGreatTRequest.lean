/- The laws' own helpers on slices of Request: copied, compared, marked, and the marks looked for. -/
import Derived.Test.YtafekceggpbnlaaGreatRws
import Derived.Test.YtafekceggpbnlaaGreatTSite
import Derived.StillTailTactics
namespace Go.Proofs.YtafekceggpbnlaaGreat
open Go Go.ChangeShapes Go.WideShapes Go.ChangeAt Go.RowKit Go.Lib
set_option linter.unusedVariables false
set_option linter.unusedSimpArgs false
set_option maxRecDepth 100000

structure TRequest where
  f0 : Int
  f1 : Int
  f2 : Int
deriving DecidableEq
def TRequest.cells (x : TRequest) : List Value := [.int .i64 x.f0, .int .i64 x.f1, .int .i64 x.f2]
abbrev cRequest (d : List TRequest) : List Value := d.flatMap TRequest.cells
theorem TRequest.len (x : TRequest) : x.cells.length = 3 := rfl
def TRequest.fit (x : TRequest) : Prop := (-9223372036854775808 ≤ x.f0 ∧ x.f0 ≤ 9223372036854775807) ∧ (-9223372036854775808 ≤ x.f1 ∧ x.f1 ≤ 9223372036854775807) ∧ (-9223372036854775808 ≤ x.f2 ∧ x.f2 ≤ 9223372036854775807)
def cRequestOk (d : List TRequest) : Prop := ∀ x ∈ d, TRequest.fit x
/-- The marks of one element, from k on. -/
def TRequest.mark (k : Nat) : TRequest := ⟨((k + 0 : Nat) : Int), ((k + 1 : Nat) : Int), ((k + 2 : Nat) : Int)⟩
def TRequest.marks (k n : Nat) : List TRequest := (List.range n).map fun i => TRequest.mark (k + i * 3)
theorem TRequest.marks_len (k n : Nat) : (TRequest.marks k n).length = n := by simp [TRequest.marks]
theorem TRequest.marks_get (k n i : Nat) (h : i < n) : (TRequest.marks k n)[i]? = some (TRequest.mark (k + i * 3)) := by simp [TRequest.marks, h]

theorem to_request_one (x : TRequest) (w : World) :
    Calls Tryz.prog 7 #[.agg #[.int .i64 x.f0, .int .i64 x.f1, .int .i64 x.f2]] w (Says (.agg #[.int .i64 x.f0, .int .i64 x.f1, .int .i64 x.f2]) w) := by
  go_enter Tryz.func7, Tryz.ntmps7
  go_wp2_with fail
  refine (to_site_one ⟨x.f0, x.f1⟩ _).mono ?_
  rintro e w1 ⟨rfl, hb1⟩
  obtain ⟨hc0, hf0⟩ := bcell hb1
  have HB1 := Lib.hid hb1
  have hs0 := hb1.size
  simp at hs0
  have hz0 : w.heap.size + 2 < w1.heap.size := by omega
  have ha0 : w.heap.size < w1.heap.size := by omega
  have hd0 : w.heap.size + 1 < w1.heap.size := by omega
  have he0 : w.heap.size + 1 + 1 < w1.heap.size := by omega
  clear hb1 hs0
  go_wp2_with fail
  exact bodyPost_ret (v := .agg #[.int .i64 x.f0, .int .i64 x.f1, .int .i64 x.f2]) (by simp [results, Tryz.results7, go_sem, hc0, ha0, hd0, he0]) rfl
    ⟨rfl, by repeat (refine Below.setCell ?_ (by simp <;> omega) _)
             exact ((((Below.refl _ _).alloc (Nat.le_refl _) _).alloc (by simp) _).alloc (by simp <;> omega) _).trans (HB1.out.mono (by simp <;> omega))⟩

theorem TRequest.mark_eq (k0 k : Nat) : TRequest.mark (k0 + k * 3) = ⟨(k0 : Int) + k * 3, (k0 : Int) + k * 3 + 1, (k0 : Int) + k * 3 + 2⟩ := by
  unfold TRequest.mark
  congr 1 <;> (first | omega | (congr 2; omega) | skip)
section
variable {H : Type} {enc : TypeId × Value → H} {w : World} {base fuel : Nat} {spare : Nat → Bool} {held : Bool}
theorem read_request {cs : List Value} {y : DataW H × List MemPlace} (h : DataW.trod enc Tryz.prog w base spare held fuel 33 cs = some y) : ∃ x : TRequest, cs = x.cells ∧ x.fit := by
  obtain ⟨ys, n, _, _, hlen, hyl, hf⟩ := DataW.trod_struct Tryz.underlying33 h
  have hlen : cs.length = 3 := hlen.trans (by kernel_rfl)
  have hyl : ys.length = 2 := hyl
  have ci : Tryz.prog.cellsOf 3 = 1 := by kernel_rfl
  have cSite : Tryz.prog.cellsOf 31 = 2 := by kernel_rfl
  match cs, hlen with
  | [z0, z1, z2], _ =>
    have h0 : DataW.trod enc Tryz.prog w base spare held n 31 (([z0, z1, z2].drop 0).take (Tryz.prog.cellsOf 31)) = ys[0]? := hf 0 _ rfl
    rw [cSite] at h0
    have h0' : DataW.trod enc Tryz.prog w base spare held n 31 [z0, z1] = some (ys[0]'(by omega)) := h0.trans (List.getElem?_eq_getElem (by omega))
    obtain ⟨p0, e0, g0⟩ := read_site h0'
    simp only [TSite.cells, List.cons.injEq, and_true] at e0
    have h1 : DataW.trod enc Tryz.prog w base spare held n 3 (([z0, z1, z2].drop 2).take (Tryz.prog.cellsOf 3)) = ys[1]? := hf 1 _ rfl
    rw [ci] at h1
    have h1' : DataW.trod enc Tryz.prog w base spare held n 3 [z2] = some (ys[1]'(by omega)) := h1.trans (List.getElem?_eq_getElem (by omega))
    obtain ⟨x2, e1, _, w1⟩ := DataW.trod_int Tryz.underlying3 h1'
    exact ⟨⟨p0.f0, p0.f1, x2⟩, by simp_all [TRequest.cells], g0.1, g0.2, bounds_i64 w1⟩
end

section
variable {H : Type} {enc : TypeId × Value → H}
theorem open_request {W : World} {base : Nat} {v : Value} {d : DataW H} {p : List MemPlace} (hv : Value.okWide Tryz.prog W .any base 33 v)
    (h : DataW.Trod enc Tryz.prog W 0 (fun _ => true) true 33 v d p) : ∃ x : TRequest, v = .agg #[.int .i64 x.f0, .int .i64 x.f1, .int .i64 x.f2] ∧ Hid x.fit := by
  obtain ⟨cs, rfl, hsz⟩ := okWide_struct Tryz.underlying33 hv
  obtain ⟨fuel, hf⟩ := h
  obtain ⟨x, hx, hfit⟩ := read_request hf
  refine ⟨x, ?_, hfit⟩
  have hx' : cs.toList = x.cells := hx
  rw [show cs = x.cells.toArray by rw [← hx']]
  rfl
end

end Go.Proofs.YtafekceggpbnlaaGreat
