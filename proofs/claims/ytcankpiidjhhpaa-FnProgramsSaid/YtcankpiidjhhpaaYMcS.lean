/- McS, what is needed of it. -/
import Derived.Test.YtcankpiidjhhpaaYRgn
import Derived.Test.YtcankpiidjhhpaaYGd
import Derived.Test.YtcankpiidjhhpaaYGb
import Derived.StillTailTactics
import Derived.Deep.RegionHeld3
import Derived.Deep.LoopGhost
import Derived.Deep.DeepCutAuto
namespace Go.Proofs.Ytcankpiidjhhpaa
open Go Go.ChangeShapes Go.WideShapes Go.ChangeAt Go.RowKit Go.Lib
set_option linter.unusedVariables false
set_option linter.unusedSimpArgs false
set_option maxRecDepth 100000

/-- Block g is a row that may be written, and its first six cells are these numbers. -/
def IRow (w : World) (g c : Nat) (l : List Int) : Prop := 6 ≤ c ∧ c ≤ maxLen ∧ ∃ f, w.rowIs g 3 c f ∧ ∀ j, j < 6 → f j = .int .i64 (l.getD j 0)
section
variable {w w' : World} {g c : Nat} {l : List Int}
theorem IRow.lt (h : IRow w g c l) : g < w.heap.size := by obtain ⟨_, _, f, hr, _⟩ := h; exact hr.lt
theorem IRow.keep (h : IRow w g c l) (e : w'.heap[g]? = w.heap[g]?) : IRow w' g c l := by obtain ⟨h1, h2, f, hr, hf⟩ := h; exact ⟨h1, h2, f, hr.of_block e, hf⟩
theorem IRow.new (h : IRow w g c l) (hb : Below w.heap.size w w') : IRow w' g c l := h.keep (hb.block g h.lt)
theorem IRow.drw (h : IRow w g c l) : IRow w.drew g c l := h
theorem IRow.alloc (h : IRow w g c l) (o : Obj) : IRow (w.alloc o) g c l := h.keep (Below.heap_alloc w o g h.lt)
theorem IRow.chg {lo hi : Nat} (h : IRow w g c l) (hc : Chg lo hi w w') (hd : ¬ (lo ≤ g ∧ g < hi)) : IRow w' g c l := h.keep (hc.block g h.lt hd)
theorem IRow.cell (h : IRow w g c l) {k : Nat} (hk : k < 6) : w.cell? ⟨g, k, none⟩ = some (.int .i64 (l.getD k 0)) := by obtain ⟨h1, _, f, hr, hf⟩ := h; rw [hr.cell (by omega), hf k hk]
theorem IRow.frozen (h : IRow w g c l) (k : Nat) : w.frozen? ⟨g, k, none⟩ = false := by obtain ⟨_, _, f, hr, _⟩ := h; exact hr.frozen k
theorem getD_put {l : List Int} {k : Nat} {z : Int} (j : Nat) (hk : k < l.length) : (l.set k z).getD j 0 = if k = j then z else l.getD j 0 := by
 simp only [List.getD_eq_getElem?_getD, List.getElem?_set]
 by_cases e : k = j
 ·
  subst e; simp [hk]
 ·
  simp [e]
theorem IRow.put (h : IRow w g c l) {k : Nat} (hk : k < 6) (hl : l.length = 6) (z : Int) : IRow (w.setCell ⟨g, k, none⟩ (.int .i64 z)) g c (l.set k z) := by
 obtain ⟨h1, h2, f, hr, hf⟩ := h
 refine ⟨h1, h2, _, hr.set k (.int .i64 z), fun j hj => ?_⟩
 rw [getD_put j (by omega)]
 by_cases e : j = k
 ·
  subst e; rw [if_pos rfl, if_pos rfl]
 ·
  rw [if_neg e, if_neg (by omega), hf j hj]
end
end Go.Proofs.Ytcankpiidjhhpaa
