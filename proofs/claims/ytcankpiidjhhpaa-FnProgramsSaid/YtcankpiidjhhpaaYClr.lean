/- Clr, what is needed of it. -/
import Derived.Test.YtcankpiidjhhpaaYRich
import Derived.Lib.SliceRun
import Derived.Lib.LazyBuf
import Derived.Deep.MidRow
namespace Go.Proofs.Ytcankpiidjhhpaa
open Go Go.ChangeShapes Go.WideShapes Go.ChangeAt Go.RowKit Go.Lib
set_option linter.unusedVariables false
set_option maxRecDepth 100000
theorem run_clear_rows {P : Program} (w : World) (t e ty : TypeId) (z : Value) (size : Nat) (ht : P.underlying t = some (.slice e)) (hv : ∀ w, (zeroValue e).run P w = .ok z w) (hz : z.cells.size = size) (b o n c : Nat) (hn : 0 < n)
  (hc : ∀ j, j < n * size → (w.cell? ⟨b, o + j, none⟩).isSome = true) (hf : ∀ j, j < n * size → w.frozen? ⟨b, o + j, none⟩ = false) (h1 : ∀ v ∈ (Builtin.zeroCells z.cells n).toList, v.oneCell' = true) :
  (Builtin.clear_ #[t] ty #[.slice (some ⟨b, o, none⟩) n c]).run P w = .ok (.tuple #[]) (w.setCells b o (Builtin.zeroCells z.cells n).toList) := by
 have hlen : (Builtin.zeroCells z.cells n).toList.length = n * size := by simp [Builtin.zeroCells, hz]
 obtain ⟨m, rfl⟩ : ∃ m, n = m + 1 := ⟨n - 1, by omega⟩
 have hst := run_storeCells_cells (P := P) b o (Builtin.zeroCells z.cells (m + 1)).toList 0 w (fun j hj => by simpa using hc j (by rw [← hlen]; exact hj)) (fun j hj => by simpa using hf j (by rw [← hlen]; exact hj)) h1
 simp only [Nat.add_zero] at hst
 simp [Builtin.clear_, run_underlying ht, hv, hst]
theorem chg_setCells {lo hi g : Nat} {w : World} (hl : lo ≤ g) (hh : g < hi) : ∀ (vs : List Value) (o : Nat) (w' : World), Chg lo hi w w' → Chg lo hi w (w'.setCells g o vs)
 | [], _, _, h => h
 | v :: r, o, w', h => chg_setCells hl hh r (o + 1) _ (h.set_ (.inl ⟨hl, hh⟩) v)
end Go.Proofs.Ytcankpiidjhhpaa
