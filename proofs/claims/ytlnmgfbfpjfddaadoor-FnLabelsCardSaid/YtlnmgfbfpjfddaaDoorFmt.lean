import Derived.Test.YtlnmgfbfpjfddaaDoorRows
import Derived.Test.YtlnmgfbfpjfddaaDoorNum
import Derived.WalkKit
import Derived.WalkLawsBesides
import Derived.Lib.Hide
import Derived.Laws.BytesArg
namespace Go.Proofs.YtlnmgfbfpjfddaaDoor
open Go.RowKit Go.Lib

theorem conv_one (w : World) (c : Int) : (convert 22 9 (.slice (some ⟨w.heap.size, 0, none⟩) 1 1)).run Tryd.prog (w.alloc (.cells #[.int .u8 c] 5)) =
    .ok (.string ⟨#[UInt8.ofNat c.toNat]⟩) (w.alloc (.cells #[.int .u8 c] 5)) := by
  rw [run_convert_bytes_arg (P := Tryd.prog) (w.alloc (.cells #[.int .u8 c] 5)) 22 5 Tryd.underlying22 Tryd.underlying5 w.heap.size 0 1 1 [c] rfl (fun i hi => by
    obtain rfl : i = 0 := by omega
    rw [World.cell?_alloc_new]; rfl) 9 Tryd.underlying9]
  rfl

theorem tmod_nonpos {y : Int} (h : y ≤ 0) : y.tmod 10 ≤ 0 := by
  obtain ⟨m, rfl⟩ : ∃ m : Nat, y = -(m : Int) := ⟨y.natAbs, by omega⟩
  rw [Int.neg_tmod]
  have : 0 ≤ (m : Int).tmod 10 := Int.tmod_nonneg _ (by omega)
  omega
theorem neg_tmod_abs {y : Int} (h : y ≤ 0) : -(y.tmod 10) = (y.natAbs % 10 : Nat) := by
  obtain ⟨m, rfl⟩ : ∃ m : Nat, y = -(m : Int) := ⟨y.natAbs, by omega⟩
  rw [Int.neg_tmod, Int.neg_neg, Int.tmod_eq_emod_of_nonneg (by omega)]
  omega
theorem tdiv_abs (y : Int) : (y.tdiv 10).natAbs = y.natAbs / 10 := by
  rw [Int.natAbs_tdiv]; rfl
theorem tdiv_bd (y : Int) (h : y ≤ 0) : y ≤ y.tdiv 10 ∧ y.tdiv 10 ≤ 0 := by
  obtain ⟨m, rfl⟩ : ∃ m : Nat, y = -(m : Int) := ⟨y.natAbs, by omega⟩
  rw [Int.neg_tdiv, Int.tdiv_eq_ediv_of_nonneg (by omega)]
  omega

end Go.Proofs.YtlnmgfbfpjfddaaDoor
