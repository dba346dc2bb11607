/- OwnersIn (with an owned row), of the program and of the model. -/
import Derived.Test.YtadochjnaocbgaaMask
import Derived.Test.YtadochjnaocbgaaFun
import Derived.Test.YtadochjnaocbgaaSlI
import Derived.Handy
import Derived.Deep.LoopGhost
namespace Go.Proofs.Ytadochjnaocbgaa
open Go Go.ChangeShapes Go.WideShapes Go.ChangeAt Go.RowKit Go.Lib
set_option linter.unusedVariables false
set_option linter.unusedSimpArgs false
set_option maxRecDepth 100000
def PredM {α : Type} (P : Program) (g : Nat) (mv : Value) (enc : α → Value) (p : α → Bool) (l : List α) (w : World) : Prop :=
  ∀ (W : World) (x : α), x ∈ l → Below w.heap.size w W → Calls P g #[mv, enc x] W (Says (.bool (p x)) W)
def rangeI (a : Int) (n : Nat) : List Int := (List.range n).map fun k : Nat => a + (k : Int)
theorem rangeI_len (a : Int) (n : Nat) : (rangeI a n).length = n := by simp [rangeI]
theorem rangeI_get (a : Int) {n k : Nat} (h : k < n) : (rangeI a n)[k]? = some (a + (k : Int)) := by simp [rangeI, h]
theorem rangeI_mem {a x : Int} {n : Nat} (h : x ∈ rangeI a n) : ∃ k : Nat, k < n ∧ x = a + (k : Int) := by
  simp [rangeI] at h
  obtain ⟨k, hk, rfl⟩ := h
  exact ⟨k, hk, rfl⟩
theorem info_intN : (Try.prog.info? 3).map (fun i => (i.zero, i.size, i.bytes)) = some (some (.int .i64 0), 1, 8) := by kernel_rfl
theorem one_intN (z : Int) : ∀ u ∈ (#[Value.int .i64 z]).toList, u.oneCell' = true := by
  intro u hu
  simp only [List.mem_singleton] at hu
  subst hu
  rfl
theorem filt_snoc {α : Type} {p : α → Bool} {l : List α} {k : Nat} {x : α} (h : l[k]? = some x) : (l.take (k + 1)).filter p = if p x = true then (l.take k).filter p ++ [x] else (l.take k).filter p := by
  rw [List.take_add_one, h, Option.toList_some, List.filter_append]
  by_cases hp : p x = true <;> simp [hp]
def mOwn (x : Int) : List Int := (rangeI 1 9).filter fun o => mIsLabel x && mHas x o.toNat
theorem mOwn_len (x : Int) : (mOwn x).length ≤ 9 := Nat.le_trans (List.length_filter_le _ _) (Nat.le_of_eq (rangeI_len _ _))
theorem mOwn_mask (x : Int) : (rangeI 1 9).filter (fun o => mHas (if mIsLabel x then x else 0) o.toNat) = mOwn x := by
  unfold mOwn
  cases mIsLabel x
  · simp [mHas]
  · simp
theorem hasq {x z : Int} (h0 : 0 ≤ x) (hz : 0 < z) : Int.tdiv x z = x / z ∧ Int.tmod (x / z) 2 = x / z % 2 := by
  refine ⟨Int.tdiv_eq_ediv_of_nonneg h0, Int.tmod_eq_emod_of_nonneg (Int.ediv_nonneg h0 (by omega))⟩
end Go.Proofs.Ytadochjnaocbgaa
