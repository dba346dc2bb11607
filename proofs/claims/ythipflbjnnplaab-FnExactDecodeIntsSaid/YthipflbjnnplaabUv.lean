/- AppendUvarint, of the program and of the model. -/
import Derived.Test.YthipflbjnnplaabCloneB
import Derived.Test.YthipflbjnnplaabSlB
import Derived.Test.YthipflbjnnplaabIn
import Derived.Laws.BitsAllLaws
import Derived.Laws.BitsLemmas
import Derived.Deep.RegionWith
namespace Go.Proofs.Ythipflbjnnplaab
open Go Go.ChangeShapes Go.WideShapes Go.ChangeAt Go.RowKit Go.Lib
set_option linter.unusedVariables false
set_option maxRecDepth 100000

/-- The groups of seven bits of a number, the least first. -/
def uv (n : Nat) : List Int := if n < 128 then [(n : Int)] else ((n % 128 + 128 : Nat) : Int) :: uv (n / 128)
termination_by n
decreasing_by omega
theorem uv_small {n : Nat} (h : n < 128) : uv n = [(n : Int)] := by rw [uv, if_pos h]
theorem uv_big {n : Nat} (h : ¬ n < 128) : uv n = ((n % 128 + 128 : Nat) : Int) :: uv (n / 128) := by rw [uv, if_neg h]
theorem uv_len : ∀ (k n : Nat), n < 128 ^ k → (uv n).length ≤ k + 1
  | 0, n, h => by rw [uv_small (by simp at h; omega)]; simp
  | k + 1, n, h => by
    by_cases h1 : n < 128
    · rw [uv_small h1]; simp
    · rw [uv_big h1, List.length_cons]
      have := uv_len k (n / 128) (Nat.div_lt_of_lt_mul (by rw [Nat.pow_succ] at h; omega))
      omega
theorem uv_len6 {n : Nat} (h : n ≤ 1000000000000) : (uv n).length ≤ 7 := uv_len 6 n (by omega)
def mAppU (b : List Int) (n : Int) : List Int := if inR n 0 1000000000000 then b ++ uv n.toNat else b
theorem mAppU_len (b : List Int) (n : Int) : (mAppU b n).length ≤ b.length + 7 := by
  unfold mAppU
  split
  · rename_i h
    have := inR_true.1 h
    have := uv_len6 (n := n.toNat) (by omega)
    rw [List.length_append]; omega
  · omega
theorem or128 (m : Nat) : bits .or .u8 ((m : Int) % 256) 128 = ((m % 128 + 128 : Nat) : Int) := by
  have h : ∀ x : Fin 256, bits .or .u8 ((x.val : Nat) : Int) 128 = ((x.val % 128 + 128 : Nat) : Int) := by decide
  have := h ⟨m % 256, Nat.mod_lt _ (by omega)⟩
  simp only at this
  rw [show ((m : Int) % 256) = ((m % 256 : Nat) : Int) by omega, this]; congr 1; omega

/-- A call that appends to what is known of the slice. -/
def Ext (base n' : Nat) (xs' : List Value) (w : World) (e : Ending) (w' : World) : Prop :=
  ∃ v, e = .returned v ∧ w'.ownsRow base 5 1 v n' xs' ∧ Below base w w'

theorem and127 (m : Nat) (h : m ≤ 1000000000000) : bits .and .i64 (m : Int) 127 = ((m % 128 : Nat) : Int) := by
  have h2 : bits .and .i64 (m : Int) 127 = IntKind.i64.wrap ((BitVec.ofInt 64 (m : Int) &&& BitVec.ofInt 64 (127 : Int)).toNat : Int) := rfl
  have h3 : (BitVec.ofInt 64 (m : Int)).toNat = m := by
    rw [BitVec.ofInt_natCast, BitVec.toNat_ofNat]; exact Nat.mod_eq_of_lt (by omega)
  have h4 : (BitVec.ofInt 64 (127 : Int)).toNat = 2 ^ 7 - 1 := by decide
  rw [h2, BitVec.toNat_and, h3, h4, Nat.and_two_pow_sub_one_eq_mod, IntKind.wrap_i64]
  omega
theorem or128i (k : Nat) (h : k < 128) : bits .or .i64 (k : Int) 128 = ((k + 128 : Nat) : Int) := by
  have h' : ∀ x : Fin 128, bits .or .i64 ((x.val : Nat) : Int) 128 = ((x.val + 128 : Nat) : Int) := by decide
  exact h' ⟨k, h⟩
end Go.Proofs.Ythipflbjnnplaab
