/- ReadUvarint, of the program and of the model. -/
import Derived.Test.YtblmdjdaiilmmaaUv
namespace Go.Proofs.Ytblmdjdaiilmmaa
open Go Go.ChangeShapes Go.WideShapes Go.ChangeAt Go.RowKit Go.Lib
set_option linter.unusedVariables false
set_option maxRecDepth 100000

/-- What is answered: the number, where it ends, whether there is one. -/
structure RdU where
  n : Int
  to : Int
  ok : Bool
def noU : RdU := ⟨0, 0, false⟩
/-- The number so far, and the group number k. -/
def grpU (n z : Int) (k : Nat) : Int := bits .or .i64 n (z % 128 * 128 ^ k)
def mRd (l : List Int) (o : Nat) : Nat → Nat → Int → RdU
  | 0, _, _ => noU
  | f + 1, k, n => match l[o + k]? with
    | none => noU
    | some z => if z < 128 then (if (decide (z = 0) && decide (0 < k)) || decide (1000000000000 < grpU n z k) then noU else ⟨grpU n z k, (o : Int) + k + 1, true⟩) else mRd l o f (k + 1) (grpU n z k)
def mReadU (l : List Int) (a : Int) : RdU := if a < 0 then noU else mRd l a.toNat 6 0 0
theorem and127b {z : Int} (h0 : 0 ≤ z) (h1 : z ≤ 255) : bits .and .i64 z 127 = z % 128 := by
  obtain ⟨m, rfl⟩ := Int.eq_ofNat_of_zero_le h0
  have h := and127 m (by omega)
  rw [h]; omega
theorem mRd_none {l : List Int} {o k f : Nat} {n : Int} {R : RdU} (h : mRd l o (f + 1) k n = R) (hl : l.length ≤ o + k) : R = noU := by
  unfold mRd at h
  rw [List.getElem?_eq_none hl] at h
  exact h.symm
theorem mRd_more {l : List Int} {o k f : Nat} {n z : Int} {R : RdU} (h : mRd l o (f + 1) k n = R) (hz : l[o + k]? = some z) (h1 : ¬ z < 128) : mRd l o f (k + 1) (grpU n z k) = R := by
  unfold mRd at h
  rw [hz] at h
  simpa [h1] using h
theorem mRd_bad {l : List Int} {o k f : Nat} {n z : Int} {R : RdU} (h : mRd l o (f + 1) k n = R) (hz : l[o + k]? = some z) (h1 : z < 128) (h2 : z = 0 ∧ 0 < k ∨ 1000000000000 < grpU n z k) : R = noU := by
  unfold mRd at h
  rw [hz] at h
  simp only [h1, if_true] at h
  rw [if_pos (by simpa using h2)] at h
  exact h.symm
theorem mRd_good {l : List Int} {o k f : Nat} {n z : Int} {R : RdU} (h : mRd l o (f + 1) k n = R) (hz : l[o + k]? = some z) (h1 : z < 128) (h2 : ¬ (z = 0 ∧ 0 < k ∨ 1000000000000 < grpU n z k)) : R = ⟨grpU n z k, (o : Int) + k + 1, true⟩ := by
  unfold mRd at h
  rw [hz] at h
  simp only [h1, if_true] at h
  rw [if_neg (by simpa using h2)] at h
  exact h.symm
end Go.Proofs.Ytblmdjdaiilmmaa
