/- Which rules some request to a site chooses: the program's way through the requests and the model's. Plain lists. -/
import Derived.Test.YtfceddgacefejaaDecide
import Derived.Test.YtfceddgacefejaaPut
import Derived.Test.YtfceddgacefejaaApT
namespace Go.Proofs.Ytfceddgacefejaa
open Go Go.ChangeShapes Go.WideShapes Go.ChangeAt Go.RowKit Go.Lib
set_option linter.unusedVariables false
set_option linter.unusedSimpArgs false
set_option maxRecDepth 100000
/-- The model's request number k, and the program's number m for an owner. -/
def nReq (k : Nat) : TRequest := ⟨1 + (k : Int) / 10 % 9, (k : Int) % 10, 1 + (k : Int) / 90⟩
def oReq (o m : Nat) : TRequest := ⟨(o : Int), (m : Int) % 10, 1 + (m : Int) / 10⟩
/-- What the first k requests of the model choose. -/
def nDs (l : List TRule) (k : Nat) : List Int := ((List.range k).map fun j => mDecide l (nReq j)).filter fun z => decide (0 ≤ z)
theorem nDs_yes {l : List TRule} {k : Nat} (h : 0 ≤ mDecide l (nReq k)) : nDs l (k + 1) = nDs l k ++ [mDecide l (nReq k)] := by
  unfold nDs; rw [List.range_succ, List.map_append, List.filter_append]; simp [h]
theorem nDs_no {l : List TRule} {k : Nat} (h : ¬ 0 ≤ mDecide l (nReq k)) : nDs l (k + 1) = nDs l k := by
  unfold nDs; rw [List.range_succ, List.map_append, List.filter_append]; simp [h]
theorem nDs_len (l : List TRule) (k : Nat) : (nDs l k).length ≤ k := by
  unfold nDs; refine Nat.le_trans (List.length_filter_le _ _) ?_; simp
/-- Rule i is chosen by some request. -/
def chosen (l : List TRule) (i : Int) : Bool := (mAsd (nDs l 360)).any fun z => z == i
def mNC (l : List TRule) : List Int := (rangeI 0 l.length).filter fun i => (match l[i.toNat]? with | some r => mIsRule r | none => false) && !chosen l i
theorem mNC_len (l : List TRule) : (mNC l).length ≤ l.length := by
  unfold mNC; exact Nat.le_trans (List.length_filter_le _ _) (by rw [rangeI_len]; exact Nat.le_refl _)
theorem req_there (o m : Nat) (h1 : 1 ≤ o) (h2 : o ≤ 9) (h3 : m < 40) : ∃ k, k < 360 ∧ nReq k = oReq o m := by
  refine ⟨m / 10 * 90 + (o - 1) * 10 + m % 10, by omega, ?_⟩
  unfold nReq oReq
  have e1 : 1 + ((m / 10 * 90 + (o - 1) * 10 + m % 10 : Nat) : Int) / 10 % 9 = (o : Int) := by omega
  have e2 : ((m / 10 * 90 + (o - 1) * 10 + m % 10 : Nat) : Int) % 10 = (m : Int) % 10 := by omega
  have e3 : 1 + ((m / 10 * 90 + (o - 1) * 10 + m % 10 : Nat) : Int) / 90 = 1 + (m : Int) / 10 := by omega
  rw [e1, e2, e3]
theorem req_back (k : Nat) (h : k < 360) : ∃ o m, 1 ≤ o ∧ o ≤ 9 ∧ m < 40 ∧ nReq k = oReq o m := by
  refine ⟨1 + k / 10 % 9, k / 90 * 10 + k % 10, by omega, by omega, by omega, ?_⟩
  unfold nReq oReq
  have e1 : 1 + (k : Int) / 10 % 9 = ((1 + k / 10 % 9 : Nat) : Int) := by omega
  have e2 : (k : Int) % 10 = ((k / 90 * 10 + k % 10 : Nat) : Int) % 10 := by omega
  have e3 : 1 + (k : Int) / 90 = 1 + ((k / 90 * 10 + k % 10 : Nat) : Int) / 10 := by omega
  rw [e1, ← e2, ← e3]
theorem chosen_iff (l : List TRule) (i : Int) (hi : 0 ≤ i) : chosen l i = true ↔ ∃ o m, 1 ≤ o ∧ o ≤ 9 ∧ m < 40 ∧ mDecide l (oReq o m) = i := by
  unfold chosen
  rw [List.any_eq_true]
  constructor
  · rintro ⟨z, hz, he⟩
    obtain rfl : z = i := by simpa using he
    rw [mem_mAsd] at hz
    unfold nDs at hz
    rw [List.mem_filter, List.mem_map] at hz
    obtain ⟨⟨k, hk, rfl⟩, _⟩ := hz
    obtain ⟨o, m, h1, h2, h3, e⟩ := req_back k (List.mem_range.1 hk)
    exact ⟨o, m, h1, h2, h3, by rw [e]⟩
  · rintro ⟨o, m, h1, h2, h3, rfl⟩
    obtain ⟨k, hk, e⟩ := req_there o m h1 h2 h3
    refine ⟨mDecide l (oReq o m), ?_, by simp⟩
    rw [mem_mAsd]
    unfold nDs
    rw [List.mem_filter, List.mem_map]
    exact ⟨⟨k, List.mem_range.2 hk, by rw [e]⟩, by simpa using hi⟩
end Go.Proofs.Ytfceddgacefejaa
