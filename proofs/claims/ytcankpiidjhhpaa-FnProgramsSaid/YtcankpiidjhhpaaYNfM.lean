/- NfM, what is needed of it. -/
import Derived.Test.YtcankpiidjhhpaaYGd
import Derived.Test.YtcankpiidjhhpaaYGc
namespace Go.Proofs.Ytcankpiidjhhpaa
open Go Go.ChangeShapes Go.WideShapes Go.ChangeAt Go.RowKit Go.Lib
set_option linter.unusedVariables false
set_option linter.unusedSimpArgs false
set_option maxRecDepth 100000
/-- A flow is added unless it is one back to its owner, or is there. -/
def addF (ext t0 : Int) (out : List TFlow) (x : Int) : List TFlow := if (x != t0) && !(out.any fun y => decide ((⟨ext, x, t0⟩ : TFlow) = y)) then out ++ [⟨ext, x, t0⟩] else out
def addS (ext : Int) (out : List TFlow) (e : TSent) : List TFlow := (mOwn e.f2).foldl (addF ext e.f0) out
def mNd (ext : Int) (s : List TSent) : List TFlow := s.foldl (addS ext) []
def mNeed (l : List TOp) (ext : Int) : List TFlow := if mAreOps l then mNd ext (mMc [] l).s else []
theorem mNd_snoc (ext : Int) (s : List TSent) (e : TSent) : mNd ext (s ++ [e]) = addS ext (mNd ext s) e := by simp [mNd]
theorem addF_len (ext t0 : Int) (out : List TFlow) (x : Int) : (addF ext t0 out x).length ≤ out.length + 1 := by
 unfold addF
 split <;> simp
theorem addF_folds (ext t0 : Int) : ∀ (l : List Int) (out : List TFlow), (l.foldl (addF ext t0) out).length ≤ out.length + l.length
 | [], out => by simp
 | x :: l, out => by
  have h1 := addF_folds ext t0 l (addF ext t0 out x)
  have h2 := addF_len ext t0 out x
  simp only [List.foldl_cons, List.length_cons] at h1 ⊢
  omega
theorem addS_len (ext : Int) (out : List TFlow) (e : TSent) : (addS ext out e).length ≤ out.length + 9 := by
 have h1 := addF_folds ext e.f0 (mOwn e.f2) out
 have h2 := mOwn_len e.f2
 unfold addS
 omega
theorem mNd_len (ext : Int) (s : List TSent) : (mNd ext s).length ≤ 9 * s.length := by
 have : ∀ (s : List TSent) (out : List TFlow), (s.foldl (addS ext) out).length ≤ out.length + 9 * s.length := by
  intro s
  induction s with
  | nil => intro out; simp
  | cons e s ih =>
   intro out
   have h1 := ih (addS ext out e)
   have h2 := addS_len ext out e
   simp only [List.foldl_cons, List.length_cons] at h1 ⊢
   omega
 simpa [mNd] using this s []
theorem mNeed_len (l : List TOp) (ext : Int) : (mNeed l ext).length ≤ 144 := by
 unfold mNeed
 split
 ·
  rename_i h
  have h1 := mNd_len ext (mMc [] l).s
  have h2 := mSent_le (vals := []) l
  simp only [mAreOps, Bool.and_eq_true, decide_eq_true_eq] at h
  have := h.1
  omega
 ·
  simp
theorem fold_take {α β : Type} {f : β → α → β} {l : List α} {k : Nat} {x : α} (h : l[k]? = some x) (b : β) : (l.take (k + 1)).foldl f b = f ((l.take k).foldl f b) x := by
 rw [List.take_add_one, h]
 simp
theorem addF_no {ext t0 x : Int} {out : List TFlow} (h : (x != t0) = false) : addF ext t0 out x = out := by unfold addF; rw [h]; rfl
theorem addF_has {ext t0 x : Int} {out : List TFlow} (h : (out.any fun y => decide ((⟨ext, x, t0⟩ : TFlow) = y)) = true) : addF ext t0 out x = out := by unfold addF; rw [h]; simp
theorem addF_new {ext t0 x : Int} {out : List TFlow} (h1 : (x != t0) = true) (h : (out.any fun y => decide ((⟨ext, x, t0⟩ : TFlow) = y)) = false) : addF ext t0 out x = out ++ [⟨ext, x, t0⟩] := by unfold addF; rw [h1, h]; rfl
theorem mOwn_in {x z : Int} (h : z ∈ mOwn x) : 1 ≤ z ∧ z ≤ 9 := by
 unfold mOwn at h
 rw [List.mem_filter] at h
 have := h.1
 simp only [rangeI, List.mem_map, List.mem_range] at this
 obtain ⟨j, hj, rfl⟩ := this
 omega
end Go.Proofs.Ytcankpiidjhhpaa
