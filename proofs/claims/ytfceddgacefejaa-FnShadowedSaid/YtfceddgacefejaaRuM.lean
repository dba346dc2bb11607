/- What FnRules asks, in plain words. No condition of its own. -/
import Derived.Test.YtfceddgacefejaaBeforeS
import Derived.Test.YtfceddgacefejaaApplies
import Derived.Test.YtfceddgacefejaaActName
namespace Go.Proofs.Ytfceddgacefejaa
open Go Go.ChangeShapes Go.WideShapes Go.ChangeAt Go.RowKit Go.Lib
set_option linter.unusedVariables false
set_option linter.unusedSimpArgs false
set_option maxRecDepth 100000
theorem before_iff (a b : TRule) : mIsBefore a b = true ↔ b.f1 < a.f1 ∨ (a.f1 = b.f1 ∧ (a.f5 < b.f5 ∨ (a.f5 = b.f5 ∧ (a.f0 < b.f0 ∨ (a.f0 = b.f0 ∧ (a.f6 < b.f6 ∨ (a.f6 = b.f6 ∧ a.f7 < b.f7))))))) := by
  rw [before_eq]
  by_cases h1 : a.f1 = b.f1
  · by_cases h2 : a.f5 = b.f5
    · by_cases h3 : a.f0 = b.f0
      · by_cases h4 : a.f6 = b.f6
        · simp [h1, h2, h3, h4]
        · simp [h1, h2, h3, h4]
      · simp [h1, h2, h3]
    · simp [h1, h2]
  · simp [h1]
theorem before_irr (a : TRule) : mIsBefore a a = false := by
  rw [Bool.eq_false_iff]; intro h; rw [before_iff] at h; omega
theorem before_anti (a b : TRule) (h : mIsBefore a b = true) : mIsBefore b a = false := by
  rw [Bool.eq_false_iff]; intro h'; rw [before_iff] at h h'; omega
theorem before_tri (a b : TRule) (h : mIsBefore a b = false) (h' : mIsBefore b a = false) : a.f1 = b.f1 ∧ a.f5 = b.f5 ∧ a.f0 = b.f0 ∧ a.f6 = b.f6 ∧ a.f7 = b.f7 := by
  have e : ¬ mIsBefore a b = true := by rw [h]; decide
  have e' : ¬ mIsBefore b a = true := by rw [h']; decide
  rw [before_iff] at e e'; omega
theorem before_trans (a b c : TRule) (h : mIsBefore a b = true) (h' : mIsBefore b c = true) : mIsBefore a c = true := by
  rw [before_iff] at h h' ⊢; omega
theorem applies_rule {r : TRule} {q : TRequest} (h : mApplies r q = true) : mIsRule r = true ∧ mIsRequest q = true ∧ mMatchSite ⟨r.f2, r.f3⟩ ⟨q.f0, q.f1⟩ = true := by
  simp only [mApplies, Bool.and_eq_true] at h
  exact ⟨h.1.1.1, h.1.1.2, h.1.2⟩
theorem rule_name {r : TRule} (h : mIsRule r = true) : (mActName r.f5 == ⟨#[]⟩) = false := by
  simp only [mIsRule, Bool.and_eq_true, inR, decide_eq_true_eq] at h
  have h5 : r.f5 = 1 ∨ r.f5 = 2 ∨ r.f5 = 3 := by omega
  rcases h5 with e | e | e <;> rw [e] <;> decide
theorem rule_nm {r : TRule} (h : mIsRule r = true) : (mActName r.f5).toList.isEmpty = false := by
  simp only [mIsRule, Bool.and_eq_true, inR, decide_eq_true_eq] at h
  have h5 : r.f5 = 1 ∨ r.f5 = 2 ∨ r.f5 = 3 := by omega
  rcases h5 with e | e | e <;> rw [e, ByteArray.toList_eq] <;> rfl
theorem isb_eq (a b : TRule) (v : Bool) (h : mIsBefore a b = v) (W : World) : Calls Try.prog 142 #[vRule a, vRule b] W (Says (.bool v) W) := h ▸ impl_IsBefore a b W
theorem app_eq (r : TRule) (q : TRequest) (v : Bool) (h : mApplies r q = v) (W : World) : Calls Try.prog 141 #[vRule r, vReq q] W (Says (.bool v) W) := h ▸ impl_Applies r q W
theorem isr_eq (r : TRule) (v : Bool) (h : mIsRule r = v) (W : World) : Calls Try.prog 148 #[vRule r] W (Says (.bool v) W) := h ▸ impl_IsRule r W
theorem isq_eq (q : TRequest) (v : Bool) (h : mIsRequest q = v) (W : World) : Calls Try.prog 47 #[vReq q] W (Says (.bool v) W) := h ▸ impl_IsRequest q W
theorem mat_eq (p : TPattern) (s : TSite) (v : Bool) (h : mMatchSite p s = v) (W : World) : Calls Try.prog 25 #[vPat p, vSite s] W (Says (.bool v) W) := h ▸ impl_MatchSite p s W
end Go.Proofs.Ytfceddgacefejaa
