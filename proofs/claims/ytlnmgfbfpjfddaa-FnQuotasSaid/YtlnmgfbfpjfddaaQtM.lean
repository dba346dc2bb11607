/- What FnQuotas asks, in plain words. No condition of its own. -/
import Derived.Test.YtlnmgfbfpjfddaaAddRule
import Derived.Test.YtlnmgfbfpjfddaaFair
import Derived.Test.YtlnmgfbfpjfddaaRoom
import Derived.Test.YtlnmgfbfpjfddaaEqSRule
import Derived.Test.YtlnmgfbfpjfddaaDropRules
import Derived.Test.YtlnmgfbfpjfddaaRulesOf
namespace Go.Proofs.Ytlnmgfbfpjfddaa
open Go Go.ChangeShapes Go.WideShapes Go.ChangeAt Go.RowKit Go.Lib
set_option linter.unusedVariables false
set_option linter.unusedSimpArgs false
set_option maxRecDepth 100000
theorem cnt_add (l : List TRule) (r : TRule) (j : Int) : mCnt (l ++ [r]) j = mCnt l j + (if r.f0 == j then 1 else 0) := by
  unfold mCnt
  rw [List.filter_append, List.length_append]
  congr 1
  cases h : r.f0 == j <;> simp [List.filter_cons, h]
theorem room_pos {l : List TRule} {e : Int} (h : 0 < mRoom l e) : mCnt l e ≤ 5 ∧ l.length ≤ 19 := by
  unfold mRoom at h
  split at h
  · unfold mMax mMin at h
    split at h
    · split at h <;> omega
    · omega
  · omega
theorem can_parts {l : List TRule} {r : TRule} (h : mCan l r = true) : mIsRule r = true ∧ 0 < mRoom l r.f0 := by
  unfold mCan at h
  simp only [Bool.and_eq_true, decide_eq_true_eq] at h
  exact ⟨h.1.1, h.2⟩
theorem fair_add {l : List TRule} {r : TRule} (hf : mFair l = true) (h : mCan l r = true) : mFair (l ++ [r]) = true := by
  obtain ⟨h1, h2⟩ := can_parts h
  obtain ⟨h3, h4⟩ := room_pos h2
  unfold mFair at hf ⊢
  simp only [Bool.and_eq_true, decide_eq_true_eq] at hf ⊢
  have hc : ∀ j : Int, mCnt l j ≤ 6 → mCnt (l ++ [r]) j ≤ 6 := fun j hj => by
    rw [cnt_add]
    split
    · rename_i e
      have e := eq_of_beq e
      subst e; omega
    · omega
  obtain ⟨⟨⟨⟨⟨⟨a0, a1⟩, a2⟩, a3⟩, a4⟩, a5⟩, a6⟩ := hf
  refine ⟨⟨⟨⟨⟨⟨?_, ?_⟩, hc _ a2⟩, hc _ a3⟩, hc _ a4⟩, hc _ a5⟩, hc _ a6⟩
  · rw [List.all_append, a0]; simp [h1]
  · simp; omega
theorem drop_none (l : List TRule) (e : Int) : (l.filter fun x => x.f0 != e).filter (fun x => x.f0 == e) = [] := by
  rw [List.filter_filter]
  simp
theorem split_len (l : List TRule) (e : Int) : (l.filter fun x => x.f0 != e).length + (l.filter fun x => x.f0 == e).length = l.length := by
  induction l with
  | nil => rfl
  | cons x l ih =>
    by_cases h : x.f0 = e
    · have h1 : (x.f0 == e) = true := by simp [h]
      have h2 : (x.f0 != e) = false := by simp [h]
      rw [List.filter_cons, List.filter_cons, h1, h2]; simp; omega
    · have h1 : (x.f0 == e) = false := by simp [h]
      have h2 : (x.f0 != e) = true := by simp [h]
      rw [List.filter_cons, List.filter_cons, h1, h2]; simp; omega
theorem room_nonneg (l : List TRule) (e : Int) : 0 ≤ mRoom l e := by
  unfold mRoom
  split
  · unfold mMax mMin
    split
    · split <;> omega
    · omega
  · omega
theorem room_drop (l : List TRule) (e : Int) : mRoom l e ≤ mRoom (l.filter fun x => x.f0 != e) e := by
  have h0 : mCnt (l.filter fun x => x.f0 != e) e = 0 := by unfold mCnt; rw [drop_none]; rfl
  have h1 := List.length_filter_le (fun x : TRule => x.f0 != e) l
  unfold mRoom
  rw [h0]
  split
  · unfold mMax mMin
    (repeat' split) <;> omega
  · omega
theorem qcan_eq (l : List TRule) (A : Option Addr) (n c lo hi : Nat) (r : TRule) (v : Bool) (h : mCan l r = v) (w : World) (hn : n ≤ 1048576) (hr : Rd w lo hi 8 A n (cRule l)) (H : Hid (cRuleOk l)) (Hr : Hid (TRule.fit r)) :
    Calls Try.prog 49 #[.slice A n c, vRule r] w (Says (.bool v) w) := h ▸ impl_CanAddRule l A n c lo hi r w hn hr H Hr
theorem qfair_eq (l : List TRule) (A : Option Addr) (n c lo hi : Nat) (v : Bool) (h : mFair l = v) (w : World) (hn : n ≤ 1048576) (hr : Rd w lo hi 8 A n (cRule l)) (hc : n ≤ c) (H : Hid (cRuleOk l)) :
    Calls Try.prog 50 #[.slice A n c] w (Says (.bool v) w) := h ▸ impl_IsFairC l A n c lo hi w hn hr hc H
theorem qroom_eq (l : List TRule) (A : Option Addr) (n c lo hi : Nat) (e v : Int) (h : mRoom l e = v) (w : World) (hn : n ≤ 1048576) (hr : Rd w lo hi 8 A n (cRule l)) (H : Hid (cRuleOk l)) (we : (Lit.int .i64 e).wf = true) :
    Calls Try.prog 51 #[.slice A n c, .int .i64 e] w (Says (.int .i64 v) w) := h ▸ impl_RoomFor l A n c lo hi e w hn hr H we
theorem qeqr_eq (l : List TRule) (A0 : Option Addr) (n0 c0 lo0 hi0 : Nat) (A1 : Option Addr) (n1 c1 lo1 hi1 : Nat) (w : World) (h0 : n0 ≤ 1048576) (r0 : Rd w lo0 hi0 8 A0 n0 (cRule l)) (h1 : n1 ≤ 1048576) (r1 : Rd w lo1 hi1 8 A1 n1 (cRule l)) (b : Hid (cRuleOk l)) :
    Calls Try.prog 52 #[.slice A0 n0 c0, .slice A1 n1 c1] w (Says (.bool true) w) := (decide_eq_true (rfl : l = l)) ▸ impl_EqualRules l A0 n0 c0 lo0 hi0 l A1 n1 c1 lo1 hi1 w h0 r0 b h1 r1 b
theorem rfilter_ok {l : List TRule} (p : TRule → Bool) (H : Hid (cRuleOk l)) : Hid (cRuleOk (l.filter p)) := Lib.hid fun x hx => H.out x (List.mem_filter.1 hx).1
end Go.Proofs.Ytlnmgfbfpjfddaa
