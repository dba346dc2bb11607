/- What FnShadowed asks, in plain words. No condition of its own. -/
import Derived.Test.YtfceddgacefejaaShadS
import Derived.Test.YtfceddgacefejaaNcI
import Derived.Test.YtfceddgacefejaaClashC
import Derived.Test.YtfceddgacefejaaDecide
import Derived.Test.YtfceddgacefejaaLwD
import Derived.Test.YtfceddgacefejaaRuM
namespace Go.Proofs.Ytfceddgacefejaa
open Go Go.ChangeShapes Go.WideShapes Go.ChangeAt Go.RowKit Go.Lib
set_option linter.unusedVariables false
set_option linter.unusedSimpArgs false
set_option maxRecDepth 100000
theorem best_min {α : Type} (p : α → Bool) (lt : α → α → Bool) (hi : ∀ a, lt a a = false) (ht : ∀ a b c, lt a b = true → lt b c = true → lt a c = true) (l : List α) : ∀ k : Nat,
    (bestOf p lt l k = -1 ∧ ∀ (j : Nat) (y : α), j < k → l[j]? = some y → p y = false) ∨
    ∃ (m : Nat) (x : α), m < k ∧ bestOf p lt l k = (m : Int) ∧ l[m]? = some x ∧ p x = true ∧ ∀ (j : Nat) (y : α), j < k → l[j]? = some y → p y = true → lt y x = false := by
  intro k
  induction k with
  | zero => exact .inl ⟨by simp [bestOf], fun j y h => absurd h (by omega)⟩
  | succ k ih =>
    cases hz : l[k]? with
    | none =>
      have e : bestOf p lt l (k + 1) = bestOf p lt l k := by rw [bestOf, hz]
      rw [e]
      rcases ih with ⟨h1, h2⟩ | ⟨m, x, h1, h2, h3, h4, h5⟩
      · refine .inl ⟨h1, fun j y hj hy => ?_⟩
        by_cases e : j = k
        · rw [e, hz] at hy; cases hy
        · exact h2 j y (by omega) hy
      · refine .inr ⟨m, x, by omega, h2, h3, h4, fun j y hj hy hp => ?_⟩
        by_cases e : j = k
        · rw [e, hz] at hy; cases hy
        · exact h5 j y (by omega) hy hp
    | some z =>
      cases hp : p z with
      | false =>
        have e : bestOf p lt l (k + 1) = bestOf p lt l k := best_no hz hp
        rw [e]
        rcases ih with ⟨h1, h2⟩ | ⟨m, x, h1, h2, h3, h4, h5⟩
        · refine .inl ⟨h1, fun j y hj hy => ?_⟩
          by_cases e : j = k
          · rw [e, hz] at hy; cases hy; exact hp
          · exact h2 j y (by omega) hy
        · refine .inr ⟨m, x, by omega, h2, h3, h4, fun j y hj hy hpy => ?_⟩
          by_cases e : j = k
          · rw [e, hz] at hy; cases hy; rw [hp] at hpy; cases hpy
          · exact h5 j y (by omega) hy hpy
      | true =>
        rcases ih with ⟨h1, h2⟩ | ⟨m, x, h1, h2, h3, h4, h5⟩
        · refine .inr ⟨k, z, by omega, best_first hz hp h1, hz, hp, fun j y hj hy hpy => ?_⟩
          by_cases e : j = k
          · rw [e, hz] at hy; cases hy; exact hi _
          · rw [h2 j y (by omega) hy] at hpy; cases hpy
        · have hm : ¬ (bestOf p lt l k < 0) := by omega
          cases hl : lt z x with
          | true =>
            refine .inr ⟨k, z, by omega, best_yes hz hp h2 h3 hl, hz, hp, fun j y hj hy hpy => ?_⟩
            by_cases e : j = k
            · rw [e, hz] at hy; cases hy; exact hi _
            · cases hq : lt y z with
              | false => rfl
              | true => have := ht _ _ _ hq hl; rw [h5 j y (by omega) hy hpy] at this; cases this
          | false =>
            refine .inr ⟨m, x, by omega, best_less hz hp h2 h3 hl, h3, h4, fun j y hj hy hpy => ?_⟩
            by_cases e : j = k
            · rw [e, hz] at hy; cases hy; exact hl
            · exact h5 j y (by omega) hy hpy
theorem takes_iff' (all k n : Int) : mTakes all k n = true ↔ k = all ∨ k = n := by simp [mTakes]
theorem shad_applies {r u : TRule} {q : TRequest} (h : mShad r u = true) (ha : mApplies u q = true) : mApplies r q = true ∧ mIsBefore r u = true := by
  simp only [mShad, mApplies, mIsNarrower, mMatchSite, Bool.and_eq_true, Bool.or_eq_true, beq_iff_eq, takes_iff'] at h ha ⊢
  obtain ⟨⟨⟨⟨h1, h2⟩, h3⟩, ⟨⟨h4, h5⟩, h6⟩, h7⟩, h8⟩ := h
  obtain ⟨⟨⟨a1, a2⟩, ⟨⟨a3, a4⟩, a5⟩, a6⟩, a7⟩ := ha
  exact ⟨⟨⟨⟨h1, a2⟩, ⟨⟨h5, a4⟩, by omega⟩, by omega⟩, by omega⟩, h3⟩
theorem shad_rule {l : List TRule} {i : Int} (h : mShI l i = true) : ∃ u r, l[i.toNat]? = some u ∧ r ∈ l ∧ mShad r u = true ∧ mIsRule u = true := by
  unfold mShI at h
  split at h
  · rename_i u hu
    rw [List.any_eq_true] at h
    obtain ⟨r, hr, hs⟩ := h
    refine ⟨u, r, hu, hr, hs, ?_⟩
    simp only [mShad, Bool.and_eq_true] at hs
    exact hs.1.1.1.2
  · cases h
theorem shad_never {l : List TRule} {q : TRequest} {i : Int} (hi : 0 ≤ i) (h : mDecide l q = i) : mShI l i = false := by
  cases hs : mShI l i with
  | false => rfl
  | true =>
    obtain ⟨u, r, hu, hr, hsh, _⟩ := shad_rule hs
    rcases best_min (fun r => mApplies r q) mIsBefore before_irr before_trans l l.length with ⟨h1, _⟩ | ⟨m, x, _, h2, h3, h4, h5⟩
    · unfold mDecide at h; omega
    · have : i = (m : Int) := by unfold mDecide at h; omega
      subst this
      simp only [Int.toNat_natCast] at hu
      rw [h3] at hu; cases hu
      obtain ⟨j, hj, hjr⟩ := List.mem_iff_getElem.1 hr
      have hh := shad_applies (q := q) hsh h4
      have := h5 j r hj (by rw [List.getElem?_eq_getElem hj, hjr]) hh.1
      rw [hh.2] at this; cases this
theorem shr_decide (l : List TRule) (q : TRequest) : mDecide l q ∉ mShR l := by
  intro h
  have hm := List.mem_filter.1 h
  have h0 : 0 ≤ mDecide l q := by
    have := hm.1
    simp only [rangeI, List.mem_map, List.mem_range] at this
    omega
  rw [shad_never h0 rfl] at hm
  cases hm.2
theorem shr_sub (l : List TRule) : ∀ z ∈ mShR l, z ∈ mNC l := by
  intro z hz
  have hm := List.mem_filter.1 hz
  have h0 : 0 ≤ z := by
    have := hm.1
    simp only [rangeI, List.mem_map, List.mem_range] at this
    omega
  refine List.mem_filter.2 ⟨hm.1, ?_⟩
  obtain ⟨u, r, hu, _, _, hru⟩ := shad_rule hm.2
  rw [hu]
  simp only [hru, Bool.true_and, Bool.not_eq_true']
  cases hc : chosen l z with
  | false => rfl
  | true =>
    obtain ⟨o, m, _, _, _, he⟩ := (chosen_iff l z h0).1 hc
    have := shad_never h0 he
    rw [hm.2] at this; cases this
theorem cl_len (l : List TRule) (q : TRequest) : (mTo l q).length = (mCl l q).length := by
  have := congrArg List.length (mTo_at l q l.length (Nat.le_refl _))
  simpa [mTo, mCl] using this
theorem clash_two {l : List TRule} {q : TRequest} (h : mClash l q = true) : 2 ≤ (mTo l q).length := by
  rw [cl_len]
  unfold mClash at h
  generalize mCl l q = c at h ⊢
  match c, h with
  | [], h => simp at h
  | [a], h => simp [rClash_self] at h
  | a :: b :: t, _ => simp
theorem clash_count {l : List TRule} {q : TRequest} (h : mClash l q = true) : 0 < mCC l q.f0 := by
  have hq : mIsRequest q = true := by
    unfold mClash at h
    rw [List.any_eq_true] at h
    obtain ⟨a, ha, _⟩ := h
    have := (List.mem_filter.1 ha).2
    simp only [mApplies, Bool.and_eq_true] at this
    exact this.1.1.2
  simp only [mIsRequest, mIsSite, Bool.and_eq_true, inR_true] at hq
  unfold mCC
  refine List.length_pos_of_mem (a := q.f1 + 10 * (q.f2 - 1)) (List.mem_filter.2 ⟨?_, ?_⟩)
  · simp only [rangeI, List.mem_map, List.mem_range]
    exact ⟨(q.f1 + 10 * (q.f2 - 1)).toNat, by omega, by omega⟩
  · have : rqTo q.f0 (q.f1 + 10 * (q.f2 - 1)) = q := by
      unfold rqTo
      obtain ⟨a, b, c⟩ := q
      simp only at hq ⊢
      simp only [TRequest.mk.injEq, true_and]
      omega
    rw [this]; exact h

theorem sdec_eq (l : List TRule) (A : Option Addr) (n c lo hi : Nat) (q : TRequest) (v : Int) (h : mDecide l q = v) (w : World) (hn : n ≤ 1048576) (hr : Rd w lo hi 8 A n (cRule l)) (H : Hid (cRuleOk l)) :
    Calls Try.prog 36 #[.slice A n c, vReq q] w (Says (.int .i64 v) w) := h ▸ impl_DecideRule l A n c lo hi q w hn hr H
theorem sdes_eq (l : List TRule) (A : Option Addr) (n c lo hi : Nat) (q : TRequest) (v : Int) (h : mDecide l q = v) (w : World) (hn : n ≤ 1048576) (hr : Rd w lo hi 8 A n (cRule l)) (H : Hid (cRuleOk l)) :
    Calls Try.prog 37 #[.slice A n c, vReq q] w (Says (.int .i64 v) w) := h ▸ spec_DecideRule l A n c lo hi q w hn hr H
theorem scon_eq (l : List Int) (A : Option Addr) (n c lo hi : Nat) (z : Int) (v : Bool) (h : decide (z ∈ l) = v) (w : World) (hn : n ≤ 1048576) (hr : Rd w lo hi 1 A n (i64s l)) :
    Calls Try.prog 38 #[.slice A n c, .int .i64 z] w (Says (.bool v) w) := (laws_contains l A n c lo hi z w hn hr).mono (by rintro e w1 ⟨rfl, rfl⟩; exact ⟨by rw [h], Below.refl _ _⟩)
theorem swit_eq (l m : List Int) (A B : Option Addr) (n c n1 c1 lo hi lo1 hi1 : Nat) (w : World) (hn : n ≤ 1048576) (hn1 : n1 ≤ 1048576) (hr : Rd w lo hi 1 A n (i64s l)) (hr1 : Rd w lo1 hi1 1 B n1 (i64s m)) (h : ∀ z ∈ l, z ∈ m) :
    Calls Try.prog 39 #[.slice A n c, .slice B n1 c1] w (Says (.bool true) w) := (laws_within l m A B n c n1 c1 lo hi lo1 hi1 w hn hn1 hr hr1 h).mono (by rintro e w1 ⟨rfl, rfl⟩; exact ⟨rfl, Below.refl _ _⟩)
theorem sshd_eq (l : List TRule) (A : Option Addr) (n c lo hi : Nat) (i : Int) (v : Bool) (h : mISd l i = v) (w : World) (hn : n ≤ 1048576) (hr : Rd w lo hi 8 A n (cRule l)) (H : Hid (cRuleOk l)) :
    Calls Try.prog 41 #[.slice A n c, .int .i64 i] w (Says (.bool v) w) := h ▸ impl_IsShadowed l A n c lo hi i w hn hr H
theorem sclash_eq (l : List TRule) (A : Option Addr) (n c lo hi : Nat) (q : TRequest) (v : Bool) (h : mClash l q = v) (w : World) (hn : n ≤ 1048576) (hr : Rd w lo hi 8 A n (cRule l)) (H : Hid (cRuleOk l)) :
    Calls Try.prog 43 #[.slice A n c, vReq q] w (Says (.bool v) w) := h ▸ impl_ClashOf l A n c lo hi q w hn hr H
theorem scc_eq (l : List TRule) (A : Option Addr) (n c lo hi : Nat) (o : Int) (v : Nat) (h : mCC l o = v) (w : World) (hn : n ≤ 1048576) (hr : Rd w lo hi 8 A n (cRule l)) (H : Hid (cRuleOk l)) :
    Calls Try.prog 44 #[.slice A n c, .int .i64 o] w (Says (.int .i64 (v : Nat)) w) := h ▸ impl_ClashCount l A n c lo hi o w hn hr H
theorem shr_mem (l : List TRule) (i : Int) : decide (i ∈ mShR l) = mISd l i := by
  rw [← mShR_any]
  rw [Bool.eq_iff_iff]
  simp
end Go.Proofs.Ytfceddgacefejaa
