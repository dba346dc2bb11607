/- What FnSites asks, in plain words. No condition of its own. -/
import Derived.Test.YtlnmgfbfpjfddaaDoorMeet
import Derived.Test.YtlnmgfbfpjfddaaDoorNarrower
import Derived.Test.YtlnmgfbfpjfddaaDoorTxPat
namespace Go.Proofs.YtlnmgfbfpjfddaaDoor
open Go Go.ChangeShapes Go.WideShapes Go.ChangeAt Go.RowKit Go.Lib
set_option linter.unusedVariables false
set_option linter.unusedSimpArgs false
set_option maxRecDepth 100000
def nSite (n : Nat) : TSite := ⟨1 + ((n / 10 : Nat) : Int), ((n % 10 : Nat) : Int)⟩
def mBoth (p q : TPattern) (n : Nat) : Bool := mMatchSite p (nSite n) && mMatchSite q (nSite n)
def mLess (p q : TPattern) (n : Nat) : Bool := !mMatchSite p (nSite n) || mMatchSite q (nSite n)
theorem site_iff (p : TSite) : mIsSite p = true ↔ (1 ≤ p.f0 ∧ p.f0 ≤ 9) ∧ (0 ≤ p.f1 ∧ p.f1 ≤ 9) := by simp [mIsSite, inR]
theorem nSite_ok {n : Nat} (h : n < 90) : mIsSite (nSite n) = true := by
  rw [site_iff]; simp only [nSite]; omega
theorem nSite_at (s : TSite) (h : mIsSite s = true) : ∃ n, n < 90 ∧ nSite n = s := by
  obtain ⟨a, b⟩ := s
  simp [mIsSite, inR] at h
  refine ⟨((a - 1) * 10 + b).toNat, by omega, ?_⟩
  simp only [nSite, TSite.mk.injEq]
  omega
theorem takes_iff (all k n : Int) : mTakes all k n = true ↔ k = all ∨ k = n := by simp [mTakes]
theorem match_iff (p : TPattern) (s : TSite) : mMatchSite p s = true ↔ mIsPattern p = true ∧ mIsSite s = true ∧ (p.f0 = 0 ∨ p.f0 = s.f0) ∧ (p.f1 = -1 ∨ p.f1 = s.f1) := by
  simp only [mMatchSite, Bool.and_eq_true, takes_iff, and_assoc]
theorem pat_iff (p : TPattern) : mIsPattern p = true ↔ (0 ≤ p.f0 ∧ p.f0 ≤ 9) ∧ (-1 ≤ p.f1 ∧ p.f1 ≤ 9) := by simp [mIsPattern, inR]
theorem meetok_iff (p q : TPattern) : mMeetOk p q = true ↔ mIsPattern p = true ∧ mIsPattern q = true ∧ (p.f0 = 0 ∨ q.f0 = 0 ∨ p.f0 = q.f0) ∧ (p.f1 = -1 ∨ q.f1 = -1 ∨ p.f1 = q.f1) := by
  simp only [mMeetOk, Bool.and_eq_true, takes_iff, and_assoc, meet1]
  refine and_congr Iff.rfl (and_congr Iff.rfl (and_congr ?_ ?_))
  · split <;> omega
  · split <;> omega
theorem meet_both (p q : TPattern) (s : TSite) : (mMatchSite p s && mMatchSite q s) = (mMeetOk p q && mMatchSite (mMeet p q) s) := by
  rw [Bool.eq_iff_iff]
  simp only [Bool.and_eq_true]
  constructor
  · rintro ⟨h1, h2⟩
    rw [match_iff] at h1 h2
    obtain ⟨a1, a2, a3, a4⟩ := h1
    obtain ⟨b1, b2, b3, b4⟩ := h2
    have hk : mMeetOk p q = true := by
      rw [meetok_iff]
      exact ⟨a1, b1, by omega, by omega⟩
    refine ⟨hk, ?_⟩
    rw [match_iff]
    unfold mMeet
    rw [if_pos hk, pat_iff]
    rw [pat_iff] at a1 b1
    simp only [meet1]
    refine ⟨⟨?_, ?_⟩, a2, ?_, ?_⟩ <;> split <;> omega
  · rintro ⟨hk, h⟩
    rw [match_iff] at h
    unfold mMeet at h
    rw [if_pos hk] at h
    obtain ⟨_, h2, h3, h4⟩ := h
    rw [meetok_iff] at hk
    obtain ⟨k1, k2, k3, k4⟩ := hk
    rw [match_iff, match_iff]
    simp only [meet1] at h3 h4
    rw [site_iff] at h2
    refine ⟨⟨k1, (site_iff s).2 h2, ?_, ?_⟩, k2, (site_iff s).2 h2, ?_, ?_⟩
    all_goals (
      have g3 : (p.f0 = 0 → q.f0 = 0 ∨ q.f0 = s.f0) ∧ (¬ p.f0 = 0 → p.f0 = 0 ∨ p.f0 = s.f0) := ⟨fun e => by rw [if_pos e] at h3; exact h3, fun e => by rw [if_neg e] at h3; exact h3⟩
      have g4 : (p.f1 = -1 → q.f1 = -1 ∨ q.f1 = s.f1) ∧ (¬ p.f1 = -1 → p.f1 = -1 ∨ p.f1 = s.f1) := ⟨fun e => by rw [if_pos e] at h4; exact h4, fun e => by rw [if_neg e] at h4; exact h4⟩
      clear h3 h4
      omega)
theorem some_meet (p q : TPattern) : (List.range 90).any (mBoth p q) = mMeetOk p q := by
  rw [Bool.eq_iff_iff, List.any_eq_true]
  constructor
  · rintro ⟨n, hn, h⟩
    unfold mBoth at h
    rw [meet_both, Bool.and_eq_true] at h
    exact h.1
  · intro hk
    have hk' := hk
    rw [meetok_iff, pat_iff, pat_iff] at hk'
    obtain ⟨⟨a1, a2⟩, ⟨b1, b2⟩, c1, c2⟩ := hk'
    have ha : ∃ a : Int, 1 ≤ a ∧ a ≤ 9 ∧ (p.f0 = 0 ∨ p.f0 = a) ∧ (q.f0 = 0 ∨ q.f0 = a) := by
      by_cases h : p.f0 = 0
      · by_cases h' : q.f0 = 0
        · exact ⟨1, by omega, by omega, .inl h, .inl h'⟩
        · exact ⟨q.f0, by omega, by omega, .inl h, .inr rfl⟩
      · exact ⟨p.f0, by omega, by omega, .inr rfl, by omega⟩
    have hb : ∃ a : Int, 0 ≤ a ∧ a ≤ 9 ∧ (p.f1 = -1 ∨ p.f1 = a) ∧ (q.f1 = -1 ∨ q.f1 = a) := by
      by_cases h : p.f1 = -1
      · by_cases h' : q.f1 = -1
        · exact ⟨1, by omega, by omega, .inl h, .inl h'⟩
        · exact ⟨q.f1, by omega, by omega, .inl h, .inr rfl⟩
      · exact ⟨p.f1, by omega, by omega, .inr rfl, by omega⟩
    obtain ⟨a, x1, x2, x3, x4⟩ := ha
    obtain ⟨b, y1, y2, y3, y4⟩ := hb
    have hs : mIsSite ⟨a, b⟩ = true := (site_iff _).2 ⟨⟨x1, x2⟩, y1, y2⟩
    obtain ⟨n, hn, he⟩ := nSite_at _ hs
    refine ⟨n, List.mem_range.2 hn, ?_⟩
    unfold mBoth
    rw [he, Bool.and_eq_true, match_iff, match_iff, pat_iff, pat_iff]
    exact ⟨⟨⟨a1, a2⟩, hs, x3, y3⟩, ⟨b1, b2⟩, hs, x4, y4⟩
theorem less_narrow (p q : TPattern) : (mIsPattern p && mIsPattern q && (List.range 90).all (mLess p q)) = mIsNarrower p q := by
  unfold mIsNarrower
  rw [Bool.and_assoc (mIsPattern p && mIsPattern q)]
  cases hpq : (mIsPattern p && mIsPattern q)
  · rfl
  rw [Bool.true_and, Bool.true_and, Bool.eq_iff_iff, List.all_eq_true]
  have hp : mIsPattern p = true := by simp at hpq; exact hpq.1
  have hq : mIsPattern q = true := by simp at hpq; exact hpq.2
  have hp' := (pat_iff p).1 hp
  have hq' := (pat_iff q).1 hq
  have hL : ∀ n, mLess p q n = true ↔ (mMatchSite p (nSite n) = true → mMatchSite q (nSite n) = true) := by
    intro n
    unfold mLess
    cases mMatchSite p (nSite n) <;> simp
  constructor
  · intro h
    simp only [Bool.and_eq_true, Bool.or_eq_true, beq_iff_eq]
    have hx : ∀ a b : Int, 1 ≤ a → a ≤ 9 → 0 ≤ b → b ≤ 9 → (p.f0 = 0 ∨ p.f0 = a) → (p.f1 = -1 ∨ p.f1 = b) → (q.f0 = 0 ∨ q.f0 = a) ∧ (q.f1 = -1 ∨ q.f1 = b) := by
      intro a b h1 h2 h3 h4 h5 h6
      have hs : mIsSite ⟨a, b⟩ = true := (site_iff _).2 ⟨⟨h1, h2⟩, h3, h4⟩
      obtain ⟨n, hn, he⟩ := nSite_at _ hs
      have := (hL n).1 (h n (List.mem_range.2 hn))
      rw [he, match_iff, match_iff] at this
      obtain ⟨_, _, r⟩ := this ⟨hp, hs, h5, h6⟩
      exact r
    obtain ⟨a, ha1, ha2, ha3⟩ : ∃ a : Int, 1 ≤ a ∧ a ≤ 9 ∧ (p.f0 = 0 ∨ p.f0 = a) ∧ True := by
      by_cases h : p.f0 = 0
      · exact ⟨1, by omega, by omega, .inl h, trivial⟩
      · exact ⟨p.f0, by omega, by omega, .inr rfl, trivial⟩
    obtain ⟨b, hb1, hb2, hb3⟩ : ∃ a : Int, 0 ≤ a ∧ a ≤ 9 ∧ (p.f1 = -1 ∨ p.f1 = a) := by
      by_cases h : p.f1 = -1
      · exact ⟨0, by omega, by omega, .inl h⟩
      · exact ⟨p.f1, by omega, by omega, .inr rfl⟩
    constructor
    · by_cases h0 : p.f0 = 0
      · have h1 := (hx 1 b (by omega) (by omega) hb1 hb2 (.inl h0) hb3).1
        have h2 := (hx 2 b (by omega) (by omega) hb1 hb2 (.inl h0) hb3).1
        omega
      · have h1 := (hx p.f0 b (by omega) (by omega) hb1 hb2 (.inr rfl) hb3).1
        omega
    · by_cases h0 : p.f1 = -1
      · have h1 := (hx a 1 ha1 ha2 (by omega) (by omega) ha3.1 (.inl h0)).2
        have h2 := (hx a 2 ha1 ha2 (by omega) (by omega) ha3.1 (.inl h0)).2
        omega
      · have h1 := (hx a p.f1 ha1 ha2 (by omega) (by omega) ha3.1 (.inr rfl)).2
        omega
  · intro h n hn
    simp only [Bool.and_eq_true, Bool.or_eq_true, beq_iff_eq] at h
    rw [hL, match_iff, match_iff]
    rintro ⟨_, h2, h3, h4⟩
    exact ⟨hq, h2, by omega, by omega⟩
theorem any_snoc {f : Nat → Bool} (k : Nat) : (List.range (k + 1)).any f = ((List.range k).any f || f k) := by
  rw [List.range_succ, List.any_append]; simp
theorem all_snoc {f : Nat → Bool} (k : Nat) : (List.range (k + 1)).all f = ((List.range k).all f && f k) := by
  rw [List.range_succ, List.all_append]; simp
theorem ipat_eq (p : TPattern) (v : Bool) (h : mIsPattern p = v) (W : World) : Calls Tryd.prog 10 #[vPat p] W (Says (.bool v) W) := h ▸ impl_IsPattern p W
theorem spat_eq (p : TPattern) (v : Bool) (h : mIsPattern p = v) (W : World) : Calls Tryd.prog 11 #[vPat p] W (Says (.bool v) W) := h ▸ spec_IsPattern p W
theorem mats_eq (p : TPattern) (s : TSite) (v : Bool) (h : mMatchSite p s = v) (W : World) : Calls Tryd.prog 12 #[vPat p, vSite s] W (Says (.bool v) W) := h ▸ impl_MatchSite p s W
theorem inar_eq (p q : TPattern) (v : Bool) (h : mIsNarrower p q = v) (W : World) : Calls Tryd.prog 13 #[vPat p, vPat q] W (Says (.bool v) W) := h ▸ impl_IsNarrower p q W
theorem tPat_empty (p : TPattern) : (tPat p).isEmpty = !mIsPattern p := by
  unfold tPat
  cases mIsPattern p
  · rfl
  · rw [if_pos rfl]
    cases tOpt (p.f0 != 0) p.f0 <;> rfl
theorem tPat_str (p : TPattern) : (⟨(tPat p).toArray⟩ : ByteArray).toList.isEmpty = !mIsPattern p := by
  rw [ByteArray.toList_eq]; exact tPat_empty p
end Go.Proofs.YtlnmgfbfpjfddaaDoor
