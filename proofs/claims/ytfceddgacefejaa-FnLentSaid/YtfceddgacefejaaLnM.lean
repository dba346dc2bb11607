/- What FnLent asks, in plain words. No condition of its own. -/
import Derived.Test.YtfceddgacefejaaAllow
import Derived.Test.YtfceddgacefejaaIsLent
import Derived.Test.YtfceddgacefejaaEndL
import Derived.Test.YtfceddgacefejaaLTo
import Derived.Test.YtfceddgacefejaaLend
namespace Go.Proofs.Ytfceddgacefejaa
open Go Go.ChangeShapes Go.WideShapes Go.ChangeAt Go.RowKit Go.Lib
set_option linter.unusedVariables false
set_option linter.unusedSimpArgs false
set_option maxRecDepth 100000
theorem lt_ok {l : List TGrant} {e : Int} {s : TSite} {t : Int} (h : mLTk l e s t = true) : mLendOk e s t = true ∧ mLT l e s t = l ++ mMiss l (mLend e s t) ∧ l.length + (mMiss l (mLend e s t)).length ≤ 16 ∧ mLend e s t = [lent1 e s 1 t, lent1 e s 2 t] := by
  unfold mLTk at h
  have hX : mLendOk e s t = true := by
    cases hk : mLendOk e s t with
    | true => rfl
    | false =>
      have : mLend e s t = [] := by unfold mLend; rw [hk]; rfl
      rw [this] at h; simp [mLTkX] at h
  have h2 := h
  simp only [mLTkX, Bool.and_eq_true, decide_eq_true_eq] at h2
  refine ⟨hX, ?_, h2.2, by unfold mLend; rw [if_pos hX]⟩
  unfold mLT mLTX
  rw [if_pos h]
theorem lt_no {l : List TGrant} {e : Int} {s : TSite} {t : Int} (h : mLTk l e s t = false) : mLT l e s t = l := by
  unfold mLT mLTX; unfold mLTk at h; rw [h]; rfl
theorem lendok_iff (e : Int) (s : TSite) (t : Int) : mLendOk e s t = true ↔ (1 ≤ e ∧ e ≤ 5) ∧ ((1 ≤ s.f0 ∧ s.f0 ≤ 9) ∧ (0 ≤ s.f1 ∧ s.f1 ≤ 9)) ∧ (0 ≤ t ∧ t ≤ 9995) := by
  simp [mLendOk, inR, mIsSite, and_assoc]
theorem covers_iff (g : TGrant) (e : Int) (s : TSite) (k x : Int) (c : Bool) : mCovers g e s k x c = true ↔ (((1 ≤ g.f0 ∧ g.f0 ≤ 5) ∧ ((0 ≤ g.f1 ∧ g.f1 ≤ 9) ∧ (-1 ≤ g.f2 ∧ g.f2 ≤ 9)) ∧ (1 ≤ g.f3 ∧ g.f3 ≤ 4) ∧ 0 ≤ g.f4 ∧ g.f4 ≤ g.f5 ∧ g.f5 ≤ 10000) ∧ g.f0 = e ∧ g.f3 = k ∧ ((1 ≤ s.f0 ∧ s.f0 ≤ 9) ∧ (0 ≤ s.f1 ∧ s.f1 ≤ 9)) ∧ (g.f1 = 0 ∨ g.f1 = s.f0) ∧ (g.f2 = -1 ∨ g.f2 = s.f1) ∧ (g.f4 ≤ x ∧ x ≤ g.f5)) ∧ (c = true ∨ g.f6 = false) := by
  simp only [mCovers, mIsGrant, inR, mIsPattern, mMatchSite, mIsSite, mTakes, Bool.and_eq_true, decide_eq_true_eq, beq_iff_eq, Bool.or_eq_true, Bool.not_eq_true']
  constructor
  · rintro h
    refine ⟨by omega, h.2⟩
  · rintro ⟨h, h'⟩
    refine ⟨by omega, h'⟩
theorem islent_iff (g : TGrant) : mIsLent g = true ↔ ((1 ≤ g.f0 ∧ g.f0 ≤ 5) ∧ ((0 ≤ g.f1 ∧ g.f1 ≤ 9) ∧ (-1 ≤ g.f2 ∧ g.f2 ≤ 9)) ∧ (1 ≤ g.f3 ∧ g.f3 ≤ 4) ∧ 0 ≤ g.f4 ∧ g.f4 ≤ g.f5 ∧ g.f5 ≤ 10000) ∧ ¬ g.f1 = 0 ∧ ¬ g.f2 = -1 ∧ (1 ≤ g.f3 ∧ g.f3 ≤ 2) ∧ g.f5 = g.f4 + 5 ∧ g.f6 = false := by
  simp only [mIsLent, mIsGrant, inR, mIsPattern, Bool.and_eq_true, decide_eq_true_eq, beq_iff_eq, bne_iff_ne, Bool.not_eq_true', and_assoc, ne_eq]
theorem lent_covers {e : Int} {s : TSite} {t : Int} (h : mLendOk e s t = true) (k : Int) (hk : k = 1 ∨ k = 2) (x : Int) (hx : t ≤ x ∧ x ≤ t + 5) (c : Bool) : mCovers (lent1 e s k t) e s k x c = true := by
  rw [lendok_iff] at h
  have e0 : (lent1 e s k t).f0 = e := rfl
  have e1 : (lent1 e s k t).f1 = s.f0 := rfl
  have e2 : (lent1 e s k t).f2 = s.f1 := rfl
  have e3 : (lent1 e s k t).f3 = k := rfl
  have e4 : (lent1 e s k t).f4 = t := rfl
  have e5 : (lent1 e s k t).f5 = t + 5 := rfl
  have e6 : (lent1 e s k t).f6 = false := rfl
  generalize lent1 e s k t = g at *
  rw [covers_iff]
  exact ⟨by omega, .inr e6⟩
theorem lt_allowed {l : List TGrant} {e : Int} {s : TSite} {t : Int} (h : mLTk l e s t = true) (k : Int) (hk : k = 1 ∨ k = 2) (x : Int) (hx : t ≤ x ∧ x ≤ t + 5) : mAllowed (mLT l e s t) e s k x false = true := by
  obtain ⟨h1, h2, _, h4⟩ := lt_ok h
  rw [h2, h4]
  unfold mAllowed
  rw [List.any_eq_true]
  have hm : lent1 e s k t ∈ [lent1 e s 1 t, lent1 e s 2 t] := by rcases hk with rfl | rfl <;> simp
  refine ⟨lent1 e s k t, ?_, lent_covers h1 k hk x hx false⟩
  by_cases hin : lent1 e s k t ∈ l
  · exact List.mem_append_left _ hin
  · refine List.mem_append_right _ ?_
    unfold mMiss
    rw [List.mem_filter]
    refine ⟨hm, ?_⟩
    simp only [Bool.not_eq_true', List.any_eq_false, decide_eq_true_eq]
    intro y hy e'
    exact hin (e' ▸ hy)
theorem lend_none {e : Int} {s : TSite} {t : Int} (h : mLendOk e s t = true) (k : Int) (hk : k = 1 ∨ k = 2) (c : Bool) : mIsLent (lent1 e s k t) = true ∧ mCovers (lent1 e s k t) e s k (t + 5 + 1) c = false ∧ mCovers (lent1 e s k t) e ⟨s.f0, (s.f1 + 1) % 10⟩ k t c = false := by
  rw [lendok_iff] at h
  have e0 : (lent1 e s k t).f0 = e := rfl
  have e1 : (lent1 e s k t).f1 = s.f0 := rfl
  have e2 : (lent1 e s k t).f2 = s.f1 := rfl
  have e3 : (lent1 e s k t).f3 = k := rfl
  have e4 : (lent1 e s k t).f4 = t := rfl
  have e5 : (lent1 e s k t).f5 = t + 5 := rfl
  have e6 : (lent1 e s k t).f6 = false := rfl
  generalize lent1 e s k t = g at *
  refine ⟨?_, ?_, ?_⟩
  · rw [islent_iff]
    exact ⟨by omega, by omega, by omega, by omega, by omega, e6⟩
  · rw [Bool.eq_false_iff, ne_eq, covers_iff]
    omega
  · rw [Bool.eq_false_iff, ne_eq, covers_iff]
    have q1 : (TSite.mk s.f0 ((s.f1 + 1) % 10)).f1 = (s.f1 + 1) % 10 := rfl
    omega

theorem lt_fitG (l : List TGrant) (e : Int) (s : TSite) (t : Int) (H : Hid (cGrantOk l)) (h1 : 0 ≤ e) (h2 : e ≤ 9) (hs : s.fit) (h3 : -1 ≤ t) (h4 : t ≤ 99999) : Hid (cGrantOk (mLT l e s t)) := Lib.hid (by
  intro x hx
  unfold mLT mLTX at hx
  split at hx
  · rcases List.mem_append.1 hx with hx | hx
    · exact H.out x hx
    · have hx := (List.mem_filter.1 hx).1
      unfold mLend at hx
      split at hx
      · simp only [List.mem_cons, List.not_mem_nil, or_false] at hx
        unfold TSite.fit at hs
        rcases hx with rfl | rfl <;> (unfold TGrant.fit lent1; simp only; omega)
      · cases hx
  · exact H.out x hx)
theorem end_none {l : List TGrant} {s : TSite} : ∀ z ∈ l.filter (qNot (pEL s)), mIsLent z = true → mMatchSite ⟨z.f1, z.f2⟩ s = false := by
  intro z hz h
  have := (List.mem_filter.1 hz).2
  simp only [qNot, pEL, h, Bool.true_and, Bool.not_eq_true'] at this
  exact this
theorem lend_all {e : Int} {s : TSite} {t : Int} (h : mLendOk e s t = true) : ∀ z ∈ [lent1 e s 1 t, lent1 e s 2 t], mIsLent z = true ∧ mCovers z e s z.f3 (t + 5 + 1) true = false ∧ mCovers z e ⟨s.f0, (s.f1 + 1) % 10⟩ z.f3 t true = false := by
  intro z hz
  simp only [List.mem_cons, List.not_mem_nil, or_false] at hz
  rcases hz with rfl | rfl
  · exact lend_none h 1 (.inl rfl) true
  · exact lend_none h 2 (.inr rfl) true
theorem lcov_eq (g : TGrant) (ext : Int) (s : TSite) (kind tick : Int) (clicked v : Bool) (h : mCovers g ext s kind tick clicked = v) (W : World) : Calls Try.prog 24 #[vGrant g, .int .i64 ext, vSite s, .int .i64 kind, .int .i64 tick, .bool clicked] W (Says (.bool v) W) := h ▸ impl_Covers g ext s kind tick clicked W
theorem lisl_eq (g : TGrant) (v : Bool) (h : mIsLent g = v) (W : World) : Calls Try.prog 32 #[vGrant g] W (Says (.bool v) W) := h ▸ impl_IsLent g W
theorem lmat_eq (p : TPattern) (s : TSite) (v : Bool) (h : mMatchSite p s = v) (W : World) : Calls Try.prog 25 #[vPat p, vSite s] W (Says (.bool v) W) := h ▸ impl_MatchSite p s W
theorem lall_eq (l : List TGrant) (A : Option Addr) (n c lo hi : Nat) (ext : Int) (s : TSite) (kind tick : Int) (clicked v : Bool) (h : mAllowed l ext s kind tick clicked = v) (w : World) (hn : n ≤ 1048576) (hr : Rd w lo hi 7 A n (cGrant l)) (H : Hid (cGrantOk l)) :
    Calls Try.prog 18 #[.slice A n c, .int .i64 ext, vSite s, .int .i64 kind, .int .i64 tick, .bool clicked] w (Says (.bool v) w) := h ▸ impl_IsAllowed l A n c lo hi ext s kind tick clicked w hn hr H
end Go.Proofs.Ytfceddgacefejaa
