/- Requests that are sent on: how a chain goes on and ends. Lists alone. -/
import Derived.Test.YtfceddgacefejaaAct
import Derived.Test.YtfceddgacefejaaTSite
namespace Go.Proofs.Ytfceddgacefejaa
open Go Go.ChangeShapes Go.WideShapes Go.ChangeAt Go.RowKit Go.Lib
set_option linter.unusedVariables false
set_option linter.unusedSimpArgs false
set_option maxRecDepth 100000

/-- A code, a site and a path. -/
structure TOut where
  c : Int
  s : TSite
  p : List TSite
def reqAt (s : TSite) (k : Int) : TRequest := ⟨s.f0, s.f1, k⟩
def toOf (r : TRule) : TSite := ⟨r.f6, r.f7⟩
/-- The chain from a site, behind a path, in at most so many steps. -/
def fol (l : List TRule) (k : Int) : Nat → List TSite → TSite → TOut
  | 0, p, s => ⟨0, s, p⟩
  | f + 1, p, s => if s ∈ p then ⟨3, s, p⟩ else if p.length = 6 then ⟨4, s, p⟩
    else if mDecides l (reqAt s k) = false ∨ (mGot l (reqAt s k)).f5 = 1 then ⟨1, s, p ++ [s]⟩
    else if (mGot l (reqAt s k)).f5 = 2 then ⟨2, s, p ++ [s]⟩
    else fol l k f (p ++ [s]) (toOf (mGot l (reqAt s k)))
def mFol (l : List TRule) (q : TRequest) : TOut := if mIsRequest q = true then fol l q.f2 7 [] ⟨q.f0, q.f1⟩ else ⟨0, ⟨0, 0⟩, []⟩
theorem fol_len (l : List TRule) (k : Int) : ∀ (f : Nat) (p : List TSite) (s : TSite), p.length ≤ 6 → (fol l k f p s).p.length ≤ 6 := by
  intro f
  induction f with
  | zero => intro p s h; exact h
  | succ f ih =>
    intro p s h
    unfold fol
    split
    · exact h
    · split
      · exact h
      · split
        · simp; omega
        · split
          · simp; omega
          · exact ih _ _ (by simp; omega)
theorem mFol_len (l : List TRule) (q : TRequest) : (mFol l q).p.length ≤ 6 := by
  unfold mFol
  split
  · exact fol_len _ _ _ _ _ (by simp)
  · simp
section
variable {l : List TRule} {k : Int} {f : Nat} {p : List TSite} {s : TSite} {R : TOut}
theorem fol_loop (h : fol l k (f + 1) p s = R) (hm : s ∈ p) : R = ⟨3, s, p⟩ := by unfold fol at h; rw [if_pos hm] at h; exact h.symm
theorem fol_long (h : fol l k (f + 1) p s = R) (hm : ¬ s ∈ p) (hl : p.length = 6) : R = ⟨4, s, p⟩ := by unfold fol at h; rw [if_neg hm, if_pos hl] at h; exact h.symm
theorem fol_done (h : fol l k (f + 1) p s = R) (hm : ¬ s ∈ p) (hl : ¬ p.length = 6) (hd : mDecides l (reqAt s k) = false ∨ (mGot l (reqAt s k)).f5 = 1) : R = ⟨1, s, p ++ [s]⟩ := by unfold fol at h; rw [if_neg hm, if_neg hl, if_pos hd] at h; exact h.symm
theorem fol_stop (h : fol l k (f + 1) p s = R) (hm : ¬ s ∈ p) (hl : ¬ p.length = 6) (hd : mDecides l (reqAt s k) = true) (h1 : ¬ (mGot l (reqAt s k)).f5 = 1) (h2 : (mGot l (reqAt s k)).f5 = 2) : R = ⟨2, s, p ++ [s]⟩ := by
  unfold fol at h; rw [if_neg hm, if_neg hl, if_neg (by rw [hd]; simp [h1]), if_pos h2] at h; exact h.symm
theorem fol_on (h : fol l k (f + 1) p s = R) (hm : ¬ s ∈ p) (hl : ¬ p.length = 6) (hd : mDecides l (reqAt s k) = true) (h1 : ¬ (mGot l (reqAt s k)).f5 = 1) (h2 : ¬ (mGot l (reqAt s k)).f5 = 2) : fol l k f (p ++ [s]) (toOf (mGot l (reqAt s k))) = R := by
  unfold fol at h; rwa [if_neg hm, if_neg hl, if_neg (by rw [hd]; simp [h1]), if_neg h2] at h
end
theorem got_mem {l : List TRule} {q : TRequest} (h : mDecides l q = true) : mGot l q ∈ l := by
  unfold mDecides at h
  have h0 := of_decide_eq_true h
  have hb := decide_bd l q
  unfold mGot
  rw [if_neg (by omega)]
  have hlt : (mDecide l q).toNat < l.length := by omega
  rw [List.getElem?_eq_getElem hlt]
  exact List.getElem_mem hlt
theorem to_fit {l : List TRule} {q : TRequest} (hok : cRuleOk l) (h : mDecides l q = true) : (toOf (mGot l q)).fit := by
  have := hok _ (got_mem h)
  exact ⟨this.2.2.2.2.2.2.1, this.2.2.2.2.2.2.2⟩
theorem best_has {α : Type} {p : α → Bool} {lt : α → α → Bool} {l : List α} : ∀ k : Nat, bestOf p lt l k = -1 ∨ ∃ (m : Nat) (x : α), bestOf p lt l k = m ∧ l[m]? = some x ∧ p x = true := by
  intro k
  induction k with
  | zero => left; rfl
  | succ k ih =>
    cases hx : l[k]? with
    | none =>
      rw [bestOf, hx]
      exact ih
    | some x =>
      cases hp : p x with
      | false => rw [best_no hx hp]; exact ih
      | true =>
        rw [bestOf, hx]
        simp only
        generalize (p x && _) = b
        cases b with
        | true => exact .inr ⟨k, x, rfl, hx, hp⟩
        | false => exact ih
theorem got_applies {l : List TRule} {q : TRequest} (h : mDecides l q = true) : mApplies (mGot l q) q = true := by
  unfold mDecides at h
  have h0 := of_decide_eq_true h
  rcases best_has (p := fun r => mApplies r q) (lt := mIsBefore) (l := l) l.length with hb | ⟨m, x, hb, hx, hp⟩
  · unfold mDecide at h0; omega
  · have hg := (got_yes (l := l) (q := q) (m := m) (y := x) hb hx).1
    rw [hg]; exact hp
/-- Where the rule that decides sends the request on, there is a site, and the request stays valid. -/
theorem got_send {l : List TRule} {s : TSite} {k : Int} (h : mDecides l (reqAt s k) = true) (h1 : ¬ (mGot l (reqAt s k)).f5 = 1) (h2 : ¬ (mGot l (reqAt s k)).f5 = 2) :
    mIsRequest (reqAt (toOf (mGot l (reqAt s k))) k) = true := by
  have ha := got_applies h
  unfold mApplies at ha
  simp only [Bool.and_eq_true] at ha
  obtain ⟨⟨⟨hr, hq⟩, _⟩, _⟩ := ha
  unfold mIsRule at hr
  simp only [Bool.and_eq_true] at hr
  obtain ⟨⟨_, h5⟩, h3⟩ := hr
  have := inR_true.1 h5
  have e3 : ((mGot l (reqAt s k)).f5 == 3) = true := by simp; omega
  rw [e3] at h3
  simp at h3
  unfold mIsRequest at hq ⊢
  simp only [Bool.and_eq_true] at hq ⊢
  exact ⟨h3, hq.2⟩
end Go.Proofs.Ytfceddgacefejaa
