/- What FnFollowed asks, in plain words. No condition of its own. -/
import Derived.Test.YtfceddgacefejaaFolM
import Derived.Test.YtfceddgacefejaaFolI
import Derived.Test.YtfceddgacefejaaLps
import Derived.Test.YtfceddgacefejaaEqOutcome
import Derived.Test.YtfceddgacefejaaOutName
import Derived.Test.YtfceddgacefejaaLwD
import Derived.Test.YtfceddgacefejaaRule
namespace Go.Proofs.Ytfceddgacefejaa
open Go Go.ChangeShapes Go.WideShapes Go.ChangeAt Go.RowKit Go.Lib
set_option linter.unusedVariables false
set_option linter.unusedSimpArgs false
set_option maxRecDepth 100000
theorem got_f5 {l : List TRule} {q : TRequest} (h : mDecides l q = true) : 1 ≤ (mGot l q).f5 ∧ (mGot l q).f5 ≤ 3 := by
  have ha := got_applies h
  unfold mApplies at ha
  simp only [Bool.and_eq_true] at ha
  have hr := ha.1.1.1
  unfold mIsRule at hr
  simp only [Bool.and_eq_true] at hr
  exact inR_true.1 hr.1.2
def aAt (l : List TRule) (k : Int) (s : TSite) : Int := mActFor l (reqAt s k)
structure Good (l : List TRule) (k : Int) (R : TOut) : Prop where
  nd : R.p.Nodup
  pos : 1 ≤ R.p.length
  le : R.p.length ≤ 6
  c1 : 1 ≤ R.c
  c4 : R.c ≤ 4
  on : ∀ (i : Nat) (x : TSite), R.p[i]? = some x → i + 1 < R.p.length → aAt l k x = 3
  last : ∀ (i : Nat) (x : TSite), R.p[i]? = some x → i + 1 = R.p.length → (R.c = 1 ↔ aAt l k x = 1) ∧ (R.c = 2 ↔ aAt l k x = 2)
theorem good_end {l : List TRule} {k : Int} {p : List TSite} {s : TSite} {c : Int} (hn : p.Nodup) (hs : ¬ s ∈ p) (hl : p.length ≤ 5) (ha : ∀ x ∈ p, aAt l k x = 3) (hc : 1 ≤ c ∧ c ≤ 2) (he : aAt l k s = c) : Good l k ⟨c, s, p ++ [s]⟩ where
  nd := by
    rw [List.nodup_append]
    refine ⟨hn, by simp, ?_⟩
    intro a h b hb e
    rw [List.mem_singleton] at hb
    subst hb; subst e; exact hs h
  pos := by simp
  le := by simp; omega
  c1 := hc.1
  c4 := by show c ≤ 4; omega
  on := by
    intro i x hx hi
    simp only [List.length_append, List.length_cons, List.length_nil] at hi
    have hx : (p ++ [s])[i]? = some x := hx
    rw [List.getElem?_append_left (by omega)] at hx
    exact ha x (List.mem_of_getElem? hx)
  last := by
    intro i x hx hi
    simp only [List.length_append, List.length_cons, List.length_nil] at hi
    have hx : (p ++ [s])[i]? = some x := hx
    rw [List.getElem?_append_right (by omega), show i - p.length = 0 by omega] at hx
    obtain rfl : s = x := by simpa using hx
    show (c = 1 ↔ _) ∧ (c = 2 ↔ _)
    omega
theorem good_on {l : List TRule} {k : Int} {p : List TSite} {s : TSite} {c : Int} (hn : p.Nodup) (h1 : 1 ≤ p.length) (hl : p.length ≤ 6) (ha : ∀ x ∈ p, aAt l k x = 3) (hc : 3 ≤ c ∧ c ≤ 4) : Good l k ⟨c, s, p⟩ where
  nd := hn
  pos := h1
  le := hl
  c1 := by show 1 ≤ c; omega
  c4 := hc.2
  on := fun i x hx _ => ha x (List.mem_of_getElem? hx)
  last := by
    intro i x hx _
    have := ha x (List.mem_of_getElem? hx)
    show (c = 1 ↔ _) ∧ (c = 2 ↔ _)
    omega
theorem fol_good (l : List TRule) (k : Int) : ∀ (f : Nat) (p : List TSite) (s : TSite), p.Nodup → p.length ≤ 6 → 7 ≤ f + p.length → (∀ x ∈ p, aAt l k x = 3) → Good l k (fol l k f p s) ∧ (fol l k f p s).p.head? = (p ++ [s]).head? := by
  intro f
  induction f with
  | zero => intro p s _ h1 h2 _; omega
  | succ f ih =>
    intro p s hn hl hf ha
    unfold fol
    by_cases hm : s ∈ p
    · rw [if_pos hm]
      have : 1 ≤ p.length := List.length_pos_of_mem hm
      refine ⟨good_on hn this hl ha (by omega), ?_⟩
      cases p with
      | nil => cases hm
      | cons a t => rfl
    · rw [if_neg hm]
      by_cases h6 : p.length = 6
      · rw [if_pos h6]
        refine ⟨good_on hn (by omega) hl ha (by omega), ?_⟩
        cases p with
        | nil => simp at h6
        | cons a t => rfl
      · rw [if_neg h6]
        by_cases hd : mDecides l (reqAt s k) = false ∨ (mGot l (reqAt s k)).f5 = 1
        · rw [if_pos hd]
          refine ⟨good_end hn hm (by omega) ha (by omega) ?_, rfl⟩
          unfold aAt mActFor
          rcases hd with h | h
          · rw [if_neg (by rw [h]; decide)]
          · split
            · exact h
            · rfl
        · rw [if_neg hd]
          have hD : mDecides l (reqAt s k) = true := by
            cases h : mDecides l (reqAt s k) with
            | true => rfl
            | false => exact absurd (.inl h) hd
          by_cases h2 : (mGot l (reqAt s k)).f5 = 2
          · rw [if_pos h2]
            refine ⟨good_end hn hm (by omega) ha (by omega) ?_, rfl⟩
            unfold aAt mActFor
            rw [if_pos hD]; exact h2
          · rw [if_neg h2]
            have h3 : aAt l k s = 3 := by
              unfold aAt mActFor
              rw [if_pos hD]
              have := got_f5 hD
              have : ¬ (mGot l (reqAt s k)).f5 = 1 := fun e => hd (.inr e)
              omega
            have hn2 : (p ++ [s]).Nodup := by
              rw [List.nodup_append]
              refine ⟨hn, by simp, ?_⟩
              intro a h b hb e
              rw [List.mem_singleton] at hb
              subst hb; subst e; exact hm h
            have ha2 : ∀ x ∈ p ++ [s], aAt l k x = 3 := by
              intro x hx
              rcases List.mem_append.1 hx with h | h
              · exact ha x h
              · rw [List.mem_singleton.1 h]; exact h3
            obtain ⟨g1, g2⟩ := ih (p ++ [s]) (toOf (mGot l (reqAt s k))) hn2 (by simp; omega) (by simp; omega) ha2
            refine ⟨g1, g2.trans ?_⟩
            cases p with
            | nil => rfl
            | cons a t => rfl
theorem mFol_good {l : List TRule} {q : TRequest} (h : mIsRequest q = true) : Good l q.f2 (mFol l q) ∧ (mFol l q).p[0]? = some ⟨q.f0, q.f1⟩ := by
  unfold mFol
  rw [if_pos h]
  obtain ⟨g1, g2⟩ := fol_good l q.f2 7 [] ⟨q.f0, q.f1⟩ (by simp) (by simp) (by simp) (by simp)
  refine ⟨g1, ?_⟩
  rw [← List.head?_eq_getElem?, g2]; rfl
theorem good_apart {l : List TRule} {k : Int} {R : TOut} (h : Good l k R) {i j : Nat} {x y : TSite} (hi : R.p[i]? = some x) (hj : R.p[j]? = some y) (hne : i ≠ j) : x ≠ y := by
  intro e
  subst e
  obtain ⟨hi1, hi2⟩ := List.getElem?_eq_some_iff.1 hi
  obtain ⟨hj1, hj2⟩ := List.getElem?_eq_some_iff.1 hj
  exact hne ((List.getElem_inj h.nd).1 (hi2.trans hj2.symm))
theorem loops_mem {l : List TRule} {q : TRequest} (h : mIsRequest q = true) : decide (q.f1 + 10 * (q.f2 - 1) ∈ mLoops l q.f0) = isLoop l q := by
  have e : rqTo q.f0 (q.f1 + 10 * (q.f2 - 1)) = q := by
    simp only [mIsRequest, mIsSite, Bool.and_eq_true, inR_true] at h
    obtain ⟨a, b, c⟩ := q
    simp only at h ⊢
    simp only [rqTo, TRequest.mk.injEq, true_and]
    omega
  rw [Bool.eq_iff_iff, decide_eq_true_eq]
  unfold mLoops
  rw [List.mem_filter, e]
  constructor
  · exact fun h => h.2
  · intro hl
    refine ⟨?_, hl⟩
    simp only [mIsRequest, mIsSite, Bool.and_eq_true, inR_true] at h
    simp only [rangeI, List.mem_map, List.mem_range]
    exact ⟨(q.f1 + 10 * (q.f2 - 1)).toNat, by omega, by omega⟩
theorem mFol_off {l : List TRule} {q : TRequest} (h : mIsRequest q = false) : mFol l q = ⟨0, ⟨0, 0⟩, []⟩ := by unfold mFol; rw [h]; rfl

theorem fol_fit {l : List TRule} (H : cRuleOk l) (k : Int) : ∀ (f : Nat) (p : List TSite) (s : TSite), (∀ x ∈ p, TSite.fit x) → s.fit → ∀ x ∈ (fol l k f p s).p, TSite.fit x := by
  intro f
  induction f with
  | zero => intro p s hp _; exact hp
  | succ f ih =>
    intro p s hp hs
    have hps : ∀ x ∈ p ++ [s], TSite.fit x := fun x hx => by
      rcases List.mem_append.1 hx with h | h
      · exact hp x h
      · rw [List.mem_singleton.1 h]; exact hs
    unfold fol
    by_cases hm : s ∈ p
    · rw [if_pos hm]; exact hp
    · rw [if_neg hm]
      by_cases h6 : p.length = 6
      · rw [if_pos h6]; exact hp
      · rw [if_neg h6]
        by_cases hd : mDecides l (reqAt s k) = false ∨ (mGot l (reqAt s k)).f5 = 1
        · rw [if_pos hd]; exact hps
        · rw [if_neg hd]
          by_cases h2 : (mGot l (reqAt s k)).f5 = 2
          · rw [if_pos h2]; exact hps
          · rw [if_neg h2]
            refine ih _ _ hps (to_fit H ?_)
            cases h : mDecides l (reqAt s k) with
            | true => rfl
            | false => exact absurd (.inl h) hd
theorem mFol_fit {l : List TRule} {q : TRequest} (H : cRuleOk l) (hq : q.fit) : cSiteOk (mFol l q).p := by
  unfold mFol
  split
  · exact fol_fit H _ _ _ _ (fun _ h => by cases h) ⟨hq.1, hq.2.1⟩
  · intro x hx; cases hx
theorem fisq_eq (q : TRequest) (v : Bool) (h : mIsRequest q = v) (W : World) : Calls Try.prog 47 #[vReq q] W (Says (.bool v) W) := h ▸ impl_IsRequest q W
theorem fisqs_eq (q : TRequest) (v : Bool) (h : mIsRequest q = v) (W : World) : Calls Try.prog 48 #[vReq q] W (Says (.bool v) W) := h ▸ spec_IsRequest q W
theorem fact_eq (l : List TRule) (A : Option Addr) (n c lo hi : Nat) (q : TRequest) (v : Int) (h : mActFor l q = v) (w : World) (hn : n ≤ 1048576) (hr : Rd w lo hi 8 A n (cRule l)) (H : Hid (cRuleOk l)) :
    Calls Try.prog 50 #[.slice A n c, vReq q] w (Says (.int .i64 v) w) := h ▸ impl_ActionFor l A n c lo hi q w hn hr H
theorem fset_eq (l : List TRule) (A : Option Addr) (n c lo hi : Nat) (q : TRequest) (v : Bool) (h : mSettled l q = v) (w : World) (h0 : n ≤ 1048576) (hr : Rd w lo hi 8 A n (cRule l)) (b0 : Hid (cRuleOk l)) (f1 : Hid (TRequest.fit q)) :
    Calls Try.prog 51 #[.slice A n c, vReq q] w (Says (.bool v) w) := h ▸ impl_IsSettled l A n c lo hi q w h0 hr b0 f1
theorem fcon_eq (l : List Int) (A : Option Addr) (n c lo hi : Nat) (z : Int) (v : Bool) (h : decide (z ∈ l) = v) (w : World) (hn : n ≤ 1048576) (hr : Rd w lo hi 1 A n (i64s l)) :
    Calls Try.prog 38 #[.slice A n c, .int .i64 z] w (Says (.bool v) w) := (laws_contains l A n c lo hi z w hn hr).mono (by rintro e w1 ⟨rfl, rfl⟩; exact ⟨by rw [h], Below.refl _ _⟩)
theorem ffol_eq (l : List TRule) (A0 : Option Addr) (n0 c0 lo hi : Nat) (q : TRequest) (cc : Int) (ss : TSite) (pp : List TSite) (h : mFol l q = ⟨cc, ss, pp⟩) (w : World) (hn : n0 ≤ 1048576) (hr : Rd w lo hi 8 A0 n0 (cRule l)) (H : Hid (cRuleOk l)) (hq : Hid (TRequest.fit q)) :
    Calls Try.prog 46 #[.slice A0 n0 c0, vReq q] w (fun e w' => ∃ (A2 : Option Addr) (c2 lo2 hi2 : Nat), e = .returned (.agg #[.int .i64 cc, .int .i64 ss.f0, .int .i64 ss.f1, .slice A2 pp.length c2]) ∧ Rd w' lo2 hi2 2 A2 pp.length (cSite pp) ∧ Below w.heap.size w w') := by
  refine (impl_FollowRequest l A0 n0 c0 lo hi q w hn hr H hq).mono ?_
  rintro e w1 ⟨A2, c2, lo2, hi2, rfl, hF, _, hb⟩
  rw [h] at hF ⊢
  exact ⟨A2, c2, lo2, hi2, rfl, hF.rd, hb⟩
theorem feqo_eq (cc : Int) (ss : TSite) (pp : List TSite) (A2 : Option Addr) (c2 lo2 hi2 : Nat) (A2' : Option Addr) (c2' lo2' hi2' : Nat) (w : World) (h2 : pp.length ≤ 1048576) (r2 : Rd w lo2 hi2 2 A2 pp.length (cSite pp)) (b2 : Hid (cSiteOk pp)) (r2' : Rd w lo2' hi2' 2 A2' pp.length (cSite pp)) :
    Calls Try.prog 53 #[.agg #[.int .i64 cc, .int .i64 ss.f0, .int .i64 ss.f1, .slice A2 pp.length c2], .agg #[.int .i64 cc, .int .i64 ss.f0, .int .i64 ss.f1, .slice A2' pp.length c2']] w (Says (.bool true) w) := by
  have := impl_EqualOutcomes cc ss pp A2 pp.length c2 lo2 hi2 cc ss pp A2' pp.length c2' lo2' hi2' w h2 r2 b2 h2 r2' b2
  rwa [show mEqOutcome cc ss pp cc ss pp = true by simp [mEqOutcome]] at this
theorem fnm_eq (c : Int) (nm : ByteArray) (h : mOutName c = nm) (W : World) : Calls Try.prog 49 #[.int .i64 c] W (Says (.string nm) W) := h ▸ impl_OutcomeName c W
theorem fol_nm {c : Int} (h1 : 1 ≤ c) (h4 : c ≤ 4) : (mOutName c).toList.isEmpty = false := by
  have h5 : c = 1 ∨ c = 2 ∨ c = 3 ∨ c = 4 := by omega
  rcases h5 with e | e | e | e <;> rw [e, ByteArray.toList_eq] <;> rfl
theorem fol_nm2 {c : Int} (h1 : 1 ≤ c) (h4 : c ≤ 4) : (mOutName c == ⟨#[]⟩) = false := by
  have h5 : c = 1 ∨ c = 2 ∨ c = 3 ∨ c = 4 := by omega
  rcases h5 with e | e | e | e <;> rw [e] <;> decide
end Go.Proofs.Ytfceddgacefejaa
