/- IsTightFor, of the program and of the model. No condition of its own. -/
import Derived.Test.YtphhnmfgomcanaaNfS
namespace Go.Proofs.Ytphhnmfgomcanaa
open Go Go.ChangeShapes Go.WideShapes Go.ChangeAt Go.RowKit Go.Lib
set_option linter.unusedVariables false
set_option linter.unusedSimpArgs false
set_option maxRecDepth 100000

def mTight (l : List TOp) (f : List TFlow) (ext : Int) : Bool := mAreOps l && (mNeed l ext).all (pFW f)
theorem flow_fit {f : TFlow} (h0 : (Lit.int .i64 f.f0).wf = true) (h1 : 1 ≤ f.f1 ∧ f.f1 ≤ 9) (h2 : 1 ≤ f.f2 ∧ f.f2 ≤ 9) : TFlow.fit f := ⟨bounds_i64 h0, by omega, by omega⟩
theorem sent_to {vals : List Int} {l : List TOp} (h : l.all mOp = true) : ∀ s ∈ (mMc vals l).s, 1 ≤ s.f0 ∧ s.f0 ≤ 9 := by
  have : ∀ (l : List TOp) (x : MMc), (∀ s ∈ x.s, 1 ≤ s.f0 ∧ s.f0 ≤ 9) → l.all mOp = true → ∀ s ∈ (l.foldl (mStep vals) x).s, 1 ≤ s.f0 ∧ s.f0 ≤ 9 := by
    intro l
    induction l with
    | nil => intro x hx _; exact hx
    | cons o l ih =>
      intro x hx hl
      rw [List.all_cons, Bool.and_eq_true] at hl
      refine ih _ ?_ hl.2
      intro s hs
      simp only [mStep, List.mem_append] at hs
      rcases hs with hs | hs
      · exact hx s hs
      · unfold mSd at hs
        split at hs
        · rename_i h5
          simp only [List.mem_singleton] at hs
          subst hs
          exact (mOp_12 hl.1 (.inr h5)).2
        · cases hs
  exact this l mMc0 (fun s hs => by cases hs) h
theorem need_fit (l : List TOp) {ext : Int} (we : (Lit.int .i64 ext).wf = true) : cFlowOk (mNeed l ext) := by
  unfold mNeed
  split
  · rename_i hA
    simp only [mAreOps, Bool.and_eq_true] at hA
    have hto := sent_to (vals := []) hA.2
    have inner : ∀ (J : List Int) (t0 : Int) (out : List TFlow), (1 ≤ t0 ∧ t0 ≤ 9) → (∀ z ∈ J, 1 ≤ z ∧ z ≤ 9) → cFlowOk out → cFlowOk (J.foldl (addF ext t0) out) := by
      intro J
      induction J with
      | nil => intro t0 out _ _ h; exact h
      | cons z J ih =>
        intro t0 out ht hJ h
        refine ih t0 _ ht (fun y hy => hJ y (List.mem_cons_of_mem _ hy)) ?_
        unfold addF
        split
        · intro f hf
          rcases List.mem_append.1 hf with hf | hf
          · exact h f hf
          · simp only [List.mem_singleton] at hf
            subst hf
            exact flow_fit we (hJ z (List.mem_cons_self ..)) ht
        · exact h
    have outer : ∀ (s : List TSent) (out : List TFlow), (∀ e ∈ s, 1 ≤ e.f0 ∧ e.f0 ≤ 9) → cFlowOk out → cFlowOk (s.foldl (addS ext) out) := by
      intro s
      induction s with
      | nil => intro out _ h; exact h
      | cons e s ih =>
        intro out hs h
        exact ih _ (fun y hy => hs y (List.mem_cons_of_mem _ hy)) (inner _ _ _ (hs e (List.mem_cons_self ..)) (fun z hz => mOwn_in hz) h)
    exact outer _ _ hto (fun f hf => by cases hf)
  · intro f hf; cases hf
set_option maxHeartbeats 8000000 in
theorem impl_IsTightForC (l : List TOp) (A : Option Addr) (n c lo hi : Nat) (f : List TFlow) (A1 : Option Addr) (n1 c1 lo1 hi1 : Nat) (ext : Int) (w : World) (hn : n ≤ 1048576) (hr : Rd w lo hi 4 A n (cOp l)) (hcap : n ≤ c) (H : Hid (cOpOk l)) (hn1 : n1 ≤ 1048576) (hr1 : Rd w lo1 hi1 3 A1 n1 (cFlow f)) (hcap1 : n1 ≤ c1) (H1 : Hid (cFlowOk f)) (we : (Lit.int .i64 ext).wf = true) :
    Calls Try.prog 24 #[.slice A n c, .slice A1 n1 c1, .int .i64 ext] w (Says (.bool (mTight l f ext)) w) := by
  have CA := Lib.hid (fun W (hb : Below w.heap.size w W) => impl_AreOpsC l A n c lo hi W hn (hr.new hb) hcap H)
  have CN := Lib.hid (fun W (hb : Below w.heap.size w W) => impl_NeedsFlowsC l A n c lo hi ext W hn (hr.new hb) hcap H we)
  have HN := Lib.hid (need_fit l we)
  have H144 := Lib.hid (mNeed_len l ext)
  have CW := Lib.hid (fun W (hb : Below w.heap.size w W) (AN : Option Addr) (cN loN hiN : Nat) (h : Rd W loN hiN 3 AN (mNeed l ext).length (cFlow (mNeed l ext))) (hc : (mNeed l ext).length ≤ cN) => impl_FlowsWithinC (mNeed l ext) AN (mNeed l ext).length cN loN hiN f A1 n1 c1 lo1 hi1 W (by have := H144.out; omega) h hc HN hn1 (hr1.new hb) hcap1 H1)
  obtain ⟨T, HT⟩ : ∃ T, Hid (mTight l f ext = T) := ⟨_, Lib.hid rfl⟩
  rw [HT.out]
  cases hA : mAreOps l with
  | false =>
    rw [hA] at CA
    obtain rfl : T = false := by rw [← HT.out]; unfold mTight; rw [hA]; rfl
    clear hr hr1 CN CW hA
    go_enter Try.func24, Try.ntmps24
    go_wp2_with fail
    refine (CA.out _ (Below.refl _ _)).mono ?_
    rintro e w1 ⟨rfl, hb1⟩
    have HB := Lib.hid hb1
    clear hb1
    go_wp2_with fail
    go_ret
    exact ⟨rfl, HB.out⟩
  | true =>
    rw [hA] at CA
    have HT2 := Lib.hid (show T = (mNeed l ext).all (pFW f) by rw [← HT.out]; unfold mTight; rw [hA]; rfl)
    generalize mNeed l ext = J at CN CW HT2
    generalize J.all (pFW f) = r at CW HT2
    clear hr hr1 hA HN H144
    go_enter Try.func24, Try.ntmps24
    go_wp2_with fail
    refine (CA.out _ (Below.refl _ _)).mono ?_
    rintro e w1 ⟨rfl, hb1⟩
    have HB := Lib.hid hb1
    clear hb1
    go_wp2_with fail
    refine (CN.out _ HB.out).mono ?_
    rintro e w2 ⟨AN, cN, rfl, hF, hb2⟩
    have HB2 := Lib.hid (below_trans HB.out hb2 (Nat.le_refl _))
    have HF := Lib.hid hF
    clear hb2 hF
    go_wp2_with fail
    refine (CW.out _ HB2.out _ _ _ _ HF.out.rd HF.out.cap).mono ?_
    rintro e w3 ⟨rfl, hb3⟩
    have HB3 := Lib.hid (below_trans HB2.out hb3 (Nat.le_refl _))
    clear hb3
    go_wp2_with fail
    go_ret
    exact ⟨by rw [HT2.out]; rfl, HB3.out⟩
set_option maxHeartbeats 8000000 in
theorem spec_IsTightFor (l : List TOp) (A : Option Addr) (n c lo hi : Nat) (f : List TFlow) (A1 : Option Addr) (n1 c1 lo1 hi1 : Nat) (ext : Int) (w : World) (hn : n ≤ 1048576) (hr : Rd w lo hi 4 A n (cOp l)) (hcap : n ≤ c) (H : Hid (cOpOk l)) (hn1 : n1 ≤ 1048576) (hr1 : Rd w lo1 hi1 3 A1 n1 (cFlow f)) (hcap1 : n1 ≤ c1) (H1 : Hid (cFlowOk f)) (we : (Lit.int .i64 ext).wf = true) :
    Calls Try.prog 22 #[.slice A n c, .slice A1 n1 c1, .int .i64 ext] w (Says (.bool (mTight l f ext)) w) := by
  have CA := Lib.hid (fun W (hb : Below w.heap.size w W) => spec_AreOps l A n c lo hi W hn (hr.new hb) hcap H)
  have CN := Lib.hid (fun W (hb : Below w.heap.size w W) => spec_NeedsFlows l A n c lo hi ext W hn (hr.new hb) hcap H we)
  have HN := Lib.hid (need_fit l we)
  have H144 := Lib.hid (mNeed_len l ext)
  have CW := Lib.hid (fun W (hb : Below w.heap.size w W) (AN : Option Addr) (cN loN hiN : Nat) (h : Rd W loN hiN 3 AN (mNeed l ext).length (cFlow (mNeed l ext))) (hc : (mNeed l ext).length ≤ cN) => spec_FlowsWithin (mNeed l ext) AN (mNeed l ext).length cN loN hiN f A1 n1 c1 lo1 hi1 W (by have := H144.out; omega) h hc HN hn1 (hr1.new hb) hcap1 H1)
  obtain ⟨T, HT⟩ : ∃ T, Hid (mTight l f ext = T) := ⟨_, Lib.hid rfl⟩
  rw [HT.out]
  cases hA : mAreOps l with
  | false =>
    rw [hA] at CA
    obtain rfl : T = false := by rw [← HT.out]; unfold mTight; rw [hA]; rfl
    clear hr hr1 CN CW hA
    go_enter Try.func22, Try.ntmps22
    go_wp2_with fail
    refine (CA.out _ (Below.refl _ _)).mono ?_
    rintro e w1 ⟨rfl, hb1⟩
    have HB := Lib.hid hb1
    clear hb1
    go_wp2_with fail
    go_ret
    exact ⟨rfl, HB.out⟩
  | true =>
    rw [hA] at CA
    have HT2 := Lib.hid (show T = (mNeed l ext).all (pFW f) by rw [← HT.out]; unfold mTight; rw [hA]; rfl)
    generalize mNeed l ext = J at CN CW HT2
    generalize J.all (pFW f) = r at CW HT2
    clear hr hr1 hA HN H144
    go_enter Try.func22, Try.ntmps22
    go_wp2_with fail
    refine (CA.out _ (Below.refl _ _)).mono ?_
    rintro e w1 ⟨rfl, hb1⟩
    have HB := Lib.hid hb1
    clear hb1
    go_wp2_with fail
    refine (CN.out _ HB.out).mono ?_
    rintro e w2 ⟨AN, cN, rfl, hF, hb2⟩
    have HB2 := Lib.hid (below_trans HB.out hb2 (Nat.le_refl _))
    have HF := Lib.hid hF
    clear hb2 hF
    go_wp2_with fail
    refine (CW.out _ HB2.out _ _ _ _ HF.out.rd HF.out.cap).mono ?_
    rintro e w3 ⟨rfl, hb3⟩
    have HB3 := Lib.hid (below_trans HB2.out hb3 (Nat.le_refl _))
    clear hb3
    go_wp2_with fail
    go_ret
    exact ⟨by rw [HT2.out]; rfl, HB3.out⟩
end Go.Proofs.Ytphhnmfgomcanaa
