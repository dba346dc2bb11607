/- PrM, what is needed of it. -/
import Derived.Test.YtcankpiidjhhpaaYRnI
import Derived.Test.YtcankpiidjhhpaaYNfI
import Derived.Test.YtcankpiidjhhpaaYMcL
import Derived.Test.YtcankpiidjhhpaaYCgB
import Derived.Test.YtcankpiidjhhpaaYEqSSent
import Derived.Test.YtcankpiidjhhpaaYDrPc
namespace Go.Proofs.Ytcankpiidjhhpaa
open Go Go.ChangeShapes Go.WideShapes Go.ChangeAt Go.RowKit Go.Lib
set_option linter.unusedVariables false
set_option linter.unusedSimpArgs false
set_option maxRecDepth 100000
theorem mMc_ok' {vals : List Int} {l : List TOp} (h : l.all mOp = true) : (mMc vals l).ok := by
  have := mMc_ok (vals := vals) h l.length
  rwa [List.take_length] at this
/-- What is sent goes to an owner, bears a small value and a label. -/
def okSent (s : TSent) : Prop := (1 ≤ s.f0 ∧ s.f0 ≤ 9) ∧ (0 ≤ s.f1 ∧ s.f1 ≤ 999) ∧ mIsLabel s.f2 = true
theorem mSd_ok {o : TOp} {x : MMc} (hx : x.ok) (ho : mOp o = true) : ∀ s ∈ mSd o x.v x.b, okSent s := by
  intro s hs
  unfold mSd at hs
  split at hs
  · rename_i h5
    rw [List.mem_singleton] at hs
    subst hs
    obtain ⟨h1, h2, h3⟩ := mOp_12 ho (.inr h5)
    exact ⟨⟨h2, h3⟩, gI_in (P := fun z => 0 ≤ z ∧ z ≤ 999) hx.1 h1, gI_in (P := fun z => mIsLabel z = true) hx.2 h1⟩
  · cases hs
theorem mMc_sent {vals : List Int} {l : List TOp} (h : l.all mOp = true) : ∀ s ∈ (mMc vals l).s, okSent s := by
  have key : ∀ (l : List TOp) (x : MMc), x.ok → (∀ s ∈ x.s, okSent s) → l.all mOp = true → ∀ s ∈ (l.foldl (mStep vals) x).s, okSent s := by
    intro l
    induction l with
    | nil => intro x _ hx _; exact hx
    | cons o l ih =>
      intro x hok hx hl
      rw [List.all_cons, Bool.and_eq_true] at hl
      refine ih _ (mStep_ok hok hl.1) ?_ hl.2
      intro s hs
      rcases List.mem_append.1 hs with h | h
      · exact hx s h
      · exact mSd_ok hok hl.1 s h
  refine key l mMc0 ?_ (fun s hs => by cases hs) h
  have := mMc_ok (vals := vals) (l := []) (by rfl) 0
  exact this
def mSends (l : List TOp) : Nat := l.countP fun o => o.f0 == 5
theorem mMc_count (vals : List Int) (l : List TOp) : (mMc vals l).s.length = mSends l := by
  have key : ∀ (l : List TOp) (x : MMc), (l.foldl (mStep vals) x).s.length = x.s.length + mSends l := by
    intro l
    induction l with
    | nil => intro x; simp [mSends]
    | cons o l ih =>
      intro x
      rw [List.foldl_cons, ih]
      have : (mStep vals x o).s.length = x.s.length + (if o.f0 = 5 then 1 else 0) := by
        simp only [mStep, List.length_append]
        unfold mSd
        split <;> simp
      rw [this]
      unfold mSends
      rw [List.countP_cons]
      by_cases h : o.f0 = 5 <;> simp [h] <;> omega
  have := key l mMc0
  simpa [mMc, mMc0] using this
theorem sends_take {l : List TOp} {k : Nat} {o : TOp} (h : l[k]? = some o) : mSends (l.take (k + 1)) = mSends (l.take k) + (if (o.f0 == 5) = true then 1 else 0) := by
  unfold mSends
  rw [List.take_add_one, h, List.countP_append]
  simp [List.countP_cons]
def okey (s : TSent) : Int × Int := (s.f0, s.f2)
theorem mMc_keys (va vb : List Int) (l : List TOp) : (mMc va l).b = (mMc vb l).b ∧ (mMc va l).s.map okey = (mMc vb l).s.map okey := by
  have key : ∀ (l : List TOp) (x y : MMc), x.b = y.b → x.s.map okey = y.s.map okey → (l.foldl (mStep va) x).b = (l.foldl (mStep vb) y).b ∧ (l.foldl (mStep va) x).s.map okey = (l.foldl (mStep vb) y).s.map okey := by
    intro l
    induction l with
    | nil => intro x y h1 h2; exact ⟨h1, h2⟩
    | cons o l ih =>
      intro x y h1 h2
      refine ih _ _ ?_ ?_
      · simp only [mStep, h1]
      · simp only [mStep, List.map_append, h2]
        congr 1
        unfold mSd
        split
        · simp [okey, h1]
        · rfl
  exact key l mMc0 mMc0 rfl rfl
theorem addF_mono {ext t0 x : Int} {out : List TFlow} {y : TFlow} (h : y ∈ out) : y ∈ addF ext t0 out x := by
  unfold addF
  split
  · exact List.mem_append_left _ h
  · exact h
theorem addF_in {ext t0 x : Int} (out : List TFlow) (h : x ≠ t0) : (⟨ext, x, t0⟩ : TFlow) ∈ addF ext t0 out x := by
  cases hh : (out.any fun y => decide ((⟨ext, x, t0⟩ : TFlow) = y)) with
  | true =>
    obtain ⟨y, hy, e⟩ := List.any_eq_true.1 hh
    have e' : (⟨ext, x, t0⟩ : TFlow) = y := by simpa using e
    exact addF_mono (e' ▸ hy)
  | false =>
    rw [addF_new (by simp [h]) hh]
    exact List.mem_append_right _ (List.mem_singleton.2 rfl)
theorem folds_mono {ext t0 : Int} : ∀ (l : List Int) (out : List TFlow) (y : TFlow), y ∈ out → y ∈ l.foldl (addF ext t0) out
  | [], _, _, h => h
  | _ :: l, _, y, h => folds_mono l _ y (addF_mono h)
theorem folds_in {ext t0 x : Int} (hx : x ≠ t0) : ∀ (l : List Int) (out : List TFlow), x ∈ l → (⟨ext, x, t0⟩ : TFlow) ∈ l.foldl (addF ext t0) out
  | [], _, h => by cases h
  | z :: l, out, h => by
    rcases List.mem_cons.1 h with rfl | h
    · exact folds_mono l _ _ (addF_in out hx)
    · exact folds_in hx l _ h
theorem mNd_in {ext : Int} {s : List TSent} {e : TSent} (he : e ∈ s) {o : Int} (ho : o ∈ mOwn e.f2) (hne : o ≠ e.f0) : (⟨ext, o, e.f0⟩ : TFlow) ∈ mNd ext s := by
  have mono : ∀ (s : List TSent) (out : List TFlow) (y : TFlow), y ∈ out → y ∈ s.foldl (addS ext) out := by
    intro s
    induction s with
    | nil => intro out y h; exact h
    | cons z s ih => intro out y h; exact ih _ y (folds_mono _ _ _ h)
  have key : ∀ (s : List TSent) (out : List TFlow), e ∈ s → (⟨ext, o, e.f0⟩ : TFlow) ∈ s.foldl (addS ext) out := by
    intro s
    induction s with
    | nil => intro out h; cases h
    | cons z s ih =>
      intro out h
      rcases List.mem_cons.1 h with rfl | h
      · exact mono s _ _ (folds_in hne _ _ ho)
      · exact ih _ h
  exact key s [] he
theorem need_may {vals : List Int} {l : List TOp} {ext : Int} (hl : mAreOps l = true) (h1 : 1 ≤ ext) (h3 : ext ≤ 3) : ∀ s ∈ (mMc vals l).s, mayS (mNeed l ext) ext s = true := by
  intro s hs
  have hall : l.all mOp = true := by
    simp only [mAreOps, Bool.and_eq_true] at hl
    exact hl.2
  obtain ⟨h0, _, hlab⟩ := mMc_sent hall s hs
  have hk : okey s ∈ (mMc [] l).s.map okey := by
    rw [← (mMc_keys vals [] l).2]
    exact List.mem_map.2 ⟨s, hs, rfl⟩
  obtain ⟨s', hs', e⟩ := List.mem_map.1 hk
  have e0 : s'.f0 = s.f0 := congrArg Prod.fst e
  have e2 : s'.f2 = s.f2 := congrArg Prod.snd e
  unfold mayS mMayF
  rw [hlab, show inR s.f0 1 9 = true from inR_true.2 h0, Bool.true_and, Bool.true_and, List.all_eq_true]
  intro o ho
  by_cases hne : o = s.f0
  · simp [hne]
  · have ob := mOwn_in ho
    have hin := mNd_in (ext := ext) hs' (e2 ▸ ho) (by rw [e0]; exact hne)
    rw [e0] at hin
    have hf : mIsFlow ⟨ext, o, s.f0⟩ = true := by
      unfold mIsFlow
      rw [show inR ext 1 5 = true from inR_true.2 ⟨h1, by omega⟩, show inR o 1 9 = true from inR_true.2 ob, show inR s.f0 1 9 = true from inR_true.2 h0]
      rfl
    rw [hf, Bool.true_and, Bool.or_eq_true]
    right
    unfold mNeed
    rw [if_pos hl]
    exact List.any_eq_true.2 ⟨_, hin, by simp⟩
theorem prog_none {l : List TOp} (h : mAreOps l = false) (vals : List Int) (f : List TFlow) (e : Int) : mRunO l vals f e = [] ∧ mLAft l = [] ∧ mNeed l e = [] := by
  unfold mRunO mLAft mNeed
  rw [h]
  exact ⟨rfl, rfl, rfl⟩
theorem prog_sent {l : List TOp} (h : mAreOps l = true) (vals : List Int) (f : List TFlow) (e : Int) : ∀ s ∈ mRunO l vals f e, mMayF f e s.f2 s.f0 = true ∧ 0 ≤ s.f1 ∧ s.f1 ≤ 999 := by
  intro s hs
  unfold mRunO at hs
  rw [if_pos h] at hs
  have hall : l.all mOp = true := by
    simp only [mAreOps, Bool.and_eq_true] at h
    exact h.2
  obtain ⟨h1, h2⟩ := List.mem_filter.1 hs
  exact ⟨h2, (mMc_sent hall s h1).2.1⟩
theorem prog_le {l : List TOp} (h : mAreOps l = true) (vals : List Int) (f : List TFlow) (e : Int) : (mRunO l vals f e).length ≤ mSends l := by
  unfold mRunO
  rw [if_pos h, ← mMc_count vals l]
  exact mRnF_len _ _ _
theorem prog_need {l : List TOp} (h : mAreOps l = true) (vals : List Int) {e : Int} (h1 : 1 ≤ e) (h3 : e ≤ 3) : (mRunO l vals (mNeed l e) e).length = mSends l := by
  unfold mRunO
  rw [if_pos h, ← mMc_count vals l]
  unfold mRnF
  rw [List.filter_eq_self.2 (need_may h h1 h3)]
theorem prog_labs {l : List TOp} (h : mAreOps l = true) : (mLAft l).length = 6 ∧ ∀ z ∈ mLAft l, mIsLabel z = true := by
  unfold mLAft
  rw [if_pos h]
  have hall : l.all mOp = true := by
    simp only [mAreOps, Bool.and_eq_true] at h
    exact h.2
  exact (mMc_ok' hall).2

theorem run_okS {l : List TOp} (vals : List Int) (f : List TFlow) (e : Int) : Hid (cSentOk (mRunO l vals f e)) := Lib.hid fun s hs => by
  unfold mRunO at hs
  split at hs
  · rename_i h
    have hall : l.all mOp = true := by
      simp only [mAreOps, Bool.and_eq_true] at h
      exact h.2
    obtain ⟨h1, h2, h3⟩ := mMc_sent hall s (List.mem_filter.1 hs).1
    obtain ⟨a, e, ha, _, _⟩ := lab_nat h3
    unfold TSent.fit
    omega
  · cases hs
theorem need_okF (l : List TOp) {e : Int} (h1 : 1 ≤ e) (h3 : e ≤ 3) : Hid (cFlowOk (mNeed l e)) := Lib.hid fun y hy => by
  unfold mNeed at hy
  split at hy
  · rename_i h
    have hall : l.all mOp = true := by
      simp only [mAreOps, Bool.and_eq_true] at h
      exact h.2
    have key : ∀ (s : List TSent) (out : List TFlow), (∀ t ∈ s, okSent t) → (∀ y ∈ out, TFlow.fit y) → ∀ y ∈ s.foldl (addS e) out, TFlow.fit y := by
      intro s
      induction s with
      | nil => intro out _ ho; exact ho
      | cons t s ih =>
        intro out hs ho
        refine ih _ (fun z hz => hs z (List.mem_cons_of_mem _ hz)) ?_
        have ht := (hs t (List.mem_cons_self ..)).1
        have fold : ∀ (O : List Int) (out : List TFlow), (∀ o ∈ O, 1 ≤ o ∧ o ≤ 9) → (∀ y ∈ out, TFlow.fit y) → ∀ y ∈ O.foldl (addF e t.f0) out, TFlow.fit y := by
          intro O
          induction O with
          | nil => intro out _ h; exact h
          | cons o O ih =>
            intro out hO hout
            refine ih _ (fun z hz => hO z (List.mem_cons_of_mem _ hz)) ?_
            have ho := hO o (List.mem_cons_self ..)
            unfold addF
            split
            · intro y hy
              rcases List.mem_append.1 hy with h | h
              · exact hout y h
              · rw [List.mem_singleton] at h
                subst h
                unfold TFlow.fit
                simp only
                omega
            · exact hout
        exact fold _ _ (fun o ho => mOwn_in ho) ho
    exact key _ [] (mMc_sent hall) (fun y hy => by cases hy) y hy
  · cases hy
theorem par_eq (l : List TOp) (A : Option Addr) (n c lo hi : Nat) (v : Bool) (h : mAreOps l = v) (w : World) (hn : n ≤ 1048576) (hr : Rd w lo hi 4 A n (cOp l)) (hcap : n ≤ c) (H : Hid (cOpOk l)) : Calls Try.prog 21 #[.slice A n c] w (Says (.bool v) w) := h ▸ impl_AreOpsC l A n c lo hi w hn hr hcap H
theorem pars_eq (l : List TOp) (A : Option Addr) (n c lo hi : Nat) (v : Bool) (h : mAreOps l = v) (w : World) (hn : n ≤ 1048576) (hr : Rd w lo hi 4 A n (cOp l)) (hcap : n ≤ c) (H : Hid (cOpOk l)) : Calls Try.prog 22 #[.slice A n c] w (Says (.bool v) w) := h ▸ spec_AreOps l A n c lo hi w hn hr hcap H
theorem plab_eq (l : List TOp) (A : Option Addr) (n c lo hi : Nat) (b : List Int) (h : mLAft l = b) (w : World) (hn : n ≤ 1048576) (hr : Rd w lo hi 4 A n (cOp l)) (hcap : n ≤ c) (H : Hid (cOpOk l)) : Calls Try.prog 23 #[.slice A n c] w (Makes 3 1 b.length (i64s b) w) := h ▸ impl_LabelsAfterC l A n c lo hi w hn hr hcap H
theorem pneed_eq (l : List TOp) (A : Option Addr) (n c lo hi : Nat) (ext : Int) (f : List TFlow) (h : mNeed l ext = f) (w : World) (hn : n ≤ 1048576) (hr : Rd w lo hi 4 A n (cOp l)) (hcap : n ≤ c) (H : Hid (cOpOk l)) (we : (Lit.int .i64 ext).wf = true) : Calls Try.prog 24 #[.slice A n c, .int .i64 ext] w (Makes 87 3 f.length (cFlow f) w) := h ▸ impl_NeedsFlowsC l A n c lo hi ext w hn hr hcap H we
theorem prun_eq (l : List TOp) (A : Option Addr) (n c lo hi : Nat) (l1 : List Int) (A1 : Option Addr) (n1 c1 lo1 hi1 : Nat) (l2 : List TFlow) (A2 : Option Addr) (n2 c2 lo2 hi2 : Nat) (ext : Int) (s : List TSent) (h : mRunO l l1 l2 ext = s) (w : World) (hn : n ≤ 1048576) (hr : Rd w lo hi 4 A n (cOp l)) (hcap : n ≤ c) (H : Hid (cOpOk l)) (hn1 : n1 ≤ 1048576) (hr1 : Rd w lo1 hi1 1 A1 n1 (i64s l1)) (hcap1 : n1 ≤ c1) (H1 : Hid (I64s l1)) (hn2 : n2 ≤ 1048576) (hr2 : Rd w lo2 hi2 3 A2 n2 (cFlow l2)) (hcap2 : n2 ≤ c2) (H2 : Hid (cFlowOk l2)) (we : (Lit.int .i64 ext).wf = true) :
    Calls Try.prog 20 #[.slice A n c, .slice A1 n1 c1, .slice A2 n2 c2, .int .i64 ext] w (Makes 47 3 s.length (cSent s) w) := h ▸ impl_RunOpsC l A n c lo hi l1 A1 n1 c1 lo1 hi1 l2 A2 n2 c2 lo2 hi2 ext w hn hr hcap H hn1 hr1 hcap1 H1 hn2 hr2 hcap2 H2 we
theorem pmay_eq (l : List TFlow) (A : Option Addr) (n c lo hi : Nat) (e x t : Int) (v : Bool) (h : mMayF l e x t = v) (w : World) (hn : n ≤ 1048576) (hr : Rd w lo hi 3 A n (cFlow l)) (H : Hid (cFlowOk l)) :
    Calls Try.prog 9 #[.slice A n c, .int .i64 e, .int .i64 x, .int .i64 t] w (Says (.bool v) w) := h ▸ impl_MayFlow l A n c lo hi e x t w hn hr H
theorem pisl_eq (x : Int) (v : Bool) (h : mIsLabel x = v) (w : World) : Calls Try.prog 11 #[.int .i64 x] w (Says (.bool v) w) := h ▸ impl_IsLabel x w
theorem psent_eq (l : List TSent) (A B : Option Addr) (n c c' lo hi lo' hi' : Nat) (w : World) (hn : n ≤ 1048576) (hr : Rd w lo hi 3 A n (cSent l)) (hr' : Rd w lo' hi' 3 B n (cSent l)) (H : Hid (cSentOk l)) : Calls Try.prog 25 #[.slice A n c, .slice B n c'] w (Says (.bool true) w) := by
  have := impl_EqualSent l A n c lo hi l B n c' lo' hi' w hn hr H hn hr' H
  rwa [decide_eq_true rfl] at this
end Go.Proofs.Ytcankpiidjhhpaa
