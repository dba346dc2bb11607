/- A program's registers step by step: plain lists. No condition of its own. -/
import Derived.Test.YtcankpiidjhhpaaCV
import Derived.Test.YtcankpiidjhhpaaJoin
import Derived.Test.YtcankpiidjhhpaaLabOf
import Derived.Test.YtcankpiidjhhpaaAreOps2
import Derived.Test.YtcankpiidjhhpaaTSent
namespace Go.Proofs.Ytcankpiidjhhpaa
open Go Go.ChangeShapes Go.WideShapes Go.ChangeAt Go.RowKit Go.Lib
set_option linter.unusedVariables false
set_option linter.unusedSimpArgs false
set_option maxRecDepth 100000
theorem lab_nat {x : Int} (h : mIsLabel x = true) : ∃ a : Nat, x = (a : Int) ∧ a < 1024 ∧ a % 2 = 0 ∧ a ≤ 1022 := by
 simp only [mIsLabel, Bool.and_eq_true, beq_iff_eq] at h
 have b1 := inR_true.1 h.1
 obtain ⟨a, rfl⟩ := Int.eq_ofNat_of_zero_le b1.1
 exact ⟨a, rfl, by omega, by omega, by omega⟩
theorem nat_lab {a : Nat} (h : a ≤ 1022) (h2 : a % 2 = 0) : mIsLabel (a : Int) = true := by
 simp only [mIsLabel, Bool.and_eq_true, beq_iff_eq]
 exact ⟨inR_true.2 ⟨by omega, by omega⟩, by omega⟩
theorem or_even {a b : Nat} (ha : a < 1024) (hb : b < 1024) (ea : a % 2 = 0) (eb : b % 2 = 0) : (a ||| b) < 1024 ∧ (a ||| b) % 2 = 0 ∧ (a ||| b) ≤ 1022 := by
 have hab : a ||| b < 1024 := Nat.or_lt_two_pow (n := 10) ha hb
 have hev : (a ||| b) % 2 = 0 := by
  have h0 : (a ||| b).testBit 0 = false := by
   rw [Nat.testBit_or, Nat.testBit_zero, Nat.testBit_zero]
   simp [*]
  rw [Nat.testBit_zero] at h0
  have : ¬ ((a ||| b) % 2 = 1) := by simpa using h0
  omega
 exact ⟨hab, hev, by omega⟩
theorem join_nat {a b : Nat} (ha : mIsLabel (a : Int) = true) (hb : mIsLabel (b : Int) = true) (h1 : a < 1024) (h2 : b < 1024) : mJoin (a : Int) (b : Int) = ((a ||| b : Nat) : Int) := by
 unfold mJoin
 rw [ha, hb, or_nat a b h1 h2]
 rfl
theorem join_lab {x y : Int} (hx : mIsLabel x = true) (hy : mIsLabel y = true) : mIsLabel (mJoin x y) = true := by
 obtain ⟨a, rfl, a1, a2, a3⟩ := lab_nat hx
 obtain ⟨b, rfl, b1, b2, b3⟩ := lab_nat hy
 rw [join_nat hx hy a1 b1]
 obtain ⟨c1, c2, c3⟩ := or_even a1 b1 a2 b2
 exact nat_lab c3 c2
theorem join_assoc {x y z : Int} (hx : mIsLabel x = true) (hy : mIsLabel y = true) (hz : mIsLabel z = true) : mJoin (mJoin x y) z = mJoin x (mJoin y z) := by
 have h1 := join_lab hx hy
 have h2 := join_lab hy hz
 obtain ⟨a, rfl, a1, a2, a3⟩ := lab_nat hx
 obtain ⟨b, rfl, b1, b2, b3⟩ := lab_nat hy
 obtain ⟨c, rfl, c1, c2, c3⟩ := lab_nat hz
 rw [join_nat hx hy a1 b1] at h1 ⊢
 rw [join_nat hy hz b1 c1] at h2 ⊢
 rw [join_nat h1 hz (or_even a1 b1 a2 b2).1 c1, join_nat hx h2 a1 (or_even b1 c1 b2 c2).1, Nat.or_assoc]
theorem labS_lab (l : List Int) : mIsLabel ((mLabS l 9 : Nat) : Int) = true := by
 have h1 := mLabS_le l 9
 have h2 : ∀ k, mLabS l k % 2 = 0 := by
  intro k
  induction k with
  | zero => rfl
  | succ k ih =>
   simp only [mLabS]
   have : 2 ^ (k + 1) = 2 * 2 ^ k := by rw [Nat.pow_succ, Nat.mul_comm]
   split <;> omega
 exact nat_lab (by omega) (h2 9)
theorem lab_wf {x : Int} (h : mIsLabel x = true) : (Lit.int .i64 x).wf = true := by
 obtain ⟨a, rfl, a1, _, _⟩ := lab_nat h
 exact WalkArith.wf_i64 (by omega)
/-- A register's number. -/
def gI (l : List Int) (k : Int) : Int := l.getD k.toNat 0
def mStV (o : TOp) (vals v : List Int) : List Int :=
 if o.f0 = 1 then v.set o.f1.toNat (mVal vals (o.f2.toNat - 1))
 else if o.f0 = 2 then v.set o.f1.toNat o.f2
 else if o.f0 = 3 then v.set o.f1.toNat ((gI v o.f2 + gI v o.f3) % 1000)
 else if o.f0 = 4 then v.set o.f1.toNat (if gI v o.f2 % 2 = 0 then gI v o.f3 else gI v o.f1)
 else v
def mStB (o : TOp) (b : List Int) : List Int :=
 if o.f0 = 1 then b.set o.f1.toNat ((mLabS [o.f2] 9 : Nat) : Int)
 else if o.f0 = 2 then b.set o.f1.toNat 0
 else if o.f0 = 3 then b.set o.f1.toNat (mJoin (gI b o.f2) (gI b o.f3))
 else if o.f0 = 4 then b.set o.f1.toNat (mJoin (mJoin (gI b o.f1) (gI b o.f2)) (gI b o.f3))
 else b
def mSd (o : TOp) (v b : List Int) : List TSent := if o.f0 = 5 then [⟨o.f2, gI v o.f1, gI b o.f1⟩] else []
/-- The registers' values and labels, and what was sent. -/
structure MMc where
 v : List Int
 b : List Int
 s : List TSent
def MMc.ok (x : MMc) : Prop := (x.v.length = 6 ∧ ∀ z ∈ x.v, 0 ≤ z ∧ z ≤ 999) ∧ (x.b.length = 6 ∧ ∀ z ∈ x.b, mIsLabel z = true)
def mStep (vals : List Int) (x : MMc) (o : TOp) : MMc := ⟨mStV o vals x.v, mStB o x.b, x.s ++ mSd o x.v x.b⟩
def mMc0 : MMc := ⟨List.replicate 6 0, List.replicate 6 0, []⟩
def mMc (vals : List Int) (l : List TOp) : MMc := l.foldl (mStep vals) mMc0
theorem mMc_take {vals : List Int} {l : List TOp} {k : Nat} {o : TOp} (h : l[k]? = some o) : mMc vals (l.take (k + 1)) = mStep vals (mMc vals (l.take k)) o := by
 rw [List.take_add_one, h]
 simp [mMc]
theorem gI_in {l : List Int} {k : Int} {P : Int → Prop} (h : l.length = 6 ∧ ∀ z ∈ l, P z) (hk : mReg k = true) : P (gI l k) := by
 have b := inR_true.1 hk
 have hlt : k.toNat < l.length := by omega
 unfold gI
 rw [List.getD_eq_getElem?_getD, List.getElem?_eq_getElem hlt]
 exact h.2 _ (List.getElem_mem hlt)
theorem gI_get {l : List Int} {k : Int} (h : l.length = 6) (hk : mReg k = true) : l[k.toNat]? = some (gI l k) := by
 have b := inR_true.1 hk
 have hlt : k.toNat < l.length := by omega
 unfold gI
 rw [List.getD_eq_getElem?_getD, List.getElem?_eq_getElem hlt]
 rfl
theorem set_all {l : List Int} {k : Nat} {z : Int} {P : Int → Prop} (h : l.length = 6 ∧ ∀ z ∈ l, P z) (hz : P z) : (l.set k z).length = 6 ∧ ∀ y ∈ l.set k z, P y :=
 ⟨by rw [List.length_set]; exact h.1, fun y hy => by
  rcases List.mem_or_eq_of_mem_set hy with h1 | rfl
  ·
   exact h.2 y h1
  ·
   exact hz⟩
theorem mVal_in (l : List Int) (k : Nat) : 0 ≤ mVal l k ∧ mVal l k ≤ 999 := by
 unfold mVal
 split
 ·
  split
  ·
   rename_i h
   exact inR_true.1 h
  ·
   omega
 ·
  omega
theorem mOp_12 {o : TOp} (h : mOp o = true) (hk : o.f0 = 1 ∨ o.f0 = 5) : mReg o.f1 = true ∧ 1 ≤ o.f2 ∧ o.f2 ≤ 9 := by
 unfold mOp at h
 rw [if_pos hk] at h
 simp only [mOp3, Bool.and_eq_true] at h
 have := inR_true.1 h.1.2
 exact ⟨h.1.1, by omega, by omega⟩
theorem mOp_2 {o : TOp} (h : mOp o = true) (hk : o.f0 = 2) : mReg o.f1 = true ∧ 0 ≤ o.f2 ∧ o.f2 ≤ 999 := by
 unfold mOp at h
 rw [if_neg (by omega), if_pos hk] at h
 simp only [mOp3, Bool.and_eq_true] at h
 have := inR_true.1 h.1.2
 exact ⟨h.1.1, by omega, by omega⟩
theorem mOp_34 {o : TOp} (h : mOp o = true) (hk : o.f0 = 3 ∨ o.f0 = 4) : mReg o.f1 = true ∧ mReg o.f2 = true ∧ mReg o.f3 = true := by
 unfold mOp at h
 rw [if_neg (by omega), if_neg (by omega), if_pos hk] at h
 simp only [Bool.and_eq_true] at h
 exact ⟨h.1.1, h.1.2, h.2⟩
theorem mOp_k {o : TOp} (h : mOp o = true) : o.f0 = 1 ∨ o.f0 = 2 ∨ o.f0 = 3 ∨ o.f0 = 4 ∨ o.f0 = 5 := by
 unfold mOp at h
 split at h
 ·
  omega
 ·
  split at h
  ·
   omega
  ·
   split at h
   ·
    omega
   ·
    cases h
theorem mReg_n {k : Int} (h : mReg k = true) : ∃ n : Nat, k = (n : Int) ∧ n < 6 := by
 have b := inR_true.1 h
 obtain ⟨a, rfl⟩ := Int.eq_ofNat_of_zero_le b.1
 exact ⟨a, rfl, by omega⟩
theorem mStep_ok {vals : List Int} {x : MMc} {o : TOp} (h : x.ok) (ho : mOp o = true) : (mStep vals x o).ok := by
 obtain ⟨hv, hb⟩ := h
 have hz : mIsLabel 0 = true := by decide
 refine ⟨?_, ?_⟩
 ·
  show (mStV o vals x.v).length = 6 ∧ ∀ z ∈ mStV o vals x.v, 0 ≤ z ∧ z ≤ 999
  unfold mStV
  split
  ·
   exact set_all hv (mVal_in _ _)
  ·
   split
   ·
    rename_i h2
    exact set_all hv (mOp_2 ho h2).2
   ·
    split
    ·
     exact set_all hv ⟨by omega, by omega⟩
    ·
     split
     ·
      rename_i h4
      obtain ⟨h1, h2, h3⟩ := mOp_34 ho (.inr h4)
      refine set_all hv ?_
      split
      ·
       exact gI_in hv h3
      ·
       exact gI_in hv h1
     ·
      exact hv
 ·
  show (mStB o x.b).length = 6 ∧ ∀ z ∈ mStB o x.b, mIsLabel z = true
  unfold mStB
  split
  ·
   exact set_all hb (labS_lab _)
  ·
   split
   ·
    exact set_all hb hz
   ·
    split
    ·
     rename_i h3
     obtain ⟨h1, h2, h3⟩ := mOp_34 ho (.inl h3)
     exact set_all hb (join_lab (gI_in hb h2) (gI_in hb h3))
    ·
     split
     ·
      rename_i h4
      obtain ⟨h1, h2, h3⟩ := mOp_34 ho (.inr h4)
      exact set_all hb (join_lab (join_lab (gI_in hb h1) (gI_in hb h2)) (gI_in hb h3))
     ·
      exact hb
theorem mMc_ok {vals : List Int} {l : List TOp} (h : l.all mOp = true) (k : Nat) : (mMc vals (l.take k)).ok := by
 have h0 : mMc0.ok := by
  have hz : mIsLabel 0 = true := by decide
  exact ⟨⟨by simp [mMc0], fun z hh => by rw [List.eq_of_mem_replicate hh]; omega⟩, ⟨by simp [mMc0], fun z hh => by rw [List.eq_of_mem_replicate hh]; exact hz⟩⟩
 have : ∀ (l : List TOp) (x : MMc), x.ok → l.all mOp = true → (l.foldl (mStep vals) x).ok := by
  intro l
  induction l with
  | nil => intro x hx _; exact hx
  | cons o l ih =>
   intro x hx hl
   rw [List.all_cons, Bool.and_eq_true] at hl
   exact ih _ (mStep_ok hx hl.1) hl.2
 refine this _ _ h0 ?_
 rw [List.all_eq_true] at h ⊢
 exact fun x hx => h x (List.mem_of_mem_take hx)
theorem mSent_le {vals : List Int} : ∀ (l : List TOp), (mMc vals l).s.length ≤ l.length := by
 have : ∀ (l : List TOp) (x : MMc), (l.foldl (mStep vals) x).s.length ≤ x.s.length + l.length := by
  intro l
  induction l with
  | nil => intro x; simp
  | cons o l ih =>
   intro x
   refine Nat.le_trans (ih _) ?_
   have : (mSd o x.v x.b).length ≤ 1 := by unfold mSd; split <;> simp
   simp only [mStep, List.length_append, List.length_cons]
   omega
 intro l
 have h := this l mMc0
 simpa [mMc, mMc0] using h
/-- The registers' labels when a program has run. -/
def mLAft (l : List TOp) : List Int := if mAreOps l then (mMc [] l).b else []
theorem mLAft_len (l : List TOp) : (mLAft l).length ≤ 6 := by
 unfold mLAft
 split
 ·
  rename_i h
  simp only [mAreOps, Bool.and_eq_true] at h
  have := mMc_ok (vals := []) h.2 l.length
  rw [List.take_length] at this
  exact Nat.le_of_eq this.2.1
 ·
  simp
end Go.Proofs.Ytcankpiidjhhpaa
