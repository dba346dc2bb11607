/- What FnLetters asks, in plain words. No condition of its own. -/
import Derived.Test.YtlnmgfbfpjfddaaDoorDeliver
import Derived.Test.YtlnmgfbfpjfddaaDoorForged
import Derived.Test.YtlnmgfbfpjfddaaDoorLettersFor
import Derived.Test.YtlnmgfbfpjfddaaDoorKhM
namespace Go.Proofs.YtlnmgfbfpjfddaaDoor
open Go Go.ChangeShapes Go.WideShapes Go.ChangeAt Go.RowKit Go.Lib
set_option linter.unusedVariables false
set_option linter.unusedSimpArgs false
set_option maxRecDepth 100000
theorem le_core (a b d t r s q x y : Int) (h : b = a + d + 2147483647 * t) (h1 : r + 2147483647 * x = a * 1000003 + q + 13) (h2 : s + 2147483647 * y = b * 1000003 + q + 13) : s = r + d * 1000003 + 2147483647 * (t * 1000003 + x - y) := by
  subst h
  rw [Int.add_mul, Int.add_mul] at h2
  rw [show 2147483647 * t * 1000003 = 2147483647 * (t * 1000003) from Int.mul_assoc ..] at h2
  rw [Int.mul_sub, Int.mul_add]
  generalize 2147483647 * (t * 1000003) = T at *
  generalize 2147483647 * x = X at *
  generalize 2147483647 * y = Y at *
  generalize a * 1000003 = P at *
  generalize d * 1000003 = Q at *
  omega
theorem le_step {h h' v d e t u : Int} (hh : h' = h + d + 2147483647 * t) (he : d * 1000003 = e + 2147483647 * u) : ∃ t', hstep h' v = hstep h v + e + 2147483647 * t' := by
  have e1 := Int.emod_add_mul_ediv (h * 1000003 + v % 2147483647 + 13) 2147483647
  have e2 := Int.emod_add_mul_ediv (h' * 1000003 + v % 2147483647 + 13) 2147483647
  have := le_core h h' d t _ _ _ _ _ hh e1 e2
  rw [he] at this
  refine ⟨u + (t * 1000003 + (h * 1000003 + v % 2147483647 + 13) / 2147483647 - (h' * 1000003 + v % 2147483647 + 13) / 2147483647), ?_⟩
  unfold hstep
  rw [this, Int.mul_add]
  generalize (h * 1000003 + v % 2147483647 + 13) % 2147483647 = P at *
  generalize 2147483647 * u = Q at *
  generalize 2147483647 * (t * 1000003 + (h * 1000003 + v % 2147483647 + 13) / 2147483647 - (h' * 1000003 + v % 2147483647 + 13) / 2147483647) = Z at *
  clear e1 e2 this hh he
  omega
theorem le_last {h h' v d e t u : Int} (hh : h' = h + d + 2147483647 * t) (he : d * 1000003 = e + 2147483647 * u) (h0 : 0 ≤ v) (h1 : v + 1 < 2147483647) : ∃ t', hstep h' (v + 1) = hstep h v + (e + 1) + 2147483647 * t' := by
  obtain ⟨t1, e1⟩ := le_step (v := v) hh he
  have a1 := Int.emod_add_mul_ediv (h' * 1000003 + v % 2147483647 + 13) 2147483647
  have a2 := Int.emod_add_mul_ediv (h' * 1000003 + (v + 1) % 2147483647 + 13) 2147483647
  have m1 : v % 2147483647 = v := Int.emod_eq_of_lt h0 (by omega)
  have m2 : (v + 1) % 2147483647 = v + 1 := Int.emod_eq_of_lt (by omega) h1
  unfold hstep at e1 ⊢
  rw [m1] at a1 e1 ⊢
  rw [m2] at a2 ⊢
  refine ⟨t1 + ((h' * 1000003 + v + 13) / 2147483647 - (h' * 1000003 + (v + 1) + 13) / 2147483647), ?_⟩
  rw [Int.mul_add, Int.mul_sub]
  generalize (h' * 1000003 + v + 13) % 2147483647 = A1 at *
  generalize (h' * 1000003 + (v + 1) + 13) % 2147483647 = A2 at *
  generalize 2147483647 * ((h' * 1000003 + v + 13) / 2147483647) = D1 at *
  generalize 2147483647 * ((h' * 1000003 + (v + 1) + 13) / 2147483647) = D2 at *
  generalize 2147483647 * t1 = D3 at *
  generalize h' * 1000003 = P at *
  omega
theorem mKHash_key (k a b d : Int) (h0 : 0 ≤ k) (h1 : k + 1 < 2147483647) : mKHash (k + 1) [a, b, d] ≠ mKHash k [a, b, d] := by
  obtain ⟨t0, e0⟩ := le_last (h := 11) (h' := 11) (v := k) (d := 0) (e := 0) (t := 0) (u := 0) (by omega) (by omega) h0 h1
  rw [Int.zero_add] at e0
  obtain ⟨t1, e1⟩ := le_step (v := a) (e := 1000003) (u := 0) e0 (by decide)
  obtain ⟨t2, e2⟩ := le_step (v := b) (e := 1426104154) (u := 465) e1 (by decide)
  obtain ⟨t3, e3⟩ := le_step (v := d) (e := 1049561761) (u := 664083) e2 (by decide)
  obtain ⟨t4, e4⟩ := le_last (v := k) (e := 1604566856) (u := 488741) e3 (by decide) h0 h1
  intro e
  have g1 : mKHash (k + 1) [a, b, d] = hstep (hstep (hstep (hstep (hstep 11 (k + 1)) a) b) d) (k + 1) := rfl
  have g2 : mKHash k [a, b, d] = hstep (hstep (hstep (hstep (hstep 11 k) a) b) d) k := rfl
  rw [g1, g2, e4] at e
  clear e0 e1 e2 e3 e4 g1 g2
  generalize hstep (hstep (hstep (hstep (hstep 11 k) a) b) d) k = H at e
  omega
theorem valid_bd {k : Int} (h : mValid k = true) : 1 ≤ k ∧ k ≤ 2147483646 := inR_true.1 h
theorem gen_bd {k : Int} {x : TLetter} (h : mGen k x = true) : mValid k = true ∧ (0 ≤ x.f0 ∧ x.f0 ≤ 5) ∧ (0 ≤ x.f1 ∧ x.f1 ≤ 5) ∧ (0 ≤ x.f2 ∧ x.f2 ≤ 999) ∧ mSealOf k x = x.f3 := by
  simp only [mGen, Bool.and_eq_true, beq_iff_eq] at h
  exact ⟨h.1.1.1.1, inR_true.1 h.1.1.1.2, inR_true.1 h.1.1.2, inR_true.1 h.1.2, h.2⟩
theorem gen_from {k : Int} {s : TLetter} (h : mGen k s = true) : mGen k ⟨(s.f0 + 1) % 6, s.f1, s.f2, s.f3⟩ = false := by
  obtain ⟨hv, b0, b1, b2, hs⟩ := gen_bd h
  rw [Bool.eq_false_iff]
  intro h'
  obtain ⟨_, c0, c1, c2, hs'⟩ := gen_bd h'
  simp only [mSealOf, hv, if_true] at hs hs'
  have hz : ([s.f0, s.f1, s.f2] : List Int)[0]? = some s.f0 := rfl
  have hne : (s.f0) % 2147483647 ≠ ((s.f0 + 1) % 6) % 2147483647 := by
    clear hs hs' hz c0 c1 c2 h h'
    generalize s.f0 = z at *
    have d1 : 0 ≤ (z + 1) % 6 := Int.emod_nonneg _ (by decide)
    have d2 : (z + 1) % 6 < 6 := Int.emod_lt_of_pos _ (by decide)
    rw [Int.emod_eq_of_lt (by omega) (by omega), Int.emod_eq_of_lt d1 (by omega)]
    omega
  have q := mKHash_parts k hz hne
  rw [show ([s.f0, s.f1, s.f2] : List Int).set 0 ((s.f0 + 1) % 6) = [(s.f0 + 1) % 6, s.f1, s.f2] from by simp only [List.set_cons_zero, List.set_cons_succ]] at q
  exact q (hs'.trans hs.symm)
theorem gen_body {k : Int} {s : TLetter} (h : mGen k s = true) : mGen k ⟨s.f0, s.f1, (s.f2 + 1) % 1000, s.f3⟩ = false := by
  obtain ⟨hv, b0, b1, b2, hs⟩ := gen_bd h
  rw [Bool.eq_false_iff]
  intro h'
  obtain ⟨_, c0, c1, c2, hs'⟩ := gen_bd h'
  simp only [mSealOf, hv, if_true] at hs hs'
  have hz : ([s.f0, s.f1, s.f2] : List Int)[2]? = some s.f2 := rfl
  have hne : (s.f2) % 2147483647 ≠ ((s.f2 + 1) % 1000) % 2147483647 := by
    clear hs hs' hz c0 c1 c2 h h'
    generalize s.f2 = z at *
    have d1 : 0 ≤ (z + 1) % 1000 := Int.emod_nonneg _ (by decide)
    have d2 : (z + 1) % 1000 < 1000 := Int.emod_lt_of_pos _ (by decide)
    rw [Int.emod_eq_of_lt (by omega) (by omega), Int.emod_eq_of_lt d1 (by omega)]
    omega
  have q := mKHash_parts k hz hne
  rw [show ([s.f0, s.f1, s.f2] : List Int).set 2 ((s.f2 + 1) % 1000) = [s.f0, s.f1, (s.f2 + 1) % 1000] from by simp only [List.set_cons_zero, List.set_cons_succ]] at q
  exact q (hs'.trans hs.symm)
theorem gen_key {k : Int} {s : TLetter} (h : mGen k s = true) (hk : k + 1 < 2147483647) : mGen (k + 1) s = false := by
  obtain ⟨hv, b0, b1, b2, hs⟩ := gen_bd h
  rw [Bool.eq_false_iff]
  intro h'
  obtain ⟨hv', c0, c1, c2, hs'⟩ := gen_bd h'
  simp only [mSealOf, hv, hv', if_true] at hs hs'
  have hb := valid_bd hv
  exact mKHash_key k s.f0 s.f1 s.f2 (by omega) hk (hs'.trans hs.symm)
theorem forged_del (k : Int) (l : List TLetter) (x : TLetter) : mForged k (mDel k l x) = mForged k l := by
  unfold mDel
  cases h : mDelOk k l x with
  | false => rfl
  | true =>
    rw [if_pos rfl]
    unfold mDelOk at h
    rw [Bool.and_eq_true] at h
    unfold mForged
    rw [List.filter_append]
    simp [h.1]
/-- How many letters go to a number below k - 1. -/
def cntTo (l : List TLetter) (k : Nat) : Nat := (l.filter fun x => decide (x.f1 < (k : Int) - 1)).length
theorem cntTo_zero {l : List TLetter} (h : ∀ x ∈ l, -1 ≤ x.f1) : cntTo l 0 = 0 := by
  unfold cntTo
  rw [List.length_eq_zero_iff, List.filter_eq_nil_iff]
  intro x hx
  have := h x hx
  simp; omega
theorem cntTo_all {l : List TLetter} (h : ∀ x ∈ l, x.f1 ≤ 6) : cntTo l 8 = l.length := by
  unfold cntTo
  rw [List.filter_eq_self.2]
  intro x hx
  have := h x hx
  simp; omega
theorem cntTo_step (l : List TLetter) (k : Nat) : cntTo l (k + 1) = cntTo l k + (l.filter fun x => x.f1 == (k : Int) - 1).length := by
  induction l with
  | nil => rfl
  | cons x l ih =>
    have L : ∀ (c : Prop) [Decidable c] (A : List TLetter), (if c then x :: A else A).length = A.length + (if c then 1 else 0) := by
      intro c _ A
      split <;> simp
    unfold cntTo at ih ⊢
    simp only [List.filter_cons, L, decide_eq_true_eq, beq_iff_eq]
    (repeat' split) <;> omega
theorem cntTo_le (l : List TLetter) (k : Nat) : cntTo l k ≤ l.length := List.length_filter_le _ _
theorem ig_eq (k : Int) (x : TLetter) (v : Bool) (h : mGen k x = v) (W : World) (hT : Pow10 W) (wk : (Lit.int .i64 k).wf = true) (Hx : Hid (TLetter.fit x)) : Calls Tryd.prog 36 #[.int .i64 k, vLetter x] W (Says (.bool v) W) := h ▸ impl_IsGenuine k x W hT wk Hx
end Go.Proofs.YtlnmgfbfpjfddaaDoor
