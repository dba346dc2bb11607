/- Labels as sets, in plain words. No condition of its own. -/
import Derived.Test.YtlnmgfbfpjfddaaDoorLWith
import Derived.Test.YtlnmgfbfpjfddaaDoorLabOf
import Derived.Test.YtlnmgfbfpjfddaaDoorTxLab
import Derived.Test.YtlnmgfbfpjfddaaDoorLwC
namespace Go.Proofs.YtlnmgfbfpjfddaaDoor
open Go Go.ChangeShapes Go.WideShapes Go.ChangeAt Go.RowKit Go.Lib
set_option linter.unusedVariables false
set_option linter.unusedSimpArgs false
set_option maxRecDepth 100000
theorem lb_nat {x : Int} (h : mIsLabel x = true) : ∃ a : Nat, x = (a : Int) ∧ a ≤ 1022 ∧ a % 2 = 0 := by
  simp only [mIsLabel, Bool.and_eq_true, beq_iff_eq] at h
  have b1 := inR_true.1 h.1
  obtain ⟨a, rfl⟩ := Int.eq_ofNat_of_zero_le b1.1
  exact ⟨a, rfl, by omega, by omega⟩
theorem lb_of {a : Nat} (h : a ≤ 1022) (h2 : a % 2 = 0) : mIsLabel (a : Int) = true := by
  simp only [mIsLabel, Bool.and_eq_true, beq_iff_eq]
  exact ⟨inR_true.2 ⟨by omega, by omega⟩, by omega⟩
theorem lb_or {a b : Nat} (ha : a ≤ 1022) (hb : b ≤ 1022) (ha2 : a % 2 = 0) (hb2 : b % 2 = 0) : a ||| b ≤ 1022 ∧ (a ||| b) % 2 = 0 := by
  have hab : a ||| b < 1024 := Nat.or_lt_two_pow (n := 10) (by omega) (by omega)
  have h0 : (a ||| b).testBit 0 = false := by
    rw [Nat.testBit_or, Nat.testBit_zero, Nat.testBit_zero]
    simp [ha2, hb2]
  rw [Nat.testBit_zero] at h0
  have : ¬ ((a ||| b) % 2 = 1) := by simpa using h0
  omega
theorem join_nat {a b : Nat} (ha : a ≤ 1022) (hb : b ≤ 1022) (ha2 : a % 2 = 0) (hb2 : b % 2 = 0) : mJoin (a : Int) (b : Int) = ((a ||| b : Nat) : Int) := by
  unfold mJoin
  rw [lb_of ha ha2, lb_of hb hb2, or_nat a b (by omega) (by omega)]
  rfl
theorem mJoin_comm (x y : Int) : mJoin x y = mJoin y x := by
  cases hx : mIsLabel x with
  | false => unfold mJoin; simp [hx]
  | true =>
    cases hy : mIsLabel y with
    | false => unfold mJoin; simp [hy]
    | true =>
      obtain ⟨a, rfl, h1, h2⟩ := lb_nat hx
      obtain ⟨b, rfl, h3, h4⟩ := lb_nat hy
      rw [join_nat h1 h3 h2 h4, join_nat h3 h1 h4 h2, Nat.or_comm]
theorem mJoin_label (x y : Int) : mIsLabel (mJoin x y) = true := by
  cases hx : mIsLabel x with
  | false =>
    have : mJoin x y = 0 := by unfold mJoin; simp [hx]
    rw [this]; rfl
  | true =>
    cases hy : mIsLabel y with
    | false =>
      have : mJoin x y = 0 := by unfold mJoin; simp [hy]
      rw [this]; rfl
    | true =>
      obtain ⟨a, rfl, h1, h2⟩ := lb_nat hx
      obtain ⟨b, rfl, h3, h4⟩ := lb_nat hy
      rw [join_nat h1 h3 h2 h4]
      obtain ⟨q1, q2⟩ := lb_or h1 h3 h2 h4
      exact lb_of q1 q2
theorem mLabS_own {x : Int} (h : mIsLabel x = true) : ((mLabS (mOwn x) 9 : Nat) : Int) = x := by
  have hx := h
  obtain ⟨a, rfl, h1, h2⟩ := lb_nat h
  rw [mLabS_sum _ (fun k => mHas (a : Int) k) 9 (by omega) (fun j hj => own_mem _ hx j hj),
    mSum_congr (g := fun k => a / 2 ^ k % 2 == 1) 9 (fun j => by rw [mHas_nat, Nat.testBit_eq_decide_div_mod_eq]; rfl), mSum_self a h1 h2]
theorem mLWith_join {x y : Int} (hx : mIsLabel x = true) (hy : mIsLabel y = true) : mLWith x (mJoin x y) = true ∧ mLWith y (mJoin x y) = true ∧ mLWith x y = (mJoin x y == y) := by
  have hz := mJoin_label x y
  obtain ⟨a, rfl, h1, h2⟩ := lb_nat hx
  obtain ⟨b, rfl, h3, h4⟩ := lb_nat hy
  obtain ⟨q1, q2⟩ := lb_or h1 h3 h2 h4
  have e := join_nat h1 h3 h2 h4
  unfold mLWith
  rw [hz, hx, hy, e, join_nat h1 q1 h2 q2, join_nat h3 q1 h4 q2]
  refine ⟨?_, ?_, by simp⟩
  · rw [← Nat.or_assoc, Nat.or_self]; simp
  · rw [show b ||| (a ||| b) = a ||| b by rw [Nat.or_comm a b, ← Nat.or_assoc, Nat.or_self]]; simp
theorem own_join {x y : Int} (hx : mIsLabel x = true) (hy : mIsLabel y = true) {o : Int} (h1 : 1 ≤ o) (h9 : o ≤ 9) : decide (o ∈ mOwn (mJoin x y)) = (decide (o ∈ mOwn x) || decide (o ∈ mOwn y)) := by
  have hz := mJoin_label x y
  obtain ⟨j, hj⟩ : ∃ j : Nat, o = (j : Int) + 1 := ⟨(o - 1).toNat, by omega⟩
  have hj9 : j < 9 := by omega
  subst hj
  have m1 := own_mem x hx j hj9
  have m2 := own_mem y hy j hj9
  have m3 := own_mem _ hz j hj9
  obtain ⟨a, rfl, p1, p2⟩ := lb_nat hx
  obtain ⟨b, rfl, p3, p4⟩ := lb_nat hy
  rw [join_nat p1 p3 p2 p4] at m3 ⊢
  rw [mHas_nat] at m1 m2 m3
  rw [Nat.testBit_or, Bool.or_eq_true] at m3
  rw [Bool.eq_iff_iff, Bool.or_eq_true, decide_eq_true_eq, decide_eq_true_eq, decide_eq_true_eq, m1, m2, m3]
theorem mSum_lt (f : Nat → Bool) (k : Nat) : mSum f k < 2 ^ (k + 1) := by
  induction k with
  | zero => simp [mSum]
  | succ k ih =>
    have e : 2 ^ (k + 1 + 1) = 2 ^ (k + 1) + 2 ^ (k + 1) := by rw [Nat.pow_succ, Nat.mul_two]
    simp only [mSum]
    split <;> omega
theorem mSum_even (f : Nat → Bool) (k : Nat) : mSum f k % 2 = 0 := by
  induction k with
  | zero => rfl
  | succ k ih =>
    have e : 2 ^ (k + 1) = 2 * 2 ^ k := by rw [Nat.pow_succ]; omega
    simp only [mSum]
    split <;> omega
theorem mSum_bit (f : Nat → Bool) : ∀ (k j : Nat), 1 ≤ j → j ≤ k → (mSum f k).testBit j = f j
  | 0, j, h1, h2 => by omega
  | k + 1, j, h1, h2 => by
    have hlt := mSum_lt f k
    simp only [mSum]
    by_cases e : j = k + 1
    · subst e
      have h0 : (mSum f k).testBit (k + 1) = false := Nat.testBit_lt_two_pow hlt
      cases hf : f (k + 1) with
      | false => simp [h0]
      | true =>
        simp only [if_true]
        rw [Nat.add_comm, Nat.testBit_two_pow_add_eq, h0]; rfl
    · have ih := mSum_bit f k j h1 (by omega)
      cases hf : f (k + 1) with
      | false => simpa using ih
      | true =>
        simp only [if_true]
        rw [Nat.add_comm, Nat.testBit_two_pow_add_gt (by omega)]
        exact ih
theorem labS_label (l : List Int) : mIsLabel ((mLabS l 9 : Nat) : Int) = true ∧ ∀ z ∈ mOwn ((mLabS l 9 : Nat) : Int), z ∈ l := by
  have hs := mLabS_sum l (fun k => decide (((k : Int)) ∈ l)) 9 (by omega) (fun j hj => by simp)
  have hlt := mSum_lt (fun k => decide (((k : Int)) ∈ l)) 9
  have hev := mSum_even (fun k => decide (((k : Int)) ∈ l)) 9
  have hL : mIsLabel ((mLabS l 9 : Nat) : Int) = true := by
    rw [hs]
    refine lb_of ?_ hev
    have : (2 : Nat) ^ (9 + 1) = 1024 := by decide
    omega
  refine ⟨hL, fun z hz => ?_⟩
  have hz9 := own_in hz
  obtain ⟨j, hj⟩ : ∃ j : Nat, z = (j : Int) + 1 := ⟨(z - 1).toNat, by omega⟩
  subst hj
  have m := (own_mem _ hL j (by omega)).1 hz
  rw [mHas_nat, hs, mSum_bit _ 9 (j + 1) (by omega) (by omega)] at m
  simpa using m
theorem itoa_dig (z : Int) (h1 : 1 ≤ z) (h9 : z ≤ 9) : ∃ c r, itoa z = c :: r ∧ c ≠ 45 := by
  have h : ∀ k : Fin 10, 1 ≤ k.1 → UInt8.ofNat (48 + k.1) ≠ 45 := by decide
  refine ⟨UInt8.ofNat (48 + z.toNat), [], ?_, h ⟨z.toNat, by omega⟩ (by show 1 ≤ z.toNat; omega)⟩
  rw [itoa, if_neg (by omega), decDigits_one (by omega)]
theorem tLab_dash (x : Int) : (tLab x == [45]) = decide ((mOwn x).length = 0) := by
  unfold tLab
  by_cases h : (mOwn x).length = 0
  · rw [if_pos h, decide_eq_true h]; rfl
  · rw [if_neg h, decide_eq_false h]
    have hin : ∀ z ∈ mOwn x, 1 ≤ z ∧ z ≤ 9 := fun z hz => own_in hz
    cases hl : mOwn x with
    | nil => rw [hl] at h; exact absurd rfl h
    | cons z r =>
      obtain ⟨c, s, hc, hne⟩ := itoa_dig z (hin z (by rw [hl]; exact List.mem_cons_self ..)).1 (hin z (by rw [hl]; exact List.mem_cons_self ..)).2
      unfold sJoin
      rw [List.map_cons, Lib.join_cons, hc]
      simp [hne]
theorem tLab_str (x : Int) : ((⟨(tLab x).toArray⟩ : ByteArray).toList == [45]) = decide ((mOwn x).length = 0) := by
  rw [ByteArray.toList_eq]; exact tLab_dash x
end Go.Proofs.YtlnmgfbfpjfddaaDoor
