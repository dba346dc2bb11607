import Derived.Lib.ItoaNum
namespace Go.Proofs.YtlnmgfbfpjfddaaDoor
open Go.Lib

theorem dec_step (m : Nat) (_h : m ≠ 0) (l : List UInt8) :
    (if m / 10 = 0 then [] else decDigits (m / 10)) ++ UInt8.ofNat (48 + m % 10) :: l = decDigits m ++ l := by
  by_cases h10 : m < 10
  · rw [if_pos (by omega), decDigits, dif_pos h10, Nat.mod_eq_of_lt h10]; rfl
  · rw [if_neg (by omega)]
    conv => rhs; rw [decDigits, dif_neg h10]
    simp

/-- What the rounds of a numeral have laid: 'l' is laid and 'm' is still to come. -/
def Laid (n m : Nat) (l : List UInt8) : Prop := (if m = 0 then [] else decDigits m) ++ l = decDigits n

theorem laid_start (n : Nat) (h : n ≠ 0) : Laid n n [] := by simp [Laid, h]
theorem laid_step {n m : Nat} {l : List UInt8} (h : Laid n m l) (hm : m ≠ 0) : Laid n (m / 10) (UInt8.ofNat (48 + m % 10) :: l) := by
  unfold Laid at *
  rw [dec_step m hm l, ← h, if_neg hm]
theorem laid_end {n : Nat} {l : List UInt8} (h : Laid n 0 l) : l = decDigits n := by simpa [Laid] using h
theorem laid_len {n m : Nat} {l : List UInt8} (h : Laid n m l) (hn : n ≤ 9223372036854775808) : l.length ≤ 20 := by
  have h2 := congrArg List.length h
  have h3 := decDigits_length n
  have h4 : nDigits n ≤ 19 := by
    have mono : ∀ k u : Nat, u < 10 ^ (k + 1) → nDigits u ≤ k + 1 := by
      intro k
      induction k with
      | zero => intro u hu; rw [nDigits_small (by simpa using hu)]; omega
      | succ k ih =>
        intro u hu
        by_cases hs : u < 10
        · rw [nDigits_small hs]; omega
        · rw [nDigits_big hs]
          have := ih (u / 10) (by rw [Nat.pow_succ] at hu; omega)
          omega
    exact mono 18 n (by omega)
  rw [List.length_append] at h2
  omega
theorem nDigits_le : ∀ k u : Nat, u < 10 ^ (k + 1) → nDigits u ≤ k + 1 := by
  intro k
  induction k with
  | zero => intro u hu; rw [nDigits_small (by simpa using hu)]; omega
  | succ k ih =>
    intro u hu
    by_cases hs : u < 10
    · rw [nDigits_small hs]; omega
    · rw [nDigits_big hs]
      have := ih (u / 10) (by rw [Nat.pow_succ] at hu; omega)
      omega
theorem itoa_small (y : Int) (h0 : 0 ≤ y) (h1 : y ≤ 1000000000000) : (ByteArray.mk (itoa y).toArray).size ≤ 20 := by
  have h : (itoa y).length ≤ 20 := by
    rw [itoa, if_neg (by omega), decDigits_length]
    have := nDigits_le 12 y.toNat (by omega)
    omega
  simpa [ByteArray.size] using h
theorem itoa_len (y : Int) (h0 : -9223372036854775808 ≤ y) (h1 : y ≤ 9223372036854775807) : (itoa y).length ≤ 20 := by
  rw [itoa]
  split
  · rw [List.length_cons, decDigits_length]
    have := nDigits_le 18 y.natAbs (by omega)
    omega
  · rw [decDigits_length]
    have := nDigits_le 18 y.toNat (by omega)
    omega
end Go.Proofs.YtlnmgfbfpjfddaaDoor
