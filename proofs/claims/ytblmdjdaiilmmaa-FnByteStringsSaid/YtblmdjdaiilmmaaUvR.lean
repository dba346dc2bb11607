/- What is read where a varint was written, and the other way round: about numbers and lists alone. -/
import Derived.Test.YtblmdjdaiilmmaaRdB
namespace Go.Proofs.Ytblmdjdaiilmmaa
open Go Go.ChangeShapes Go.WideShapes Go.ChangeAt Go.RowKit Go.Lib
set_option linter.unusedVariables false
set_option linter.unusedSimpArgs false
set_option maxRecDepth 100000
theorem or_add {n m : Nat} (j : Nat) (h : n < 2 ^ j) : n ||| m * 2 ^ j = n + m * 2 ^ j := by
  rw [Nat.or_comm, Nat.mul_comm, ← Nat.two_pow_add_eq_or_of_lt h, Nat.add_comm]
theorem pow128 (k : Nat) : 128 ^ k = 2 ^ (7 * k) := by rw [Nat.pow_mul]
theorem grp_nat {n q k : Nat} (hn : n < 128 ^ k) (hk : k < 6) : grpU (n : Int) (q : Int) k = ((n + q % 128 * 128 ^ k : Nat) : Int) := by
  have hm : q % 128 < 128 := Nat.mod_lt _ (by decide)
  have hb : q % 128 * 128 ^ k < 4611686018427387904 := by
    obtain rfl | rfl | rfl | rfl | rfl | rfl : k = 0 ∨ k = 1 ∨ k = 2 ∨ k = 3 ∨ k = 4 ∨ k = 5 := by omega
    all_goals (simp only [Nat.reducePow]; omega)
  have ha : n < 4611686018427387904 := by
    obtain rfl | rfl | rfl | rfl | rfl | rfl : k = 0 ∨ k = 1 ∨ k = 2 ∨ k = 3 ∨ k = 4 ∨ k = 5 := by omega
    all_goals (simp only [Nat.reducePow] at hn; omega)
  have h := (or_natL n (q % 128 * 128 ^ k) ha hb).1
  unfold grpU
  rw [show (q : Int) % 128 * 128 ^ k = ((q % 128 * 128 ^ k : Nat) : Int) by push_cast; rfl, h]
  congr 1
  rw [pow128] at hn ⊢
  exact or_add _ hn
theorem pow_step {n m k : Nat} (hn : n < 128 ^ k) (hm : m < 128) : n + m * 128 ^ k < 128 ^ (k + 1) := by
  have h1 : (m + 1) * 128 ^ k ≤ 128 * 128 ^ k := Nat.mul_le_mul_right _ (by omega)
  rw [Nat.pow_succ, Nat.mul_comm (128 ^ k) 128]
  rw [Nat.add_mul, Nat.one_mul] at h1
  omega
theorem uv_pos (v : Nat) : 0 < (uv v).length := by
  by_cases h : v < 128
  · rw [uv_small h]; simp
  · rw [uv_big h]; simp
theorem mRd_uv (l : List Int) (o : Nat) : ∀ (f k n v : Nat), f + k = 6 → v < 128 ^ f → (0 < v ∨ k = 0) → n < 128 ^ k → n + v * 128 ^ k ≤ 1000000000000 → (∀ j z, (uv v)[j]? = some z → l[o + k + j]? = some z) →
    mRd l o f k (n : Int) = ⟨((n + v * 128 ^ k : Nat) : Int), (o : Int) + k + (uv v).length, true⟩
  | 0, k, n, v, hf, hv, h0, _, _, _ => by
    rw [Nat.pow_zero] at hv
    omega
  | f + 1, k, n, v, hf, hv, h0, hn, hs, hl => by
    by_cases h : v < 128
    · have hz := hl 0 (v : Int) (by rw [uv_small h]; rfl)
      rw [Nat.add_zero] at hz
      have hg := grp_nat (q := v) hn (by omega : k < 6)
      rw [Nat.mod_eq_of_lt h] at hg
      have := mRd_good (R := mRd l o (f + 1) k (n : Int)) rfl hz (by omega) (by rw [hg]; omega)
      rw [this, hg, uv_small h]
      rfl
    · have hz := hl 0 ((v % 128 + 128 : Nat) : Int) (by rw [uv_big h]; rfl)
      rw [Nat.add_zero] at hz
      have hg := grp_nat (q := v % 128 + 128) hn (by omega : k < 6)
      rw [Nat.add_mod_right, Nat.mod_mod] at hg
      have hr := mRd_more (R := mRd l o (f + 1) k (n : Int)) rfl hz (by omega)
      rw [← hr, hg]
      have e1 : n + v % 128 * 128 ^ k + v / 128 * 128 ^ (k + 1) = n + v * 128 ^ k := by
        rw [Nat.pow_succ, Nat.mul_comm (128 ^ k) 128, ← Nat.mul_assoc, Nat.add_assoc, ← Nat.add_mul]
        congr 2
        omega
      have ih := mRd_uv l o f (k + 1) (n + v % 128 * 128 ^ k) (v / 128) (by omega) (Nat.div_lt_of_lt_mul (by rw [Nat.pow_succ] at hv; omega)) (.inl (by omega)) (pow_step hn (by omega)) (by rw [e1]; exact hs) (fun j z hj => by
        have := hl (j + 1) z (by rw [uv_big h]; exact hj)
        rwa [show o + k + (j + 1) = o + (k + 1) + j by omega] at this)
      rw [ih, e1, uv_big h, List.length_cons]
      congr 1
      push_cast
      omega
theorem mReadU_back (b : List Int) (a : Int) (h : 0 ≤ a ∧ a ≤ 1000000000000) : mReadU (b ++ uv a.toNat) (b.length : Int) = ⟨a, ((b ++ uv a.toNat).length : Int), true⟩ := by
  unfold mReadU
  rw [if_neg (by omega), Int.toNat_natCast]
  have := mRd_uv (b ++ uv a.toNat) b.length 6 0 0 a.toNat rfl (by omega) (.inr rfl) (by decide) (by omega) (fun j z hj => by
    rw [Nat.add_zero, List.getElem?_append_right (by omega), Nat.add_sub_cancel_left]; exact hj)
  rw [Int.ofNat_zero] at this
  rw [this, List.length_append]
  simp
  omega
theorem mReadU_end (b : List Int) : mReadU b (b.length : Int) = noU := by
  unfold mReadU
  rw [if_neg (by omega), Int.toNat_natCast]
  exact mRd_none rfl (by omega)
theorem mRd_noU (l : List Int) (o : Nat) : ∀ (f k : Nat) (n : Int), (mRd l o f k n).ok = false → mRd l o f k n = noU
  | 0, _, _, _ => rfl
  | f + 1, k, n, h => by
    unfold mRd at h ⊢
    cases hz : l[o + k]? with
    | none => rfl
    | some z =>
      rw [hz] at h
      dsimp only at h ⊢
      split at h
      · rename_i h1
        rw [if_pos h1]
        split at h
        · rename_i h2; rw [if_pos h2]
        · cases h
      · rename_i h1
        rw [if_neg h1]
        exact mRd_noU l o f (k + 1) _ h
theorem mReadU_no {l : List Int} {a : Int} (h : (mReadU l a).ok = false) : mReadU l a = noU := by
  unfold mReadU at h ⊢
  split
  · rfl
  · rename_i h1
    rw [if_neg h1] at h
    exact mRd_noU _ _ _ _ _ h
theorem mRd_sound (l : List Int) (hu : U8s l) (o : Nat) : ∀ (f k n : Nat), f + k = 6 → n < 128 ^ k → (mRd l o f k (n : Int)).ok = true →
    ∃ v : Nat, (0 < v ∨ k = 0) ∧ (mRd l o f k (n : Int)).n = ((n + v * 128 ^ k : Nat) : Int) ∧ (mRd l o f k (n : Int)).to = (o : Int) + k + (uv v).length ∧ ∀ j z, (uv v)[j]? = some z → l[o + k + j]? = some z
  | 0, k, n, _, _, h => by cases h
  | f + 1, k, n, hf, hn, h => by
    cases hz : l[o + k]? with
    | none =>
      have := mRd_none (R := mRd l o (f + 1) k (n : Int)) rfl (List.getElem?_eq_none_iff.1 hz)
      rw [this] at h
      cases h
    | some z =>
      have hz8 := hu z (List.mem_of_getElem? hz)
      obtain ⟨q, rfl⟩ := Int.eq_ofNat_of_zero_le hz8.1
      have hg := grp_nat (q := q) hn (by omega : k < 6)
      by_cases h1 : (q : Int) < 128
      · by_cases h2 : (q : Int) = 0 ∧ 0 < k ∨ 1000000000000 < grpU (n : Int) (q : Int) k
        · have := mRd_bad (R := mRd l o (f + 1) k (n : Int)) rfl hz h1 h2
          rw [this] at h
          cases h
        · have := mRd_good (R := mRd l o (f + 1) k (n : Int)) rfl hz h1 h2
          rw [this, hg, Nat.mod_eq_of_lt (by omega)]
          refine ⟨q, by omega, rfl, by rw [uv_small (by omega)]; rfl, ?_⟩
          intro j z hj
          rw [uv_small (by omega)] at hj
          rcases j with _ | j
          · simp at hj; rw [Nat.add_zero, ← hj]; exact hz
          · simp at hj
      · have hr := mRd_more (R := mRd l o (f + 1) k (n : Int)) rfl hz h1
        rw [← hr, hg] at h ⊢
        obtain ⟨v, hv0, hn', hto, hl⟩ := mRd_sound l hu o f (k + 1) (n + q % 128 * 128 ^ k) (by omega) (pow_step hn (Nat.mod_lt _ (by decide))) h
        have hv1 : 0 < v := by omega
        have e0 : uv (q % 128 + 128 * v) = (q : Int) :: uv v := by
          rw [uv_big (by omega), show (q % 128 + 128 * v) % 128 + 128 = q by omega, show (q % 128 + 128 * v) / 128 = v by omega]
        refine ⟨q % 128 + 128 * v, .inl (by omega), ?_, ?_, ?_⟩
        · rw [hn', Nat.pow_succ]
          congr 1
          rw [Nat.add_mul, Nat.mul_comm (128 ^ k) 128, ← Nat.mul_assoc, Nat.mul_comm v 128]
          omega
        · rw [hto, e0, List.length_cons]
          push_cast
          omega
        · intro j z hj
          rw [e0] at hj
          rcases j with _ | j
          · simp at hj; rw [Nat.add_zero, ← hj]; exact hz
          · have := hl j z (by simpa using hj)
            rwa [show o + (k + 1) + j = o + k + (j + 1) by omega] at this
end Go.Proofs.Ytblmdjdaiilmmaa
