/- The cursor's take of any number of bytes, and bytes of it. -/
import Derived.Test.YtblmdjdaiilmmaaRdL
import Derived.Test.YtblmdjdaiilmmaaCloneB
import Derived.Test.YtblmdjdaiilmmaaFun
namespace Go.Proofs.Ytblmdjdaiilmmaa
open Go Go.ChangeShapes Go.WideShapes Go.ChangeAt Go.RowKit Go.Lib
set_option linter.unusedVariables false
set_option linter.unusedSimpArgs false
set_option maxRecDepth 100000
theorem or_natL (a b : Nat) (ha : a < 4611686018427387904) (hb : b < 4611686018427387904) : bits .or .i64 (a : Int) (b : Int) = ((a ||| b : Nat) : Int) ∧ a ||| b < 4611686018427387904 := by
  have h2 : bits .or .i64 (a : Int) (b : Int) = IntKind.i64.wrap ((BitVec.ofInt 64 (a : Int) ||| BitVec.ofInt 64 (b : Int)).toNat : Int) := rfl
  have h3 : ∀ m : Nat, m < 4611686018427387904 → (BitVec.ofInt 64 (m : Int)).toNat = m := fun m hm => by
    rw [BitVec.ofInt_natCast, BitVec.toNat_ofNat]; exact Nat.mod_eq_of_lt (by omega)
  have hlt : a ||| b < 2 ^ 62 := Nat.or_lt_two_pow (by simpa using ha) (by simpa using hb)
  refine ⟨?_, by simpa using hlt⟩
  rw [h2, BitVec.toNat_or, h3 a ha, h3 b hb]
  exact IntWalk.i64_in _ (by omega)
theorem grp_nn {n z : Int} {k : Nat} (hn : 0 ≤ n ∧ n < 4611686018427387904) (hk : k < 6) : 0 ≤ grpU n z k ∧ grpU n z k < 4611686018427387904 := by
  obtain ⟨a, rfl⟩ := Int.eq_ofNat_of_zero_le hn.1
  have hz : 0 ≤ z % 128 ∧ z % 128 < 128 := ⟨by omega, by omega⟩
  have hb : ∃ b : Nat, z % 128 * 128 ^ k = (b : Int) ∧ b < 4611686018427387904 := by
    generalize z % 128 = q at hz
    obtain ⟨q, rfl⟩ := Int.eq_ofNat_of_zero_le hz.1
    obtain rfl | rfl | rfl | rfl | rfl | rfl : k = 0 ∨ k = 1 ∨ k = 2 ∨ k = 3 ∨ k = 4 ∨ k = 5 := by omega
    · exact ⟨q, by simp, by omega⟩
    · exact ⟨q * 128, by simp, by omega⟩
    · exact ⟨q * 16384, by simp, by omega⟩
    · exact ⟨q * 2097152, by simp, by omega⟩
    · exact ⟨q * 268435456, by simp, by omega⟩
    · exact ⟨q * 34359738368, by simp, by omega⟩
  obtain ⟨b, hb, hlt⟩ := hb
  unfold grpU
  rw [hb]
  have := or_natL a b (by omega) hlt
  rw [this.1]
  exact ⟨by omega, by have := this.2; omega⟩
theorem mRd_fit (l : List Int) (o : Nat) : ∀ (f k : Nat) (n : Int), f + k ≤ 6 → 0 ≤ n ∧ n < 4611686018427387904 → (mRd l o f k n).ok = true →
    0 ≤ (mRd l o f k n).n ∧ (mRd l o f k n).n ≤ 1000000000000 ∧ (mRd l o f k n).to ≤ l.length := by
  intro f
  induction f with
  | zero => intro k n _ _ h; cases h
  | succ f ih =>
    intro k n hf hn h
    unfold mRd at h ⊢
    cases hz : l[o + k]? with
    | none => rw [hz] at h; cases h
    | some z =>
      rw [hz] at h
      have hlt := (List.getElem?_eq_some_iff.1 hz).1
      have hG := grp_nn (z := z) (k := k) hn (by omega)
      dsimp only at h ⊢
      by_cases h1 : z < 128
      · rw [if_pos h1] at h ⊢
        by_cases h2 : (decide (z = 0) && decide (0 < k) || decide (1000000000000 < grpU n z k)) = true
        · rw [if_pos h2] at h; cases h
        · rw [if_neg h2]
          simp only [Bool.or_eq_true, decide_eq_true_eq, not_or] at h2
          exact ⟨hG.1, by show grpU n z k ≤ _; omega, by show (o : Int) + k + 1 ≤ l.length; omega⟩
      · rw [if_neg h1] at h ⊢
        exact ih (k + 1) _ (by omega) hG h
theorem rd_here {w : World} {lo hi b off n : Nat} {xs : List Value} (h : Rd w lo hi 1 (some ⟨b, off, none⟩) n xs) : Rd w b (b + 1) 1 (some ⟨b, off, none⟩) n xs :=
  ⟨h.1, fun hn => by
    obtain ⟨b', off', e, _, _, hc⟩ := h.2 hn
    cases e
    exact ⟨b, off, rfl, Nat.le_refl _, Nat.lt_succ_self _, hc⟩⟩
theorem rd_sub {w : World} {lo hi b off n : Nat} {l : List Int} (h : Rd w lo hi 1 (some ⟨b, off, none⟩) n (u8s l)) {k m : Nat} (hk : k + m ≤ n) : Rd w lo hi 1 (some ⟨b, off + k, none⟩) m (u8s ((l.drop k).take m)) := by
  have hl : l.length = n := by simpa using h.1
  refine ⟨by simp [u8s]; omega, fun hm => ?_⟩
  obtain ⟨b', off', e, h1, h2, hc⟩ := h.2 (by omega)
  cases e
  refine ⟨b, off + k, rfl, h1, h2, fun j u hu => ?_⟩
  have hj : (u8s l)[k + j]? = some u := by
    simp only [u8s, List.getElem?_map, List.getElem?_take, List.getElem?_drop] at hu ⊢
    split at hu
    · exact hu
    · cases hu
  have := hc (k + j) u hj
  rwa [← Nat.add_assoc] at this
theorem rd_zero (w : World) (lo hi : Nat) (A : Option Addr) : Rd w lo hi 1 A 0 (u8s []) := ⟨rfl, fun h => absurd h (by omega)⟩
theorem take_many (g b off n cap k m : Nat) (w : World) (hn : n ≤ 17592186044416) (hcap : n ≤ cap) (hc : CurP w g b off n cap k) (hk : k + m ≤ n) (hm : 0 < m) :
    Calls Try.prog 142 #[.pointer (some ⟨g, 0, none⟩), .int .i64 m] w (fun e w' => e = .returned (.tuple #[.slice (some ⟨b, off + k, none⟩) m m, .bool true]) ∧ CurP w' g b off n cap (k + m) ∧ w.grownBy w' (some g)) := by
  have p0 := hc.at_ (j := 0) (u := .slice (some ⟨b, off, none⟩) n cap) rfl
  have p1 := hc.at_ (j := 1) (u := .int .i64 k) rfl
  have f1 := hc.free 1
  have hin : inR m 0 ((n : Int) - k) = true := inR_true.2 (by omega)
  obtain ⟨k2, hk2⟩ : ∃ k2, k2 = k + m := ⟨_, rfl⟩
  have hwr : IntKind.i64.wrap ((k : Int) + (m : Int)) = (k2 : Int) := by rw [hk2]; have := IntWalk.i64_in ((k : Int) + (m : Int)) (by omega); rw [this]; omega
  have q1 : k ≤ k2 := by omega
  have q2 : k2 ≤ cap := by omega
  have q3 : ¬ k2 = k := by omega
  have q4 : ¬ k2 - k = 0 := by omega
  have q5 : k2 - k = m := by omega
  go_enter Try.func142, Try.ntmps142
  go_wp2_with fail
  go_quiet ((go_at_call 140; exact Calls.quiet_of_same ((impl_in _ _ _ _).mono fun _ _ ⟨a, b⟩ => ⟨a, b.symm⟩)))
  go_wp2_with fail
  go_quiet (fail)
  go_wp2_with fail
  go_ret2
  refine ⟨by first | rfl | (rw [q5]) | (simp [q5]), ?_, ?_⟩
  · rw [← hk2]
    have h := curp_set (w := w) hc k2
    rw [show ((k2 : Nat) : Int) = (k : Int) + (m : Int) by omega] at h
    exact h
  · exact ⟨rfl, rfl, rfl, by simp [World.setCell], fun i hi hne => Below.heap_setCell w ⟨g, 1, none⟩ _ i (fun e => hne (by rw [e]))⟩
theorem take_zero (g b off n cap k : Nat) (w : World) (hn : n ≤ 17592186044416) (hcap : n ≤ cap) (hc : CurP w g b off n cap k) (hk : k ≤ n) :
    Calls Try.prog 142 #[.pointer (some ⟨g, 0, none⟩), .int .i64 0] w (fun e w' => (∃ A, e = .returned (.tuple #[.slice A 0 0, .bool true])) ∧ CurP w' g b off n cap k ∧ w.grownBy w' (some g)) := by
  have p0 := hc.at_ (j := 0) (u := .slice (some ⟨b, off, none⟩) n cap) rfl
  have p1 := hc.at_ (j := 1) (u := .int .i64 k) rfl
  have f1 := hc.free 1
  have hin : inR 0 0 ((n : Int) - k) = true := inR_true.2 (by omega)
  have hwr : IntKind.i64.wrap ((k : Int)) = (k : Int) := IntWalk.i64_in _ (by omega)
  have q2 : k ≤ cap := by omega
  go_enter Try.func142, Try.ntmps142
  go_wp2_with fail
  go_quiet ((go_at_call 140; exact Calls.quiet_of_same ((impl_in _ _ _ _).mono fun _ _ ⟨a, b⟩ => ⟨a, b.symm⟩)))
  go_wp2_with fail
  go_quiet (fail)
  go_wp2_with fail
  go_ret2
  refine ⟨⟨_, by first | rfl | simp⟩, ?_, ?_⟩
  · exact curp_set (w := w) hc k
  · exact ⟨rfl, rfl, rfl, by simp [World.setCell], fun i hi hne => Below.heap_setCell w ⟨g, 1, none⟩ _ i (fun e => hne (by rw [e]))⟩
theorem take_bad (g b off n cap k : Nat) (m : Int) (w : World) (hn : n ≤ 17592186044416) (hc : CurP w g b off n cap k) (hk2 : k ≤ 17592186044416) (hin : inR m 0 ((n : Int) - k) = false) :
    Calls Try.prog 142 #[.pointer (some ⟨g, 0, none⟩), .int .i64 m] w (fun e w' => e = .returned (.tuple #[.slice none 0 0, .bool false]) ∧ CurP w' g b off n cap k ∧ w.grownBy w' (some g)) := by
  have p0 := hc.at_ (j := 0) (u := .slice (some ⟨b, off, none⟩) n cap) rfl
  have p1 := hc.at_ (j := 1) (u := .int .i64 k) rfl
  go_enter Try.func142, Try.ntmps142
  go_wp2_with fail
  go_quiet ((go_at_call 140; exact Calls.quiet_of_same ((impl_in _ _ _ _).mono fun _ _ ⟨a, b⟩ => ⟨a, b.symm⟩)))
  go_wp2_with fail
  go_ret2
  exact ⟨rfl, hc, ⟨rfl, rfl, rfl, Nat.le_refl _, fun i hi hne => rfl⟩⟩
end Go.Proofs.Ytblmdjdaiilmmaa
