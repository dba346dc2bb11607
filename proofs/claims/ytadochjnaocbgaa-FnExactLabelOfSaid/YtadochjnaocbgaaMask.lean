/- Masks of labels: has and maskOf of the program, the bit of the model. -/
import Derived.Test.YtadochjnaocbgaaLabel
import Derived.Test.YtadochjnaocbgaaRws
import Derived.Test.YtadochjnaocbgaaReg
import Derived.Deep.RegionHeld3
import Derived.Deep.LoopGhost
namespace Go.Proofs.Ytadochjnaocbgaa
open Go Go.ChangeShapes Go.WideShapes Go.ChangeAt Go.RowKit Go.Lib
set_option linter.unusedVariables false
set_option linter.unusedSimpArgs false
set_option maxRecDepth 100000
def mHas (b : Int) (k : Nat) : Bool := b / ((2 ^ k : Nat) : Int) % 2 == 1
theorem box_cellM {w : World} {g j : Nat} {t : TypeId} {cs : Array Value} {u : Value} (h : BoxAt w g t cs) : BoxAt (w.setCell ⟨g, j, none⟩ u) g t (cs.setIfInBounds j u) := by
  unfold BoxAt at *
  simp [World.setCell, Array.getElem?_modify, h]
theorem bit1 {z : Int} (h0 : 0 ≤ z) (h1 : z ≤ 1022) : (bits .and .i64 z 2 != 0) = mHas z 1 := by
  obtain ⟨m, rfl⟩ := Int.eq_ofNat_of_zero_le h0
  have hm : m < 1023 := by omega
  have h : ∀ k : Fin 1023, (bits .and .i64 ((k.1 : Nat) : Int) 2 != 0) = mHas ((k.1 : Nat) : Int) 1 := by decide +kernel
  exact h ⟨m, hm⟩

theorem bit2 {z : Int} (h0 : 0 ≤ z) (h1 : z ≤ 1022) : (bits .and .i64 z 4 != 0) = mHas z 2 := by
  obtain ⟨m, rfl⟩ := Int.eq_ofNat_of_zero_le h0
  have hm : m < 1023 := by omega
  have h : ∀ k : Fin 1023, (bits .and .i64 ((k.1 : Nat) : Int) 4 != 0) = mHas ((k.1 : Nat) : Int) 2 := by decide +kernel
  exact h ⟨m, hm⟩

theorem bit3 {z : Int} (h0 : 0 ≤ z) (h1 : z ≤ 1022) : (bits .and .i64 z 8 != 0) = mHas z 3 := by
  obtain ⟨m, rfl⟩ := Int.eq_ofNat_of_zero_le h0
  have hm : m < 1023 := by omega
  have h : ∀ k : Fin 1023, (bits .and .i64 ((k.1 : Nat) : Int) 8 != 0) = mHas ((k.1 : Nat) : Int) 3 := by decide +kernel
  exact h ⟨m, hm⟩

theorem bit4 {z : Int} (h0 : 0 ≤ z) (h1 : z ≤ 1022) : (bits .and .i64 z 16 != 0) = mHas z 4 := by
  obtain ⟨m, rfl⟩ := Int.eq_ofNat_of_zero_le h0
  have hm : m < 1023 := by omega
  have h : ∀ k : Fin 1023, (bits .and .i64 ((k.1 : Nat) : Int) 16 != 0) = mHas ((k.1 : Nat) : Int) 4 := by decide +kernel
  exact h ⟨m, hm⟩

theorem bit5 {z : Int} (h0 : 0 ≤ z) (h1 : z ≤ 1022) : (bits .and .i64 z 32 != 0) = mHas z 5 := by
  obtain ⟨m, rfl⟩ := Int.eq_ofNat_of_zero_le h0
  have hm : m < 1023 := by omega
  have h : ∀ k : Fin 1023, (bits .and .i64 ((k.1 : Nat) : Int) 32 != 0) = mHas ((k.1 : Nat) : Int) 5 := by decide +kernel
  exact h ⟨m, hm⟩

theorem bit6 {z : Int} (h0 : 0 ≤ z) (h1 : z ≤ 1022) : (bits .and .i64 z 64 != 0) = mHas z 6 := by
  obtain ⟨m, rfl⟩ := Int.eq_ofNat_of_zero_le h0
  have hm : m < 1023 := by omega
  have h : ∀ k : Fin 1023, (bits .and .i64 ((k.1 : Nat) : Int) 64 != 0) = mHas ((k.1 : Nat) : Int) 6 := by decide +kernel
  exact h ⟨m, hm⟩

theorem bit7 {z : Int} (h0 : 0 ≤ z) (h1 : z ≤ 1022) : (bits .and .i64 z 128 != 0) = mHas z 7 := by
  obtain ⟨m, rfl⟩ := Int.eq_ofNat_of_zero_le h0
  have hm : m < 1023 := by omega
  have h : ∀ k : Fin 1023, (bits .and .i64 ((k.1 : Nat) : Int) 128 != 0) = mHas ((k.1 : Nat) : Int) 7 := by decide +kernel
  exact h ⟨m, hm⟩

theorem bit8 {z : Int} (h0 : 0 ≤ z) (h1 : z ≤ 1022) : (bits .and .i64 z 256 != 0) = mHas z 8 := by
  obtain ⟨m, rfl⟩ := Int.eq_ofNat_of_zero_le h0
  have hm : m < 1023 := by omega
  have h : ∀ k : Fin 1023, (bits .and .i64 ((k.1 : Nat) : Int) 256 != 0) = mHas ((k.1 : Nat) : Int) 8 := by decide +kernel
  exact h ⟨m, hm⟩

theorem bit9 {z : Int} (h0 : 0 ≤ z) (h1 : z ≤ 1022) : (bits .and .i64 z 512 != 0) = mHas z 9 := by
  obtain ⟨m, rfl⟩ := Int.eq_ofNat_of_zero_le h0
  have hm : m < 1023 := by omega
  have h : ∀ k : Fin 1023, (bits .and .i64 ((k.1 : Nat) : Int) 512 != 0) = mHas ((k.1 : Nat) : Int) 9 := by decide +kernel
  exact h ⟨m, hm⟩

set_option maxHeartbeats 4000000 in
theorem spec_bit (k : Nat) (w : World) (hk : k ≤ 9) : Calls Try.prog 56 #[.int .i64 (k : Int)] w (fun e w' => e = .returned (.int .i64 ((2 ^ k : Nat) : Int)) ∧ w = w') := by
  go_enter Try.func56, Try.ntmps56
  go_wp2_with fail
  go_loopg [3, 4] k (fun gg m i wr => ∃ (j z : Nat), j ≤ k ∧ k - j ≤ gg ∧ i = .int .i64 j ∧ m = .int .i64 z ∧ Hid (2 ^ j = z) ∧ w = wr)
  case atStart => exact ⟨0, 1, Nat.zero_le _, by omega, rfl, rfl, Lib.hid rfl, rfl⟩
  case round =>
    obtain ⟨j, z, hj, hg, rfl, rfl, HZ, rfl⟩ := hrel
    by_cases hlt : j < k
    · have hz : z ≤ 512 := by
        rw [← HZ.out]
        exact Nat.pow_le_pow_right (by decide) (by omega : j ≤ 9)
      go_wp2_with fail
      go_roundg (k - (j + 1))
      case measure => omega
      case rel => exact ⟨j + 1, 2 * z, by omega, by omega, by go_num, by go_num, Lib.hid (by rw [← HZ.out, Nat.pow_succ, Nat.mul_comm]), rfl⟩
    · obtain rfl : j = k := by omega
      go_wp2_with fail
      go_ret
      exact ⟨by rw [HZ.out]; rfl, rfl⟩
end Go.Proofs.Ytadochjnaocbgaa
