/- The model's LabelOf and JoinLabels. -/
import Derived.Test.YtcankpiidjhhpaaOwn2
namespace Go.Proofs.Ytcankpiidjhhpaa
open Go Go.ChangeShapes Go.WideShapes Go.ChangeAt Go.RowKit Go.Lib
set_option linter.unusedVariables false
set_option linter.unusedSimpArgs false
set_option maxRecDepth 100000
def mLabS (l : List Int) : Nat → Nat
 | 0 => 0
 | k + 1 => mLabS l k + if ((k : Int) + 1) ∈ l then 2 ^ (k + 1) else 0
theorem mLabS_le (l : List Int) (k : Nat) : mLabS l k + 2 ≤ 2 ^ (k + 1) := by
 induction k with
 | zero => simp [mLabS]
 | succ k ih =>
  have e : 2 ^ (k + 1 + 1) = 2 ^ (k + 1) + 2 ^ (k + 1) := by rw [Nat.pow_succ, Nat.mul_two]
  simp only [mLabS]
  split <;> omega
set_option maxHeartbeats 4000000 in
theorem spec_l7Has (l : List Int) (A : Option Addr) (n c lo hi : Nat) (z : Int) (w : World) (hn : n ≤ 1048576) (hr : Rd w lo hi 1 A n (i64s l)) :
  Calls Try.prog 87 #[.slice A n c, .int .i64 z] w (fun e w' => e = .returned (.bool (decide (z ∈ l))) ∧ w = w') := by
 have HR := Lib.hid hr
 have HL := Lib.hid (show l.length = n by simpa using hr.1)
 clear hr
 go_enter Try.func87, Try.ntmps87
 go_wp2_with fail
 go_loopg [5] n (fun gg i wr => ∃ k : Nat, k ≤ n ∧ n - k ≤ gg ∧ i = .int .i64 k ∧ Hid (z ∉ l.take k) ∧ w = wr)
 case atStart => exact ⟨0, Nat.zero_le _, by omega, rfl, Lib.hid (by simp), rfl⟩
 case round =>
  obtain ⟨k, hk, hg, rfl, HT, rfl⟩ := hrel
  by_cases hlt : k < n
  ·
   obtain ⟨b, off, x, rfl, _, _, hz, hc⟩ := rd_int HR.out hlt
   by_cases h1 : x = z
   ·
    have HM := Lib.hid (show decide (z ∈ l) = true by simp [← h1, mem_of_get hz])
    have g1 : (x == z) = true := by simp [h1]
    clear h1 hz
    go_wp2_with fail
    go_ret
    exact ⟨by rw [HM.out]; rfl, rfl⟩
   ·
    have HM := Lib.hid (show z ∉ l.take (k + 1) by
     rw [List.take_add_one, hz]
     simp
     exact ⟨HT.out, fun e => h1 e.symm⟩)
    have g1 : (x == z) = false := by simp [h1]
    clear h1 hz
    go_wp2_with fail
    go_roundg (n - (k + 1))
    case measure => omega
    case rel => exact ⟨k + 1, by omega, by omega, by go_num, HM, rfl⟩
  ·
   obtain rfl : k = n := by omega
   have HM := Lib.hid (show decide (z ∈ l) = false by
    have := HT.out
    rw [List.take_of_length_le (by rw [HL.out]; omega)] at this
    simpa using this)
   go_wp2_with fail
   go_ret
   exact ⟨by rw [HM.out]; rfl, rfl⟩
set_option maxHeartbeats 4000000 in
theorem spec_LabelOf (l : List Int) (A : Option Addr) (n c lo hi : Nat) (w : World) (hn : n ≤ 1048576) (hr : Rd w lo hi 1 A n (i64s l)) :
  Calls Try.prog 111 #[.slice A n c] w (fun e w' => e = .returned (.int .i64 ((mLabS l 9 : Nat) : Int)) ∧ w = w') := by
 have CH := Lib.hid (fun z => spec_l7Has l A n c lo hi z w hn hr)
 clear hr
 go_enter Try.func111, Try.ntmps111
 go_wp2_with fail
 go_loopg [3, 4] 9 (fun gg s i wr => ∃ (k m : Nat), k ≤ 9 ∧ 9 - k ≤ gg ∧ i = .int .i64 ((k : Int) + 1) ∧ s = .int .i64 m ∧ Hid (mLabS l k = m) ∧ w = wr)
 case atStart => exact ⟨0, 0, Nat.zero_le _, by omega, rfl, rfl, Lib.hid rfl, rfl⟩
 case round =>
  obtain ⟨k, m, hk, hg, rfl, rfl, HM, rfl⟩ := hrel
  by_cases hlt : k < 9
  ·
   have hle : (k : Int) + 1 ≤ 9 := by omega
   have CB := fun W => spec_bit (k + 1) W (by omega)
   simp only [show ((k + 1 : Nat) : Int) = (k : Int) + 1 by omega] at CB
   have hb := mLabS_le l (k + 1)
   have hs : mLabS l (k + 1) = mLabS l k + if ((k : Int) + 1) ∈ l then 2 ^ (k + 1) else 0 := rfl
   have hp : 2 ^ (k + 1 + 1) ≤ 1024 := Nat.pow_le_pow_right (by decide) (by omega : k + 1 + 1 ≤ 10)
   rw [HM.out] at hs
   have hm := mLabS_le l k
   rw [HM.out] at hm
   have hp2 : 2 ^ (k + 1) ≤ 512 := Nat.pow_le_pow_right (by decide) (by omega : k + 1 ≤ 9)
   generalize 2 ^ (k + 1) = z at CB hs hm hp2
   replace CB := Lib.hid CB
   have C0 := CH.out ((k : Int) + 1)
   by_cases h1 : ((k : Int) + 1) ∈ l
   ·
    rw [if_pos h1] at hs
    simp only [h1, decide_true] at C0
    replace C0 := Lib.hid C0
    replace hs := Lib.hid hs
    clear h1 hb hp
    go_wp2_with fail
    refine Calls.mono C0.out ?_
    rintro e w1 ⟨rfl, rfl⟩
    go_wp2_with fail
    refine Calls.mono (CB.out _) ?_
    rintro e w1 ⟨rfl, rfl⟩
    go_wp2_with fail
    go_roundg (9 - (k + 1))
    case measure => omega
    case rel => exact ⟨k + 1, m + z, by omega, by omega, by go_num, by go_num, hs, rfl⟩
   ·
    rw [if_neg h1] at hs
    simp only [h1, decide_false] at C0
    replace C0 := Lib.hid C0
    replace hs := Lib.hid hs
    clear h1 hb hp
    go_wp2_with fail
    refine Calls.mono C0.out ?_
    rintro e w1 ⟨rfl, rfl⟩
    go_wp2_with fail
    go_roundg (9 - (k + 1))
    case measure => omega
    case rel => exact ⟨k + 1, m, by omega, by omega, by go_num, rfl, Lib.hid (by simpa using hs.out), rfl⟩
  ·
   obtain rfl : k = 9 := by omega
   go_wp2_with fail
   go_ret
   exact ⟨by rw [HM.out]; rfl, rfl⟩
end Go.Proofs.Ytcankpiidjhhpaa
