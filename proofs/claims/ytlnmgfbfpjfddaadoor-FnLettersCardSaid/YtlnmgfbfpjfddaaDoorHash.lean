/- Hash, of the program and of the model, folds its list; Mod is the remainder that is not negative. -/
import Derived.Test.YtlnmgfbfpjfddaaDoorSlG
import Derived.Test.YtlnmgfbfpjfddaaDoorMod
namespace Go.Proofs.YtlnmgfbfpjfddaaDoor
open Go Go.ChangeShapes Go.WideShapes Go.ChangeAt Go.RowKit Go.Lib
set_option linter.unusedVariables false
set_option maxRecDepth 100000

def hstep (h v : Int) : Int := (h * 1000003 + v % 2147483647 + 13) % 2147483647
def mHash (l : List Int) : Int := l.foldl hstep 11
theorem hstep_bd (h v : Int) : 0 ≤ hstep h v ∧ hstep h v < 2147483647 := by unfold hstep; omega
theorem foldl_bd : ∀ (l : List Int) (h : Int), 0 ≤ h → h < 2147483647 → 0 ≤ l.foldl hstep h ∧ l.foldl hstep h < 2147483647
 | [], h, h0, h1 => ⟨h0, h1⟩
 | v :: l, h, _, _ => foldl_bd l _ (hstep_bd h v).1 (hstep_bd h v).2
theorem mHash_bd (l : List Int) : 0 ≤ mHash l ∧ mHash l < 2147483647 := foldl_bd l 11 (by omega) (by omega)
theorem mHash_take {l : List Int} {k : Nat} {z : Int} (hz : l[k]? = some z) : mHash (l.take (k + 1)) = (mHash (l.take k) * 1000003 + z % 2147483647 + 13) % 2147483647 := by
 rw [List.take_add_one, hz]
 unfold mHash
 rw [List.foldl_append]
 rfl
theorem tmod_emod (a m : Int) : (a.tmod m + m) % m = a % m := by
 have h := Int.tmod_add_mul_tdiv a m
 rw [Int.add_emod_right]
 conv => rhs; rw [← h]
 rw [Int.add_mul_emod_self_left]
theorem mod_pos {a m : Int} (hm : 0 < m) (h : ¬ a.tmod m < 0) : a.tmod m = a % m := by
 have h1 := tmod_hi a m hm
 have h2 := tmod_emod a m
 rw [Int.add_emod_right, Int.emod_eq_of_lt (by omega) h1] at h2
 exact h2
theorem mod_neg {a m : Int} (hm : 0 < m) (h : a.tmod m < 0) : a.tmod m + m = a % m := by
 have h1 := tmod_lo a m hm
 have h2 := tmod_emod a m
 rw [Int.emod_eq_of_lt (by omega) (by omega)] at h2
 exact h2
theorem impl_mod (a m : Int) (w : World) (h1 : 1 ≤ m) (h2 : m ≤ 1000000000000) (w0 : (Lit.int .i64 a).wf = true) :
  Calls Tryd.prog 110 #[.int .i64 a, .int .i64 m] w fun e w' => e = .returned (.int .i64 (a % m)) ∧ w = w' := by
 have hr := bounds_i64 w0
 have b1 := tmod_lo a m (by omega)
 have b2 := tmod_hi a m (by omega)
 by_cases h3 : a.tmod m < 0
 ·
  have e1 := Lib.hid (mod_neg (show 0 < m by omega) h3)
  go_enter Tryd.func110, Tryd.ntmps110
  go_wp2
  all_goals go_ret
  all_goals exact ⟨by rw [← e1.out]; rfl, rfl⟩
 ·
  have e1 := Lib.hid (mod_pos (show 0 < m by omega) h3)
  go_enter Tryd.func110, Tryd.ntmps110
  go_wp2
  all_goals go_ret
  all_goals exact ⟨by rw [← e1.out]; rfl, rfl⟩
theorem spec_mod (a m : Int) (w : World) (h1 : 1 ≤ m) (h2 : m ≤ 1000000000000) (w0 : (Lit.int .i64 a).wf = true) :
  Calls Tryd.prog 116 #[.int .i64 a, .int .i64 m] w fun e w' => e = .returned (.int .i64 (a % m)) ∧ w = w' := by
 have hr := bounds_i64 w0
 have b1 := tmod_lo a m (by omega)
 have b2 := tmod_hi a m (by omega)
 have e1 := Lib.hid (tmod_emod a m)
 have hpos : 0 ≤ a.tmod m + m := by omega
 go_enter Tryd.func116, Tryd.ntmps116
 go_wp2
 all_goals go_ret
 all_goals exact ⟨by rw [← e1.out]; rfl, rfl⟩
theorem wf_get {l : List Int} (h : I64s l) {k : Nat} {z : Int} (hz : l[k]? = some z) : (Lit.int .i64 z).wf = true := by
 exact WalkArith.wf_i64 (h z (List.mem_of_getElem? hz))
theorem impl_Hash' (l0 : List Int) (A0 : Option Addr) (n0 c0 lo0 hi0 : Nat) (w : World) (h0 : n0 ≤ 17592186044416) (r0 : Rd w lo0 hi0 1 A0 n0 (i64s l0)) (b0 : Hid (I64s l0)) :
  Calls Tryd.prog 103 #[.slice A0 n0 c0] w (fun e w' => e = .returned (.int .i64 (mHash l0)) ∧ w = w') := by
 have HR := Lib.hid r0
 have HL := Lib.hid (show l0.length = n0 by simpa using r0.1)
 clear r0
 go_enter Tryd.func103, Tryd.ntmps103
 go_wp2_with fail
 go_loop [3, 8] (fun h i => ∃ k : Nat, k ≤ n0 ∧ i = .int .i64 k ∧ h = .int .i64 (mHash (l0.take k))) (fun _ i => n0 - (intOf i).toNat)
 case atStart => exact ⟨0, Nat.zero_le _, rfl, rfl⟩
 case round =>
  obtain ⟨k, hk, rfl, rfl⟩ := hrel
  have hb1 := (mHash_bd (l0.take k)).1
  have hb2 := (mHash_bd (l0.take k)).2
  by_cases hlt : k < n0
  ·
   obtain ⟨b, off, z, rfl, _, _, hz, hc⟩ := rd_int HR.out hlt
   have HE := Lib.hid (mHash_take hz)
   have HW := Lib.hid (wf_get b0.out hz)
   have e1 := Int.emod_nonneg z (show (2147483647 : Int) ≠ 0 by omega)
   have e2 := Int.emod_lt_of_pos z (show (0 : Int) < 2147483647 by omega)
   clear hz
   go_wp2_with fail
   refine (impl_mod z 2147483647 _ (by omega) (by omega) HW.out).mono ?_
   rintro e w1 ⟨rfl, rfl⟩
   go_wp2_with fail
   go_round
   case rel => exact ⟨k + 1, by omega, by go_num, by rw [HE.out]⟩
   case measure => simp [intOf]; omega
  ·
   obtain rfl : k = n0 := by omega
   have HE := Lib.hid (show l0.take k = l0 from List.take_of_length_le (by rw [HL.out]; omega))
   go_wp2_with fail
   go_ret
   exact ⟨by rw [HE.out]; rfl, rfl⟩
theorem spec_Hash' (l0 : List Int) (A0 : Option Addr) (n0 c0 lo0 hi0 : Nat) (w : World) (h0 : n0 ≤ 17592186044416) (r0 : Rd w lo0 hi0 1 A0 n0 (i64s l0)) (b0 : Hid (I64s l0)) :
  Calls Tryd.prog 109 #[.slice A0 n0 c0] w (fun e w' => e = .returned (.int .i64 (mHash l0)) ∧ w = w') := by
 have HR := Lib.hid r0
 have HL := Lib.hid (show l0.length = n0 by simpa using r0.1)
 clear r0
 go_enter Tryd.func109, Tryd.ntmps109
 go_wp2_with fail
 go_loop [3, 4] (fun h i => ∃ k : Nat, k ≤ n0 ∧ i = .int .i64 k ∧ h = .int .i64 (mHash (l0.take k))) (fun _ i => n0 - (intOf i).toNat)
 case atStart => exact ⟨0, Nat.zero_le _, rfl, rfl⟩
 case round =>
  obtain ⟨k, hk, rfl, rfl⟩ := hrel
  have hb1 := (mHash_bd (l0.take k)).1
  have hb2 := (mHash_bd (l0.take k)).2
  by_cases hlt : k < n0
  ·
   obtain ⟨b, off, z, rfl, _, _, hz, hc⟩ := rd_int HR.out hlt
   have HE := Lib.hid (mHash_take hz)
   have HW := Lib.hid (wf_get b0.out hz)
   have e1 := Int.emod_nonneg z (show (2147483647 : Int) ≠ 0 by omega)
   have e2 := Int.emod_lt_of_pos z (show (0 : Int) < 2147483647 by omega)
   clear hz
   go_wp2_with fail
   refine (spec_mod z 2147483647 _ (by omega) (by omega) HW.out).mono ?_
   rintro e w1 ⟨rfl, rfl⟩
   go_wp2_with fail
   go_round
   case rel => exact ⟨k + 1, by omega, by go_num, by rw [HE.out]⟩
   case measure => simp [intOf]; omega
  ·
   obtain rfl : k = n0 := by omega
   have HE := Lib.hid (show l0.take k = l0 from List.take_of_length_le (by rw [HL.out]; omega))
   go_wp2_with fail
   go_ret
   exact ⟨by rw [HE.out]; rfl, rfl⟩
theorem impl_Hash (l0 : List Int) (A0 : Option Addr) (n0 c0 lo0 hi0 : Nat) (w : World) (h0 : n0 ≤ 1048576) (r0 : Rd w lo0 hi0 1 A0 n0 (i64s l0)) (b0 : Hid (I64s l0)) :
  Calls Tryd.prog 103 #[.slice A0 n0 c0] w (Says (.int .i64 (mHash l0)) w) := says_of_same (impl_Hash' l0 A0 n0 c0 lo0 hi0 w (by omega) r0 b0)
theorem spec_Hash (l0 : List Int) (A0 : Option Addr) (n0 c0 lo0 hi0 : Nat) (w : World) (h0 : n0 ≤ 1048576) (r0 : Rd w lo0 hi0 1 A0 n0 (i64s l0)) (b0 : Hid (I64s l0)) :
  Calls Tryd.prog 109 #[.slice A0 n0 c0] w (Says (.int .i64 (mHash l0)) w) := says_of_same (spec_Hash' l0 A0 n0 c0 lo0 hi0 w (by omega) r0 b0)
end Go.Proofs.YtlnmgfbfpjfddaaDoor
