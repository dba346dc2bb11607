/- The program's CeilDiv and Mod answer cdiv and modv of any two ints. -/
import Derived.Test.YteldjnjjdjlpnaaDoorFrame
import Derived.Test.YteldjnjjdjlpnaaDoorMod
namespace Go.Proofs.YteldjnjjdjlpnaaDoor
open Go Go.RowKit

def cdiv (a b : Int) : Int := if 0 ≤ a ∧ a ≤ 1000000000000 ∧ 1 ≤ b ∧ b ≤ 1000000000000 then (a + b - 1) / b else 0
def modv (a b : Int) : Int := if 1 ≤ b ∧ b ≤ 1000000000000 then a % b else 0

theorem modv_neg {a b : Int} (h1 : 1 ≤ b) (h2 : b ≤ 1000000000000) (h3 : a.tmod b < 0) : modv a b = a.tmod b + b := by
  rw [modv, if_pos ⟨h1, h2⟩]
  have e := Int.emod_eq_of_lt (a := a.tmod b + b) (b := b) (by have := tmod_lo a b (by omega); omega) (by omega)
  rw [← e, Int.add_emod_right]
  conv => lhs; rw [← Int.mul_tdiv_add_tmod a b]
  rw [Int.mul_add_emod_self_left]
theorem modv_pos {a b : Int} (h1 : 1 ≤ b) (h2 : b ≤ 1000000000000) (h3 : 0 ≤ a.tmod b) : modv a b = a.tmod b := by
  rw [modv, if_pos ⟨h1, h2⟩]
  have e := Int.emod_eq_of_lt (a := a.tmod b) (b := b) h3 (tmod_hi a b (by omega))
  rw [← e]
  conv => lhs; rw [← Int.mul_tdiv_add_tmod a b]
  rw [Int.mul_add_emod_self_left]

theorem mod_facts {a b : Int} (h1 : 1 ≤ b) (h2 : b ≤ 1000000000000) : 0 ≤ modv a b ∧ modv a b < b ∧ (a.tmod b - modv a b).tmod b = 0 ∧ -1000000000000 ≤ a.tmod b - modv a b ∧ a.tmod b - modv a b ≤ 1000000000000 := by
  have l1 := tmod_lo a b (by omega)
  have l2 := tmod_hi a b (by omega)
  by_cases h3 : a.tmod b < 0
  · rw [modv_neg h1 h2 h3, show a.tmod b - (a.tmod b + b) = -b by omega]
    exact ⟨by omega, by omega, by rw [Int.neg_tmod, Int.tmod_self]; rfl, by omega, by omega⟩
  · rw [modv_pos (a := a) h1 h2 (by omega), Int.sub_self]
    exact ⟨by omega, by omega, Int.zero_tmod b, by omega, by omega⟩
theorem ceil_facts {a b : Int} (h1 : 0 ≤ a) (h2 : a ≤ 1000000000000) (h3 : 1 ≤ b) (h4 : b ≤ 1000000000000) : a ≤ cdiv a b * b ∧ cdiv a b * b < a + b := by
  rw [cdiv, if_pos ⟨h1, h2, h3, h4⟩]
  have e1 := Int.emod_nonneg (a + b - 1) (show b ≠ 0 by omega)
  have e2 := Int.emod_lt_of_pos (a + b - 1) (show 0 < b by omega)
  have e3 := Int.mul_ediv_add_emod (a + b - 1) b
  rw [Int.mul_comm] at e3
  omega
theorem ceil_zero {a b : Int} (h : ¬ (0 ≤ a ∧ a ≤ 1000000000000 ∧ 1 ≤ b ∧ b ≤ 1000000000000)) : cdiv a b = 0 := by rw [cdiv, if_neg h]
theorem mod_zero {a b : Int} (h : ¬ (1 ≤ b ∧ b ≤ 1000000000000)) : modv a b = 0 := by rw [modv, if_neg h]

theorem ret_int {a b : Int} (h : a = b) : Ending.returned (.int .i64 a) = .returned (.int .i64 b) := by rw [h]

theorem ceil_any (a b : Int) (w : World) (ha : -9223372036854775808 ≤ a ∧ a ≤ 9223372036854775807) (hb : -9223372036854775808 ≤ b ∧ b ≤ 9223372036854775807) :
    Calls Tryd.prog 15 #[.int .i64 a, .int .i64 b] w fun e w' => e = .returned (.int .i64 (cdiv a b)) ∧ w = w' := by
  obtain ⟨a1, a2⟩ := ha
  obtain ⟨b1, b2⟩ := hb
  by_cases h1 : 0 ≤ a
  · by_cases h2 : a ≤ 1000000000000
    · by_cases h3 : 1 ≤ b
      · by_cases h4 : b ≤ 1000000000000
        · have e : cdiv a b = (a + b - 1) / b := by rw [cdiv, if_pos ⟨h1, h2, h3, h4⟩]
          rw [e]; clear e
          go_enter Tryd.func15, Tryd.ntmps15
          go_wp2
          go_ret
          exact ⟨rfl, rfl⟩
        · have e : cdiv a b = 0 := by rw [cdiv, if_neg (by omega)]
          rw [e]; clear e
          go_enter Tryd.func15, Tryd.ntmps15
          go_wp2
          go_ret
          exact ⟨rfl, rfl⟩
      · have e : cdiv a b = 0 := by rw [cdiv, if_neg (by omega)]
        rw [e]; clear e
        go_enter Tryd.func15, Tryd.ntmps15
        go_wp2
        go_ret
        exact ⟨rfl, rfl⟩
    · have e : cdiv a b = 0 := by rw [cdiv, if_neg (by omega)]
      rw [e]; clear e
      go_enter Tryd.func15, Tryd.ntmps15
      go_wp2
      go_ret
      exact ⟨rfl, rfl⟩
  · have e : cdiv a b = 0 := by rw [cdiv, if_neg (by omega)]
    rw [e]; clear e
    go_enter Tryd.func15, Tryd.ntmps15
    go_wp2
    go_ret
    exact ⟨rfl, rfl⟩

theorem mod_any (a b : Int) (w : World) (ha : -9223372036854775808 ≤ a ∧ a ≤ 9223372036854775807) (hb : -9223372036854775808 ≤ b ∧ b ≤ 9223372036854775807) :
    Calls Tryd.prog 16 #[.int .i64 a, .int .i64 b] w fun e w' => e = .returned (.int .i64 (modv a b)) ∧ w = w' := by
  obtain ⟨a1, a2⟩ := ha
  obtain ⟨b1, b2⟩ := hb
  by_cases h1 : 1 ≤ b
  · by_cases h2 : b ≤ 1000000000000
    · have l1 := tmod_lo a b (by omega)
      have l2 := tmod_hi a b (by omega)
      by_cases h3 : a.tmod b < 0
      · have E := Lib.hid (modv_neg h1 h2 h3)
        go_enter Tryd.func16, Tryd.ntmps16
        go_wp2
        go_ret
        exact ⟨ret_int E.out.symm, rfl⟩
      · have E := Lib.hid (modv_pos (a := a) h1 h2 (by omega))
        go_enter Tryd.func16, Tryd.ntmps16
        go_wp2
        go_ret
        exact ⟨ret_int E.out.symm, rfl⟩
    · have e : modv a b = 0 := by rw [modv, if_neg (by omega)]
      rw [e]; clear e
      go_enter Tryd.func16, Tryd.ntmps16
      go_wp2
      go_ret
      exact ⟨rfl, rfl⟩
  · have e : modv a b = 0 := by rw [modv, if_neg (by omega)]
    rw [e]; clear e
    go_enter Tryd.func16, Tryd.ntmps16
    go_wp2
    go_ret
    exact ⟨rfl, rfl⟩
end Go.Proofs.YteldjnjjdjlpnaaDoor
