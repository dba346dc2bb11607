/- EqSSent, what is needed of it. -/
import Derived.Test.YtcankpiidjhhpaaYESent
namespace Go.Proofs.Ytcankpiidjhhpaa
open Go Go.ChangeShapes Go.WideShapes Go.ChangeAt Go.RowKit Go.Lib
set_option linter.unusedVariables false
set_option maxRecDepth 100000
set_option maxHeartbeats 2000000
theorem sleq_Sent (l l' : List TSent) (A A' : Option Addr) (n n' c c' lo hi lo' hi' : Nat) (w : World) (hn : n ≤ 17592186044416) (hn' : n' ≤ 17592186044416) (hr : Rd w lo hi 3 A n (cSent l)) (hr' : Rd w lo' hi' 3 A' n' (cSent l')) :
    Calls Try.prog 79 #[.slice A n c, .slice A' n' c'] w (Quiet (.bool (decide (l = l'))) w) := by
  have HL := Lib.hid (rd_len TSent.len hr (by decide))
  have HL' := Lib.hid (rd_len TSent.len hr' (by decide))
  have HR := Lib.hid hr
  have HR' := Lib.hid hr'
  clear hr hr'
  by_cases hnn : n = n'
  · have g0 : ((n : Int) != n') = false := by simp; omega
    have HN := Lib.hid hnn
    clear hnn
    go_enter Try.func79, Try.ntmps79
    go_wp2_with fail
    go_loopw [13] (fun i wr => ∃ k : Nat, k ≤ n ∧ i = .int .i64 k ∧ l.take k = l'.take k ∧ ∃ d, wr = w.drewN d) (fun i _ => n - (intOf i).toNat)
    case atStart => exact ⟨0, Nat.zero_le _, rfl, rfl, 0, rfl⟩
    case round =>
      obtain ⟨k, hk, rfl, ht, d, rfl⟩ := hrel
      have HT := Lib.hid ht
      clear ht
      by_cases hlt : k < n
      · have hlt' : k < n' := by have := HN.out; omega
        obtain ⟨b, off, x, rfl, _, _, hz, hc⟩ := rd_elem TSent.len HR.out HL.out hlt
        obtain ⟨b', off', x', rfl, _, _, hz', hc'⟩ := rd_elem TSent.len HR'.out HL'.out hlt'
        have c0 : w.cell? ⟨b, off + k * 3, none⟩ = _ := hc 0 _ rfl
        have c1 := hc 1 _ rfl
        have c2 := hc 2 _ rfl
        have c0' : w.cell? ⟨b', off' + k * 3, none⟩ = _ := hc' 0 _ rfl
        have c1' := hc' 1 _ rfl
        have c2' := hc' 2 _ rfl
        have HZ := Lib.hid hz
        have HZ' := Lib.hid hz'
        clear hz hz' hc hc'
        by_cases e : x = x'
        · have g1 : ∀ w, _ := fun w => (neq_Sent x x' w).trans (by rw [decide_eq_true e])
          simp only [Bool.not_true] at g1
          have HE := Lib.hid (takes_eq_step HT.out HZ.out HZ'.out e)
          clear e
          go_wp2_with fail
          go_quiet (fail)
          go_wp2_with fail
          go_roundw
          case rel => exact ⟨k + 1, by omega, by go_num, HE.out, _, by first | exact World.drewN_drewN _ _ _ | rfl⟩
          case measure => simp [intOf]; omega
        · have g1 : ∀ w, _ := fun w => (neq_Sent x x' w).trans (by rw [decide_eq_false e])
          simp only [Bool.not_false] at g1
          have HE := Lib.hid (nes_at HZ.out HZ'.out e)
          clear e
          go_wp2_with fail
          go_quiet (fail)
          go_wp2_with fail
          go_ret
          exact ⟨by rw [HE.out]; rfl, _, by first | exact World.drewN_drewN _ _ _ | rfl⟩
      · obtain rfl : k = n := by omega
        have HE := Lib.hid (show decide (l = l') = true by
          rw [decide_eq_true_iff]
          have := HT.out
          rw [List.take_of_length_le (by have := HL.out; omega), List.take_of_length_le (by have := HL'.out; have := HN.out; omega)] at this
          exact this)
        go_wp2_with fail
        go_ret
        exact ⟨by rw [HE.out]; rfl, _, by first | exact World.drewN_drewN _ _ _ | rfl⟩
  · have g0 : ((n : Int) != n') = true := by simp; omega
    have HE := Lib.hid (show decide (l = l') = false by
      rw [decide_eq_false_iff_not]
      rintro rfl
      have := HL.out; have := HL'.out; omega)
    clear hnn
    go_enter Try.func79, Try.ntmps79
    go_wp2_with fail
    go_ret
    exact ⟨by rw [HE.out]; rfl, 0, rfl⟩

theorem impl_EqualSent (l0 : List TSent) (A0 : Option Addr) (n0 c0 lo0 hi0 : Nat) (l1 : List TSent) (A1 : Option Addr) (n1 c1 lo1 hi1 : Nat) (w : World) (h0 : n0 ≤ 1048576) (r0 : Rd w lo0 hi0 3 A0 n0 (cSent l0)) (b0 : Hid (cSentOk l0)) (h1 : n1 ≤ 1048576) (r1 : Rd w lo1 hi1 3 A1 n1 (cSent l1)) (b1 : Hid (cSentOk l1)) :
    Calls Try.prog 25 #[.slice A0 n0 c0, .slice A1 n1 c1] w (Says (.bool (decide (l0 = l1))) w) := by
  go_enter Try.func25, Try.ntmps25
  go_wp2_with fail
  refine (sleq_Sent l0 l1 A0 A1 n0 n1 c0 c1 _ _ _ _ _ (by omega) (by omega) r0 r1).mono ?_
  rintro e w1 ⟨rfl, d, rfl⟩
  go_wp2_with fail
  go_ret
  exact ⟨rfl, below_dN (Below.refl _ _) _⟩
end Go.Proofs.Ytcankpiidjhhpaa
