/- slices.Index and Contains at int. -/
import Derived.Test.YtfceddgacefejaaSlI
import Derived.Test.YtfceddgacefejaaFun
import Derived.Deep.LoopGhost
namespace Go.Proofs.Ytfceddgacefejaa
open Go Go.ChangeShapes Go.WideShapes Go.ChangeAt Go.RowKit Go.Lib
set_option linter.unusedVariables false
set_option linter.unusedSimpArgs false
set_option maxRecDepth 100000
set_option maxHeartbeats 8000000 in
theorem index_Int (z : Int) (l : List Int) (A : Option Addr) (n c lo hi : Nat) (w : World) (hn : n ≤ 17592186044416) (hr : Rd w lo hi 1 A n (i64s l)) :
    Calls Try.prog 218 #[.slice A n c, .int .i64 z] w (Says (.int .i64 (idxP (fun x => decide (z = x)) l)) w) := by
  have HL := Lib.hid (show l.length = n by have := hr.1; simpa [i64s] using this)
  have HR := Lib.hid hr
  clear hr
  generalize hP : (fun x : Int => decide (z = x)) = P
  have HP := Lib.hid hP
  clear hP
  go_enter Try.func218, Try.ntmps218
  go_wp2_with fail
  go_loopg [5, 8] n (fun gg _ i wr => ∃ k : Nat, k ≤ n ∧ n - k ≤ gg ∧ i = .int .i64 k ∧ Hid (Below w.heap.size w wr) ∧ Hid ((l.take k).any P = false))
  case atStart => exact ⟨0, Nat.zero_le _, by omega, rfl, Lib.hid (Below.refl _ _), Lib.hid (by simp)⟩
  case round =>
    obtain ⟨k, hk, hg, rfl, HB, HF⟩ := hrel
    by_cases hlt : k < n
    · obtain ⟨b, off, x, rfl, _, _, hz, hc⟩ := rd_int (HR.out.new HB.out) hlt
      have HZ := Lib.hid hz
      have HPx := Lib.hid (show decide (z = x) = P x by rw [← HP.out])
      clear hz
      by_cases e : z = x
      · have HE := Lib.hid (idxP_hit HF.out HZ.out (by rw [← HPx.out, decide_eq_true e]))
        subst e
        go_wp2_with fail
        go_ret
        exact ⟨by rw [HE.out]; rfl, by first | exact below_dN HB.out _ | exact HB.out⟩
      · have HE := Lib.hid (any_step HF.out HZ.out (by rw [← HPx.out, decide_eq_false e]))
        go_wp2_with fail
        go_roundg (n - (k + 1))
        case measure => omega
        case rel => exact ⟨k + 1, by omega, by omega, by go_num, by first | exact HB | exact Lib.hid (below_dN HB.out _), HE⟩
    · obtain rfl : k = n := by omega
      have HE := Lib.hid (idxP_miss (by have := HF.out; rw [List.take_of_length_le (by have := HL.out; omega)] at this; exact this))
      go_wp2_with fail
      go_ret
      exact ⟨by rw [HE.out]; rfl, by first | exact below_dN HB.out _ | exact HB.out⟩
set_option maxHeartbeats 8000000 in
theorem contains_Int (z : Int) (l : List Int) (A : Option Addr) (n c lo hi : Nat) (w : World) (hn : n ≤ 17592186044416) (hr : Rd w lo hi 1 A n (i64s l)) :
    Calls Try.prog 149 #[.slice A n c, .int .i64 z] w (Says (.bool (l.any fun x => decide (z = x))) w) := by
  have HC := Lib.hid (fun W h => index_Int z l A n c lo hi W hn h)
  have HR := Lib.hid hr
  clear hr
  cases hq : l.any (fun x => decide (z = x)) with
  | true =>
    have hx := idxP_nonneg hq
    generalize idxP (fun x => decide (z = x)) l = r at HC hx
    clear hq
    have hd : decide (r ≥ 0) = true := by simp; omega
    go_enter Try.func149, Try.ntmps149
    go_wp2_with fail
    refine Calls.mono (HC.out _ HR.out) ?_
    rintro e w1 ⟨rfl, hb1⟩
    have HB1 := Lib.hid hb1
    clear hb1
    go_wp2_with fail
    go_ret
    exact ⟨rfl, HB1.out⟩
  | false =>
    have hx := idxP_miss hq
    rw [hx] at HC
    clear hx hq
    go_enter Try.func149, Try.ntmps149
    go_wp2_with fail
    refine Calls.mono (HC.out _ HR.out) ?_
    rintro e w1 ⟨rfl, hb1⟩
    have HB1 := Lib.hid hb1
    clear hb1
    go_wp2_with fail
    go_ret
    exact ⟨rfl, HB1.out⟩

end Go.Proofs.Ytfceddgacefejaa
