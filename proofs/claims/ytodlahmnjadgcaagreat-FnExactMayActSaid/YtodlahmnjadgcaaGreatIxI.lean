/- slices.Index and Contains at int. -/
import Derived.Test.YtodlahmnjadgcaaGreatSlI
import Derived.Test.YtodlahmnjadgcaaGreatFun
import Derived.Deep.LoopGhost
namespace Go.Proofs.YtodlahmnjadgcaaGreat
open Go Go.ChangeShapes Go.WideShapes Go.ChangeAt Go.RowKit Go.Lib
set_option linter.unusedVariables false
set_option linter.unusedSimpArgs false
set_option maxRecDepth 100000
set_option maxHeartbeats 8000000 in
theorem index_Int (z : Int) (l : List Int) (A : Option Addr) (n c lo hi : Nat) (w : World) (hn : n ≤ 17592186044416) (hr : Rd w lo hi 1 A n (i64s l)) :
    Calls Tryz.prog 127 #[.slice A n c, .int .i64 z] w (Says (.int .i64 (idxP (fun x => decide (z = x)) l)) w) := by
  have HL := Lib.hid (show l.length = n by have := hr.1; simpa [i64s] using this)
  have HR := Lib.hid hr
  clear hr
  generalize hP : (fun x : Int => decide (z = x)) = P
  have HP := Lib.hid hP
  clear hP
  go_enter Tryz.func127, Tryz.ntmps127
  go_wp2_with fail
  go_loopg [5, 8] n (fun gg _ i wr => ∃ k : Nat, k ≤ n ∧ n - k ≤ gg ∧ i = .int .i64 k ∧ Hid (Below w.heap.size w wr) ∧ Hid ((l.take k).any P = false))
  case atStart => exact ⟨0, Nat.zero_le _, by omega, rfl, Lib.hid (Below.refl _ _), Lib.hid (by simp)⟩
  case round =>
    obtain ⟨k, hk, hg, rfl, HB, HF⟩ := hrel
    by_cases hlt : k < n
    · obtain ⟨b, off, x, rfl, _, _, hz, hc⟩ := rd_int (HR.out.new HB.out) hlt
      have HZ := Lib.hid hz
      have HPx := Lib.hid (show decide (z = x) = P x by rw [← HP.out])
      clear hz
      by_cases e : z = x
      · have HE := Lib.hid (idxP_hit HF.out HZ.out (by rw [← HPx.out, decide_eq_true e]))
        subst e
        go_wp2_with fail
        go_ret
        exact ⟨by rw [HE.out]; rfl, by first | exact below_dN HB.out _ | exact HB.out⟩
      · have HE := Lib.hid (any_step HF.out HZ.out (by rw [← HPx.out, decide_eq_false e]))
        go_wp2_with fail
        go_roundg (n - (k + 1))
        case measure => omega
        case rel => exact ⟨k + 1, by omega, by omega, by go_num, by first | exact HB | exact Lib.hid (below_dN HB.out _), HE⟩
    · obtain rfl : k = n := by omega
      have HE := Lib.hid (idxP_miss (by have := HF.out; rw [List.take_of_length_le (by have := HL.out; omega)] at this; exact this))
      go_wp2_with fail
      go_ret
      exact ⟨by rw [HE.out]; rfl, by first | exact below_dN HB.out _ | exact HB.out⟩
end Go.Proofs.YtodlahmnjadgcaaGreat
