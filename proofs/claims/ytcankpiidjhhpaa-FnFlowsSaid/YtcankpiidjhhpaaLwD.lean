/- What the laws ask of lists of numbers: contains, within. No condition of its own. -/
import Derived.Test.YtcankpiidjhhpaaSlI
import Derived.Test.YtcankpiidjhhpaaReg
import Derived.Test.YtcankpiidjhhpaaFun
import Derived.Handy
import Derived.Deep.RegionHeld3
import Derived.Deep.LoopGhost
namespace Go.Proofs.Ytcankpiidjhhpaa
open Go Go.ChangeShapes Go.WideShapes Go.ChangeAt Go.RowKit Go.Lib
set_option linter.unusedVariables false
set_option linter.unusedSimpArgs false
set_option maxRecDepth 100000
set_option maxHeartbeats 4000000 in
theorem laws_contains (l : List Int) (A : Option Addr) (n c lo hi : Nat) (z : Int) (w : World) (hn : n ≤ 1048576) (hr : Rd w lo hi 1 A n (i64s l)) :
  Calls Try.prog 14 #[.slice A n c, .int .i64 z] w (fun e w' => e = .returned (.bool (decide (z ∈ l))) ∧ w = w') := by
 have HR := Lib.hid hr
 have HL := Lib.hid (show l.length = n by simpa using hr.1)
 clear hr
 go_enter Try.func14, Try.ntmps14
 go_wp2_with fail
 go_loopg [5] n (fun gg i wr => ∃ k : Nat, k ≤ n ∧ n - k ≤ gg ∧ i = .int .i64 k ∧ Hid (z ∉ l.take k) ∧ w = wr)
 case atStart => exact ⟨0, Nat.zero_le _, by omega, rfl, Lib.hid (by simp), rfl⟩
 case round =>
  obtain ⟨k, hk, hg, rfl, HT, rfl⟩ := hrel
  by_cases hlt : k < n
  ·
   obtain ⟨b, off, x, rfl, _, _, hz, hc⟩ := rd_int HR.out hlt
   by_cases h1 : x = z
   ·
    have HM := Lib.hid (show decide (z ∈ l) = true by simp [← h1, mem_of_get hz])
    have g1 : (x == z) = true := by simp [h1]
    clear h1 hz
    go_wp2_with fail
    go_ret
    exact ⟨by rw [HM.out]; rfl, rfl⟩
   ·
    have HM := Lib.hid (show z ∉ l.take (k + 1) by
     rw [List.take_add_one, hz]
     simp
     exact ⟨HT.out, fun e => h1 e.symm⟩)
    have g1 : (x == z) = false := by simp [h1]
    clear h1 hz
    go_wp2_with fail
    go_roundg (n - (k + 1))
    case measure => omega
    case rel => exact ⟨k + 1, by omega, by omega, by go_num, HM, rfl⟩
  ·
   obtain rfl : k = n := by omega
   have HM := Lib.hid (show decide (z ∈ l) = false by
    have := HT.out
    rw [List.take_of_length_le (by rw [HL.out]; omega)] at this
    simpa using this)
   go_wp2_with fail
   go_ret
   exact ⟨by rw [HM.out]; rfl, rfl⟩
end Go.Proofs.Ytcankpiidjhhpaa
