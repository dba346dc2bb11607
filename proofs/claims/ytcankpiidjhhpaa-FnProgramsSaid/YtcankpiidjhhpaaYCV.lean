/- CV, what is needed of it. -/
import Derived.Test.YtcankpiidjhhpaaYGa
import Derived.Handy
import Derived.Deep.LoopGhost
namespace Go.Proofs.Ytcankpiidjhhpaa
open Go Go.ChangeShapes Go.WideShapes Go.ChangeAt Go.RowKit Go.Lib
set_option linter.unusedVariables false
set_option linter.unusedSimpArgs false
set_option maxRecDepth 100000
theorem info_intC : (Try.prog.info? 3).map (fun i => (i.zero, i.size, i.bytes)) = some (some (.int .i64 0), 1, 8) := by kernel_rfl
theorem one_intC (z : Int) : ∀ u ∈ (#[Value.int .i64 z]).toList, u.oneCell' = true := by
 intro u hu
 simp only [List.mem_singleton] at hu
 subst hu
 rfl
def mVal (l : List Int) (k : Nat) : Int := match l[k]? with | some z => if inR z 0 999 then z else 0 | none => 0
set_option maxHeartbeats 4000000 in
theorem impl_Val (l : List Int) (A : Option Addr) (n c lo hi k : Nat) (w : World) (hn : n ≤ 1048576) (hk : k ≤ 1048576) (hr : Rd w lo hi 1 A n (i64s l)) :
  Calls Try.prog 115 #[.slice A n c, .int .i64 ((k : Int) + 1)] w (fun e w' => e = .returned (.int .i64 (mVal l k)) ∧ w = w') := by
 have hL : l.length = n := by simpa using hr.1
 have e1 : (k : Int) + 1 - 1 = (k : Int) := by omega
 by_cases hlt : k < n
 ·
  obtain ⟨b, off, z, rfl, _, _, hz, hc⟩ := rd_int hr hlt
  have HM := Lib.hid (show mVal l k = if inR z 0 999 then z else 0 by simp [mVal, hz])
  have HL := Lib.hid hL
  have HZ := Lib.hid hz
  have C1 := fun W => impl_in ((k : Int) + 1) 1 n W
  simp only [show inR ((k : Int) + 1) 1 n = true by simp [inR]; omega] at C1
  replace C1 := Lib.hid C1
  have C2 := fun W => impl_in z 0 999 W
  clear hr hz hL
  generalize inR z 0 999 = r at HM C2
  replace C2 := Lib.hid C2
  cases r
  ·
   go_enter Try.func115, Try.ntmps115
   go_wp2_with fail
   refine Calls.mono (C1.out _) ?_
   rintro e w1 ⟨rfl, rfl⟩
   go_wp2_with fail
   refine Calls.mono (C2.out _) ?_
   rintro e w1 ⟨rfl, rfl⟩
   go_wp2_with fail
   go_ret
   exact ⟨by rw [HM.out]; rfl, rfl⟩
  ·
   go_enter Try.func115, Try.ntmps115
   go_wp2_with fail
   refine Calls.mono (C1.out _) ?_
   rintro e w1 ⟨rfl, rfl⟩
   go_wp2_with fail
   refine Calls.mono (C2.out _) ?_
   rintro e w1 ⟨rfl, rfl⟩
   go_wp2_with fail
   go_ret
   exact ⟨by rw [HM.out]; rfl, rfl⟩
 ·
  have HM := Lib.hid (show mVal l k = 0 by simp [mVal, List.getElem?_eq_none (by omega : l.length ≤ k)])
  have C1 := fun W => impl_in ((k : Int) + 1) 1 n W
  simp only [show inR ((k : Int) + 1) 1 n = false by simp [inR]; omega] at C1
  replace C1 := Lib.hid C1
  clear hr hL
  go_enter Try.func115, Try.ntmps115
  go_wp2_with fail
  refine Calls.mono (C1.out _) ?_
  rintro e w1 ⟨rfl, rfl⟩
  go_wp2_with fail
  go_ret
  exact ⟨by rw [HM.out]; rfl, rfl⟩
end Go.Proofs.Ytcankpiidjhhpaa
