/- Seal, what is needed of it. -/
import Derived.Test.YtkedacmpmancbaaGreatDoorVRgn
import Derived.Test.YtkedacmpmancbaaGreatDoorVTz
import Derived.Test.YtkedacmpmancbaaGreatDoorVValid
import Derived.Test.YtkedacmpmancbaaGreatDoorVKHash
import Derived.Test.YtkedacmpmancbaaGreatDoorVReg
import Derived.Test.YtkedacmpmancbaaGreatDoorVCell
import Derived.Deep.RegionHeld3
namespace Go.Proofs.YtkedacmpmancbaaGreatDoor
open Go Go.ChangeShapes Go.WideShapes Go.ChangeAt Go.RowKit Go.Lib
set_option linter.unusedVariables false
set_option linter.unusedSimpArgs false
set_option maxRecDepth 100000
theorem impl_sealer_no (k : Int) (w : World) (hT : Pow10 w) (wf : (Lit.int .i64 k).wf = true) (h : mValid k = false) : Calls Tryz.prog 205 #[.int .i64 k] w (Says (.func (.func 219) #[] #[]) w) := by
 have C0 := impl_IsValidKey k (w.alloc (.cells #[.int .i64 k] 3)) (pow10_below hT ((Below.refl _ _).alloc (Nat.le_refl _) _)) wf
 rw [h] at C0
 replace C0 := Lib.hid C0
 clear hT wf h
 go_enter Tryz.func205, Tryz.ntmps205
 go_wp2_with fail
 refine Calls.mono C0.out ?_
 rintro e w1 ⟨rfl, hb1⟩
 have HB1 := Lib.hid (below_trans ((Below.refl _ _).alloc (Nat.le_refl _) _) hb1 (by simp))
 clear hb1
 go_wp2_with fail
 go_ret
 exact ⟨rfl, HB1.out⟩
theorem impl_sealer_yes (k : Int) (w : World) (hT : Pow10 w) (wf : (Lit.int .i64 k).wf = true) (h : mValid k = true) : Calls Tryz.prog 205 #[.int .i64 k] w
  fun e w' => ∃ B : Nat, e = .returned (.func (.func 220) #[] #[.pointer (some ⟨B, 0, none⟩)]) ∧ BoxAt w' B 3 #[.int .i64 k] ∧ Below w.heap.size w w' := by
 have hmf : ∀ (fn : Fn) (first cap : Array Value) (w : World), (Instr.makeFunc fn first cap).run Tryz.prog w = .ok (.func fn first cap) w := fun _ _ _ _ => rfl
 have C0 := impl_IsValidKey k (w.alloc (.cells #[.int .i64 k] 3)) (pow10_below hT ((Below.refl _ _).alloc (Nat.le_refl _) _)) wf
 rw [h] at C0
 replace C0 := Lib.hid C0
 clear hT wf h
 go_enter Tryz.func205, Tryz.ntmps205
 go_wp2_with fail
 refine Calls.mono C0.out ?_
 rintro e w1 ⟨rfl, hb1⟩
 have HB1 := Lib.hid (below_trans ((Below.refl _ _).alloc (Nat.le_refl _) _) hb1 (by simp))
 have HK := Lib.hid ((box_new w 3 #[.int .i64 k]).new hb1)
 clear hb1
 go_wp2_with fail
 go_ret
 exact ⟨w.heap.size, rfl, HK.out, HB1.out⟩
theorem impl_sealer1 (A : Option Addr) (n c : Nat) (w : World) : Calls Tryz.prog 219 #[.slice A n c] w (Says (.int .i64 0) w) := by
 go_enter Tryz.func219, Tryz.ntmps219
 go_wp2
 go_ret
 exact ⟨rfl, Below.refl _ _⟩
theorem impl_sealer2 (k : Int) (l : List Int) (A : Option Addr) (n c lo hi B : Nat) (w : World) (hK : BoxAt w B 3 #[.int .i64 k]) (wk : (Lit.int .i64 k).wf = true) (hn : n ≤ 1099511627000) (hr : Rd w lo hi 1 A n (i64s l)) (hb : Hid (I64s l)) :
  Calls Tryz.prog 220 #[.slice A n c, .pointer (some ⟨B, 0, none⟩)] w (Says (.int .i64 (mKHash k l)) w) := by
 have C0 := Lib.hid (impl_KeyedHash' k l A n c lo hi w wk hn hr hb)
 have c0 : w.cell? ⟨B, 0, none⟩ = some (.int .i64 k) := hK.at_ rfl
 clear hr wk hK
 go_enter Tryz.func220, Tryz.ntmps220
 go_wp2_with fail
 refine Calls.mono C0.out ?_
 rintro e w1 ⟨rfl, hb1⟩
 have HB1 := Lib.hid hb1
 clear hb1
 go_wp2_with fail
 go_ret
 exact ⟨rfl, HB1.out⟩
end Go.Proofs.YtkedacmpmancbaaGreatDoor
