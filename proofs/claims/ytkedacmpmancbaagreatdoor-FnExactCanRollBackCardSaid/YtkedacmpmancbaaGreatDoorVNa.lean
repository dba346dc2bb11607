/- CV, Label, Mask, Own2, LabS, Join, MapB, LabOf, TSent, McM, NfM, what is needed of it. -/
import Derived.Test.YtkedacmpmancbaaGreatDoorVIn
import Derived.Test.YtkedacmpmancbaaGreatDoorVSlI
import Derived.Test.YtkedacmpmancbaaGreatDoorVApp
import Derived.Handy
import Derived.Deep.LoopGhost
import Derived.Test.YtkedacmpmancbaaGreatDoorVRgn
import Derived.Test.YtkedacmpmancbaaGreatDoorVRws
import Derived.Test.YtkedacmpmancbaaGreatDoorVReg
import Derived.Deep.RegionHeld3
import Derived.Test.YtkedacmpmancbaaGreatDoorVFun
import Derived.Test.YtkedacmpmancbaaGreatDoorVCore
import Derived.Maps.Own
import Derived.Maps.OwnOps
import Derived.Maps.OwnSet
import Derived.Maps.Views
import Derived.WalkArith
import Derived.StillTailTactics
import Derived.Test.YtkedacmpmancbaaGreatDoorVAreOps2
import Derived.Test.YtkedacmpmancbaaGreatDoorVTFlow
namespace Go.Proofs.YtkedacmpmancbaaGreatDoor
open Go Go.ChangeShapes Go.WideShapes Go.ChangeAt Go.RowKit Go.Lib
set_option linter.unusedVariables false
set_option linter.unusedSimpArgs false
set_option maxRecDepth 100000
theorem info_intC : (Tryz.prog.info? 3).map (fun i => (i.zero, i.size, i.bytes)) = some (some (.int .i64 0), 1, 8) := by kernel_rfl
theorem one_intC (z : Int) : ∀ u ∈ (#[Value.int .i64 z]).toList, u.oneCell' = true := by
 intro u hu
 simp only [List.mem_singleton] at hu
 subst hu
 rfl
def mVal (l : List Int) (k : Nat) : Int := match l[k]? with | some z => if inR z 0 999 then z else 0 | none => 0
set_option maxHeartbeats 4000000 in
theorem spec_Val (l : List Int) (A : Option Addr) (n c lo hi k : Nat) (w : World) (hn : n ≤ 1048576) (hk : k ≤ 1048576) (hr : Rd w lo hi 1 A n (i64s l)) :
  Calls Tryz.prog 196 #[.slice A n c, .int .i64 ((k : Int) + 1)] w (fun e w' => e = .returned (.int .i64 (mVal l k)) ∧ w = w') := by
 have hL : l.length = n := by simpa using hr.1
 have e1 : (k : Int) + 1 - 1 = (k : Int) := by omega
 by_cases hlt : k < n
 ·
  obtain ⟨b, off, z, rfl, _, _, hz, hc⟩ := rd_int hr hlt
  have HM := Lib.hid (show mVal l k = if inR z 0 999 then z else 0 by simp [mVal, hz])
  have HL := Lib.hid hL
  have HZ := Lib.hid hz
  have g1 : ¬ ((n : Int) < (k : Int) + 1) := by omega
  have C2 := fun W => spec_in z 0 999 W
  clear hr hz hL
  generalize inR z 0 999 = r at HM C2
  replace C2 := Lib.hid C2
  cases r
  ·
   go_enter Tryz.func196, Tryz.ntmps196
   go_wp2_with fail
   refine Calls.mono (C2.out _) ?_
   rintro e w1 ⟨rfl, rfl⟩
   go_wp2_with fail
   go_ret
   exact ⟨by rw [HM.out]; rfl, rfl⟩
  ·
   go_enter Tryz.func196, Tryz.ntmps196
   go_wp2_with fail
   refine Calls.mono (C2.out _) ?_
   rintro e w1 ⟨rfl, rfl⟩
   go_wp2_with fail
   go_ret
   exact ⟨by rw [HM.out]; rfl, rfl⟩
 ·
  have HM := Lib.hid (show mVal l k = 0 by simp [mVal, List.getElem?_eq_none (by omega : l.length ≤ k)])
  have g1 : (n : Int) < (k : Int) + 1 := by omega
  clear hr hL
  go_enter Tryz.func196, Tryz.ntmps196
  go_wp2_with fail
  go_ret
  exact ⟨by rw [HM.out]; rfl, rfl⟩
set_option maxHeartbeats 4000000 in
theorem impl_Val (l : List Int) (A : Option Addr) (n c lo hi k : Nat) (w : World) (hn : n ≤ 1048576) (hk : k ≤ 1048576) (hr : Rd w lo hi 1 A n (i64s l)) :
  Calls Tryz.prog 247 #[.slice A n c, .int .i64 ((k : Int) + 1)] w (fun e w' => e = .returned (.int .i64 (mVal l k)) ∧ w = w') := by
 have hL : l.length = n := by simpa using hr.1
 have e1 : (k : Int) + 1 - 1 = (k : Int) := by omega
 by_cases hlt : k < n
 ·
  obtain ⟨b, off, z, rfl, _, _, hz, hc⟩ := rd_int hr hlt
  have HM := Lib.hid (show mVal l k = if inR z 0 999 then z else 0 by simp [mVal, hz])
  have HL := Lib.hid hL
  have HZ := Lib.hid hz
  have C1 := fun W => impl_in ((k : Int) + 1) 1 n W
  simp only [show inR ((k : Int) + 1) 1 n = true by simp [inR]; omega] at C1
  replace C1 := Lib.hid C1
  have C2 := fun W => impl_in z 0 999 W
  clear hr hz hL
  generalize inR z 0 999 = r at HM C2
  replace C2 := Lib.hid C2
  cases r
  ·
   go_enter Tryz.func247, Tryz.ntmps247
   go_wp2_with fail
   refine Calls.mono (C1.out _) ?_
   rintro e w1 ⟨rfl, rfl⟩
   go_wp2_with fail
   refine Calls.mono (C2.out _) ?_
   rintro e w1 ⟨rfl, rfl⟩
   go_wp2_with fail
   go_ret
   exact ⟨by rw [HM.out]; rfl, rfl⟩
  ·
   go_enter Tryz.func247, Tryz.ntmps247
   go_wp2_with fail
   refine Calls.mono (C1.out _) ?_
   rintro e w1 ⟨rfl, rfl⟩
   go_wp2_with fail
   refine Calls.mono (C2.out _) ?_
   rintro e w1 ⟨rfl, rfl⟩
   go_wp2_with fail
   go_ret
   exact ⟨by rw [HM.out]; rfl, rfl⟩
 ·
  have HM := Lib.hid (show mVal l k = 0 by simp [mVal, List.getElem?_eq_none (by omega : l.length ≤ k)])
  have C1 := fun W => impl_in ((k : Int) + 1) 1 n W
  simp only [show inR ((k : Int) + 1) 1 n = false by simp [inR]; omega] at C1
  replace C1 := Lib.hid C1
  clear hr hL
  go_enter Tryz.func247, Tryz.ntmps247
  go_wp2_with fail
  refine Calls.mono (C1.out _) ?_
  rintro e w1 ⟨rfl, rfl⟩
  go_wp2_with fail
  go_ret
  exact ⟨by rw [HM.out]; rfl, rfl⟩
end Go.Proofs.YtkedacmpmancbaaGreatDoor
namespace Go.Proofs.YtkedacmpmancbaaGreatDoor
open Go Go.ChangeShapes Go.WideShapes Go.ChangeAt Go.RowKit Go.Lib
set_option linter.unusedVariables false
set_option linter.unusedSimpArgs false
set_option maxRecDepth 100000
def mIsLabel (x : Int) : Bool := inR x 0 1022 && (x % 2 == 0)
theorem and1 {z : Int} (h0 : 0 ≤ z) (h1 : z ≤ 1022) : bits .and .i64 z 1 = z % 2 := by
 obtain ⟨m, rfl⟩ := Int.eq_ofNat_of_zero_le h0
 have hm : m < 1023 := by omega
 have h : ∀ k : Fin 1023, bits .and .i64 ((k.1 : Nat) : Int) 1 = ((k.1 : Nat) : Int) % 2 := by decide +kernel
 exact h ⟨m, hm⟩

set_option maxHeartbeats 8000000 in
theorem spec_IsLabel (a0 : Int) (w : World) :
  Calls Tryz.prog 199 #[.int .i64 a0] w (Says (.bool (mIsLabel a0)) w) := by
 by_cases h0 : (inR a0 0 1022) = true
 ·
  have hb := inR_true.1 h0
  have ht : Int.tmod a0 2 = a0 % 2 := Int.tmod_eq_emod_of_nonneg hb.1
  by_cases h1 : (a0 % 2 == 0) = true
  ·
   have HE := Lib.hid (show mIsLabel a0 = true by simp [mIsLabel, h0, h1])
   have h2 : (Int.tmod a0 2 == 0) = true := by rw [ht]; exact h1
   clear hb ht h1
   go_enter Tryz.func199, Tryz.ntmps199
   go_wp2_with (first | (go_at_call 69; refine (spec_in _ _ _ _).mono ?_; rintro e w1 ⟨rfl, rfl⟩))
   go_ret
   exact ⟨by rw [HE.out]; rfl, Below.refl _ _⟩
  ·
   have h1 : (a0 % 2 == 0) = false := by simpa using h1
   have HE := Lib.hid (show mIsLabel a0 = false by simp [mIsLabel, h0, h1])
   have h2 : (Int.tmod a0 2 == 0) = false := by rw [ht]; exact h1
   clear hb ht h1
   go_enter Tryz.func199, Tryz.ntmps199
   go_wp2_with (first | (go_at_call 69; refine (spec_in _ _ _ _).mono ?_; rintro e w1 ⟨rfl, rfl⟩))
   go_ret
   exact ⟨by rw [HE.out]; rfl, Below.refl _ _⟩
 ·
  have h0 : (inR a0 0 1022) = false := by simpa using h0
  have HE := Lib.hid (show mIsLabel a0 = false by simp [mIsLabel, h0])
  go_enter Tryz.func199, Tryz.ntmps199
  go_wp2_with (first | (go_at_call 69; refine (spec_in _ _ _ _).mono ?_; rintro e w1 ⟨rfl, rfl⟩))
  go_ret
  exact ⟨by rw [HE.out]; rfl, Below.refl _ _⟩

set_option maxHeartbeats 8000000 in
theorem impl_IsLabel (a0 : Int) (w : World) :
  Calls Tryz.prog 246 #[.int .i64 a0] w (Says (.bool (mIsLabel a0)) w) := by
 by_cases h2 : (bits .and .i64 a0 1 == 0) = true
 ·
  by_cases h0 : (inR a0 0 1022) = true
  ·
   have hb := inR_true.1 h0
   have HE := Lib.hid (show mIsLabel a0 = true by rw [and1 hb.1 hb.2] at h2; unfold mIsLabel; rw [h0, h2]; rfl)
   clear hb
   go_enter Tryz.func246, Tryz.ntmps246
   go_wp2_with (first | (go_at_call 86; refine (impl_in _ _ _ _).mono ?_; rintro e w1 ⟨rfl, rfl⟩))
   go_ret
   exact ⟨by rw [HE.out]; rfl, Below.refl _ _⟩
  ·
   have h0 : (inR a0 0 1022) = false := by simpa using h0
   have HE := Lib.hid (show mIsLabel a0 = false by simp [mIsLabel, h0])
   go_enter Tryz.func246, Tryz.ntmps246
   go_wp2_with (first | (go_at_call 86; refine (impl_in _ _ _ _).mono ?_; rintro e w1 ⟨rfl, rfl⟩))
   go_ret
   exact ⟨by rw [HE.out]; rfl, Below.refl _ _⟩
 ·
  have h2 : (bits .and .i64 a0 1 == 0) = false := by simpa using h2
  have HE := Lib.hid (show mIsLabel a0 = false by
   cases h0 : inR a0 0 1022 with
   | false => simp [mIsLabel, h0]
   | true =>
    have hb := inR_true.1 h0
    rw [and1 hb.1 hb.2] at h2
    unfold mIsLabel; rw [h0, h2]; rfl)
  go_enter Tryz.func246, Tryz.ntmps246
  go_wp2_with (first | (go_at_call 86; refine (impl_in _ _ _ _).mono ?_; rintro e w1 ⟨rfl, rfl⟩))
  go_ret
  exact ⟨by rw [HE.out]; rfl, Below.refl _ _⟩
end Go.Proofs.YtkedacmpmancbaaGreatDoor
namespace Go.Proofs.YtkedacmpmancbaaGreatDoor
open Go Go.ChangeShapes Go.WideShapes Go.ChangeAt Go.RowKit Go.Lib
set_option linter.unusedVariables false
set_option linter.unusedSimpArgs false
set_option maxRecDepth 100000
def mHas (b : Int) (k : Nat) : Bool := b / ((2 ^ k : Nat) : Int) % 2 == 1
theorem box_cellM {w : World} {g j : Nat} {t : TypeId} {cs : Array Value} {u : Value} (h : BoxAt w g t cs) : BoxAt (w.setCell ⟨g, j, none⟩ u) g t (cs.setIfInBounds j u) := by
 unfold BoxAt at *
 simp [World.setCell, Array.getElem?_modify, h]
theorem bit1 {z : Int} (h0 : 0 ≤ z) (h1 : z ≤ 1022) : (bits .and .i64 z 2 != 0) = mHas z 1 := by
 obtain ⟨m, rfl⟩ := Int.eq_ofNat_of_zero_le h0
 have hm : m < 1023 := by omega
 have h : ∀ k : Fin 1023, (bits .and .i64 ((k.1 : Nat) : Int) 2 != 0) = mHas ((k.1 : Nat) : Int) 1 := by decide +kernel
 exact h ⟨m, hm⟩

theorem bit2 {z : Int} (h0 : 0 ≤ z) (h1 : z ≤ 1022) : (bits .and .i64 z 4 != 0) = mHas z 2 := by
 obtain ⟨m, rfl⟩ := Int.eq_ofNat_of_zero_le h0
 have hm : m < 1023 := by omega
 have h : ∀ k : Fin 1023, (bits .and .i64 ((k.1 : Nat) : Int) 4 != 0) = mHas ((k.1 : Nat) : Int) 2 := by decide +kernel
 exact h ⟨m, hm⟩

theorem bit3 {z : Int} (h0 : 0 ≤ z) (h1 : z ≤ 1022) : (bits .and .i64 z 8 != 0) = mHas z 3 := by
 obtain ⟨m, rfl⟩ := Int.eq_ofNat_of_zero_le h0
 have hm : m < 1023 := by omega
 have h : ∀ k : Fin 1023, (bits .and .i64 ((k.1 : Nat) : Int) 8 != 0) = mHas ((k.1 : Nat) : Int) 3 := by decide +kernel
 exact h ⟨m, hm⟩

theorem bit4 {z : Int} (h0 : 0 ≤ z) (h1 : z ≤ 1022) : (bits .and .i64 z 16 != 0) = mHas z 4 := by
 obtain ⟨m, rfl⟩ := Int.eq_ofNat_of_zero_le h0
 have hm : m < 1023 := by omega
 have h : ∀ k : Fin 1023, (bits .and .i64 ((k.1 : Nat) : Int) 16 != 0) = mHas ((k.1 : Nat) : Int) 4 := by decide +kernel
 exact h ⟨m, hm⟩

theorem bit5 {z : Int} (h0 : 0 ≤ z) (h1 : z ≤ 1022) : (bits .and .i64 z 32 != 0) = mHas z 5 := by
 obtain ⟨m, rfl⟩ := Int.eq_ofNat_of_zero_le h0
 have hm : m < 1023 := by omega
 have h : ∀ k : Fin 1023, (bits .and .i64 ((k.1 : Nat) : Int) 32 != 0) = mHas ((k.1 : Nat) : Int) 5 := by decide +kernel
 exact h ⟨m, hm⟩

theorem bit6 {z : Int} (h0 : 0 ≤ z) (h1 : z ≤ 1022) : (bits .and .i64 z 64 != 0) = mHas z 6 := by
 obtain ⟨m, rfl⟩ := Int.eq_ofNat_of_zero_le h0
 have hm : m < 1023 := by omega
 have h : ∀ k : Fin 1023, (bits .and .i64 ((k.1 : Nat) : Int) 64 != 0) = mHas ((k.1 : Nat) : Int) 6 := by decide +kernel
 exact h ⟨m, hm⟩

theorem bit7 {z : Int} (h0 : 0 ≤ z) (h1 : z ≤ 1022) : (bits .and .i64 z 128 != 0) = mHas z 7 := by
 obtain ⟨m, rfl⟩ := Int.eq_ofNat_of_zero_le h0
 have hm : m < 1023 := by omega
 have h : ∀ k : Fin 1023, (bits .and .i64 ((k.1 : Nat) : Int) 128 != 0) = mHas ((k.1 : Nat) : Int) 7 := by decide +kernel
 exact h ⟨m, hm⟩

theorem bit8 {z : Int} (h0 : 0 ≤ z) (h1 : z ≤ 1022) : (bits .and .i64 z 256 != 0) = mHas z 8 := by
 obtain ⟨m, rfl⟩ := Int.eq_ofNat_of_zero_le h0
 have hm : m < 1023 := by omega
 have h : ∀ k : Fin 1023, (bits .and .i64 ((k.1 : Nat) : Int) 256 != 0) = mHas ((k.1 : Nat) : Int) 8 := by decide +kernel
 exact h ⟨m, hm⟩

theorem bit9 {z : Int} (h0 : 0 ≤ z) (h1 : z ≤ 1022) : (bits .and .i64 z 512 != 0) = mHas z 9 := by
 obtain ⟨m, rfl⟩ := Int.eq_ofNat_of_zero_le h0
 have hm : m < 1023 := by omega
 have h : ∀ k : Fin 1023, (bits .and .i64 ((k.1 : Nat) : Int) 512 != 0) = mHas ((k.1 : Nat) : Int) 9 := by decide +kernel
 exact h ⟨m, hm⟩

set_option maxHeartbeats 4000000 in
theorem impl_has1 (b : Int) (v : Bool) (w : World) (h0 : 0 ≤ b) (h1 : b ≤ 1022) :
  Calls Tryz.prog 228 #[.agg #[.int .i64 b, .bool v], .int .i64 1] w (Says (.bool (mHas b 1)) w) := by
 have CI := Lib.hid (fun W => Calls.mono (impl_in 1 1 9 W) (R' := Says (.bool true) W) (by rintro e w1 ⟨rfl, rfl⟩; exact ⟨rfl, Below.refl _ _⟩))
 rw [← bit1 h0 h1]
 clear h0 h1
 go_enter Tryz.func228, Tryz.ntmps228
 go_wp2_with fail
 refine wp_region_held_drew (S := fun w' => BoxAt w' w.heap.size 256 #[.int .i64 b, .bool v] ∧ Below w.heap.size w w') (by kernel_rfl) ?_ (fun hHeld => ?_)
 ·
  exact ⟨(box_new w 256 #[.int .i64 b, .bool v]).drw, ((Below.refl _ _).alloc (Nat.le_refl _) _).drew⟩
 refine tz 0 5 hHeld ?_; try simp only [ptl]
 refine rd1 (i := 1) (o := ⟨some 6, _, _, _, _, _⟩) rfl (fun K hK => ?_)
 go_simp
 refine Calls.mono (CI.out _) ?_
 rintro e x1 ⟨rfl, hb1⟩
 refine hK.out _ _ ⟨hHeld.1.new hb1, below_trans hHeld.2 hb1 (Nat.le_refl _)⟩ (fun hHeld' => ?_)
 clear hK K hHeld hb1; have hHeld := hHeld'; clear hHeld'
 try simp only [ptl]
 refine tz 2 7 hHeld ?_; try simp only [ptl]
 refine tz 3 8 hHeld ?_; try simp only [ptl]
 refine tl 4 9 hHeld rfl ?_ (by intro W hS; obtain ⟨c0_0, c0_1⟩ := (hS.1).p2; clear hS; go_simp; try with_reducible rfl); try simp only [ptl]
 refine tz 5 10 hHeld ?_; try simp only [ptl]
 refine tz 6 11 hHeld ?_; try simp only [ptl]
 refine tz 7 12 hHeld ?_; try simp only [ptl]
 refine tz 8 13 hHeld ?_; try simp only [ptl]
 refine tz 9 14 hHeld ?_; try simp only [ptl]
 refine tz 10 4 hHeld ?_; try simp only [ptl]
 refine wpAnyH_done (by kernel_rfl) ?_ _
 go_wp2_with fail
 go_ret
 exact ⟨rfl, hHeld.2⟩

set_option maxHeartbeats 4000000 in
theorem impl_has2 (b : Int) (v : Bool) (w : World) (h0 : 0 ≤ b) (h1 : b ≤ 1022) :
  Calls Tryz.prog 228 #[.agg #[.int .i64 b, .bool v], .int .i64 2] w (Says (.bool (mHas b 2)) w) := by
 have CI := Lib.hid (fun W => Calls.mono (impl_in 2 1 9 W) (R' := Says (.bool true) W) (by rintro e w1 ⟨rfl, rfl⟩; exact ⟨rfl, Below.refl _ _⟩))
 rw [← bit2 h0 h1]
 clear h0 h1
 go_enter Tryz.func228, Tryz.ntmps228
 go_wp2_with fail
 refine wp_region_held_drew (S := fun w' => BoxAt w' w.heap.size 256 #[.int .i64 b, .bool v] ∧ Below w.heap.size w w') (by kernel_rfl) ?_ (fun hHeld => ?_)
 ·
  exact ⟨(box_new w 256 #[.int .i64 b, .bool v]).drw, ((Below.refl _ _).alloc (Nat.le_refl _) _).drew⟩
 refine tz 0 5 hHeld ?_; try simp only [ptl]
 refine rd1 (i := 1) (o := ⟨some 6, _, _, _, _, _⟩) rfl (fun K hK => ?_)
 go_simp
 refine Calls.mono (CI.out _) ?_
 rintro e x1 ⟨rfl, hb1⟩
 refine hK.out _ _ ⟨hHeld.1.new hb1, below_trans hHeld.2 hb1 (Nat.le_refl _)⟩ (fun hHeld' => ?_)
 clear hK K hHeld hb1; have hHeld := hHeld'; clear hHeld'
 try simp only [ptl]
 refine tz 2 7 hHeld ?_; try simp only [ptl]
 refine tz 3 8 hHeld ?_; try simp only [ptl]
 refine tl 4 9 hHeld rfl ?_ (by intro W hS; obtain ⟨c0_0, c0_1⟩ := (hS.1).p2; clear hS; go_simp; try with_reducible rfl); try simp only [ptl]
 refine tz 5 10 hHeld ?_; try simp only [ptl]
 refine tz 6 11 hHeld ?_; try simp only [ptl]
 refine tz 7 12 hHeld ?_; try simp only [ptl]
 refine tz 8 13 hHeld ?_; try simp only [ptl]
 refine tz 9 14 hHeld ?_; try simp only [ptl]
 refine tz 10 4 hHeld ?_; try simp only [ptl]
 refine wpAnyH_done (by kernel_rfl) ?_ _
 go_wp2_with fail
 go_ret
 exact ⟨rfl, hHeld.2⟩

set_option maxHeartbeats 4000000 in
theorem impl_has3 (b : Int) (v : Bool) (w : World) (h0 : 0 ≤ b) (h1 : b ≤ 1022) :
  Calls Tryz.prog 228 #[.agg #[.int .i64 b, .bool v], .int .i64 3] w (Says (.bool (mHas b 3)) w) := by
 have CI := Lib.hid (fun W => Calls.mono (impl_in 3 1 9 W) (R' := Says (.bool true) W) (by rintro e w1 ⟨rfl, rfl⟩; exact ⟨rfl, Below.refl _ _⟩))
 rw [← bit3 h0 h1]
 clear h0 h1
 go_enter Tryz.func228, Tryz.ntmps228
 go_wp2_with fail
 refine wp_region_held_drew (S := fun w' => BoxAt w' w.heap.size 256 #[.int .i64 b, .bool v] ∧ Below w.heap.size w w') (by kernel_rfl) ?_ (fun hHeld => ?_)
 ·
  exact ⟨(box_new w 256 #[.int .i64 b, .bool v]).drw, ((Below.refl _ _).alloc (Nat.le_refl _) _).drew⟩
 refine tz 0 5 hHeld ?_; try simp only [ptl]
 refine rd1 (i := 1) (o := ⟨some 6, _, _, _, _, _⟩) rfl (fun K hK => ?_)
 go_simp
 refine Calls.mono (CI.out _) ?_
 rintro e x1 ⟨rfl, hb1⟩
 refine hK.out _ _ ⟨hHeld.1.new hb1, below_trans hHeld.2 hb1 (Nat.le_refl _)⟩ (fun hHeld' => ?_)
 clear hK K hHeld hb1; have hHeld := hHeld'; clear hHeld'
 try simp only [ptl]
 refine tz 2 7 hHeld ?_; try simp only [ptl]
 refine tz 3 8 hHeld ?_; try simp only [ptl]
 refine tl 4 9 hHeld rfl ?_ (by intro W hS; obtain ⟨c0_0, c0_1⟩ := (hS.1).p2; clear hS; go_simp; try with_reducible rfl); try simp only [ptl]
 refine tz 5 10 hHeld ?_; try simp only [ptl]
 refine tz 6 11 hHeld ?_; try simp only [ptl]
 refine tz 7 12 hHeld ?_; try simp only [ptl]
 refine tz 8 13 hHeld ?_; try simp only [ptl]
 refine tz 9 14 hHeld ?_; try simp only [ptl]
 refine tz 10 4 hHeld ?_; try simp only [ptl]
 refine wpAnyH_done (by kernel_rfl) ?_ _
 go_wp2_with fail
 go_ret
 exact ⟨rfl, hHeld.2⟩

set_option maxHeartbeats 4000000 in
theorem impl_has4 (b : Int) (v : Bool) (w : World) (h0 : 0 ≤ b) (h1 : b ≤ 1022) :
  Calls Tryz.prog 228 #[.agg #[.int .i64 b, .bool v], .int .i64 4] w (Says (.bool (mHas b 4)) w) := by
 have CI := Lib.hid (fun W => Calls.mono (impl_in 4 1 9 W) (R' := Says (.bool true) W) (by rintro e w1 ⟨rfl, rfl⟩; exact ⟨rfl, Below.refl _ _⟩))
 rw [← bit4 h0 h1]
 clear h0 h1
 go_enter Tryz.func228, Tryz.ntmps228
 go_wp2_with fail
 refine wp_region_held_drew (S := fun w' => BoxAt w' w.heap.size 256 #[.int .i64 b, .bool v] ∧ Below w.heap.size w w') (by kernel_rfl) ?_ (fun hHeld => ?_)
 ·
  exact ⟨(box_new w 256 #[.int .i64 b, .bool v]).drw, ((Below.refl _ _).alloc (Nat.le_refl _) _).drew⟩
 refine tz 0 5 hHeld ?_; try simp only [ptl]
 refine rd1 (i := 1) (o := ⟨some 6, _, _, _, _, _⟩) rfl (fun K hK => ?_)
 go_simp
 refine Calls.mono (CI.out _) ?_
 rintro e x1 ⟨rfl, hb1⟩
 refine hK.out _ _ ⟨hHeld.1.new hb1, below_trans hHeld.2 hb1 (Nat.le_refl _)⟩ (fun hHeld' => ?_)
 clear hK K hHeld hb1; have hHeld := hHeld'; clear hHeld'
 try simp only [ptl]
 refine tz 2 7 hHeld ?_; try simp only [ptl]
 refine tz 3 8 hHeld ?_; try simp only [ptl]
 refine tl 4 9 hHeld rfl ?_ (by intro W hS; obtain ⟨c0_0, c0_1⟩ := (hS.1).p2; clear hS; go_simp; try with_reducible rfl); try simp only [ptl]
 refine tz 5 10 hHeld ?_; try simp only [ptl]
 refine tz 6 11 hHeld ?_; try simp only [ptl]
 refine tz 7 12 hHeld ?_; try simp only [ptl]
 refine tz 8 13 hHeld ?_; try simp only [ptl]
 refine tz 9 14 hHeld ?_; try simp only [ptl]
 refine tz 10 4 hHeld ?_; try simp only [ptl]
 refine wpAnyH_done (by kernel_rfl) ?_ _
 go_wp2_with fail
 go_ret
 exact ⟨rfl, hHeld.2⟩

set_option maxHeartbeats 4000000 in
theorem impl_has5 (b : Int) (v : Bool) (w : World) (h0 : 0 ≤ b) (h1 : b ≤ 1022) :
  Calls Tryz.prog 228 #[.agg #[.int .i64 b, .bool v], .int .i64 5] w (Says (.bool (mHas b 5)) w) := by
 have CI := Lib.hid (fun W => Calls.mono (impl_in 5 1 9 W) (R' := Says (.bool true) W) (by rintro e w1 ⟨rfl, rfl⟩; exact ⟨rfl, Below.refl _ _⟩))
 rw [← bit5 h0 h1]
 clear h0 h1
 go_enter Tryz.func228, Tryz.ntmps228
 go_wp2_with fail
 refine wp_region_held_drew (S := fun w' => BoxAt w' w.heap.size 256 #[.int .i64 b, .bool v] ∧ Below w.heap.size w w') (by kernel_rfl) ?_ (fun hHeld => ?_)
 ·
  exact ⟨(box_new w 256 #[.int .i64 b, .bool v]).drw, ((Below.refl _ _).alloc (Nat.le_refl _) _).drew⟩
 refine tz 0 5 hHeld ?_; try simp only [ptl]
 refine rd1 (i := 1) (o := ⟨some 6, _, _, _, _, _⟩) rfl (fun K hK => ?_)
 go_simp
 refine Calls.mono (CI.out _) ?_
 rintro e x1 ⟨rfl, hb1⟩
 refine hK.out _ _ ⟨hHeld.1.new hb1, below_trans hHeld.2 hb1 (Nat.le_refl _)⟩ (fun hHeld' => ?_)
 clear hK K hHeld hb1; have hHeld := hHeld'; clear hHeld'
 try simp only [ptl]
 refine tz 2 7 hHeld ?_; try simp only [ptl]
 refine tz 3 8 hHeld ?_; try simp only [ptl]
 refine tl 4 9 hHeld rfl ?_ (by intro W hS; obtain ⟨c0_0, c0_1⟩ := (hS.1).p2; clear hS; go_simp; try with_reducible rfl); try simp only [ptl]
 refine tz 5 10 hHeld ?_; try simp only [ptl]
 refine tz 6 11 hHeld ?_; try simp only [ptl]
 refine tz 7 12 hHeld ?_; try simp only [ptl]
 refine tz 8 13 hHeld ?_; try simp only [ptl]
 refine tz 9 14 hHeld ?_; try simp only [ptl]
 refine tz 10 4 hHeld ?_; try simp only [ptl]
 refine wpAnyH_done (by kernel_rfl) ?_ _
 go_wp2_with fail
 go_ret
 exact ⟨rfl, hHeld.2⟩

set_option maxHeartbeats 4000000 in
theorem impl_has6 (b : Int) (v : Bool) (w : World) (h0 : 0 ≤ b) (h1 : b ≤ 1022) :
  Calls Tryz.prog 228 #[.agg #[.int .i64 b, .bool v], .int .i64 6] w (Says (.bool (mHas b 6)) w) := by
 have CI := Lib.hid (fun W => Calls.mono (impl_in 6 1 9 W) (R' := Says (.bool true) W) (by rintro e w1 ⟨rfl, rfl⟩; exact ⟨rfl, Below.refl _ _⟩))
 rw [← bit6 h0 h1]
 clear h0 h1
 go_enter Tryz.func228, Tryz.ntmps228
 go_wp2_with fail
 refine wp_region_held_drew (S := fun w' => BoxAt w' w.heap.size 256 #[.int .i64 b, .bool v] ∧ Below w.heap.size w w') (by kernel_rfl) ?_ (fun hHeld => ?_)
 ·
  exact ⟨(box_new w 256 #[.int .i64 b, .bool v]).drw, ((Below.refl _ _).alloc (Nat.le_refl _) _).drew⟩
 refine tz 0 5 hHeld ?_; try simp only [ptl]
 refine rd1 (i := 1) (o := ⟨some 6, _, _, _, _, _⟩) rfl (fun K hK => ?_)
 go_simp
 refine Calls.mono (CI.out _) ?_
 rintro e x1 ⟨rfl, hb1⟩
 refine hK.out _ _ ⟨hHeld.1.new hb1, below_trans hHeld.2 hb1 (Nat.le_refl _)⟩ (fun hHeld' => ?_)
 clear hK K hHeld hb1; have hHeld := hHeld'; clear hHeld'
 try simp only [ptl]
 refine tz 2 7 hHeld ?_; try simp only [ptl]
 refine tz 3 8 hHeld ?_; try simp only [ptl]
 refine tl 4 9 hHeld rfl ?_ (by intro W hS; obtain ⟨c0_0, c0_1⟩ := (hS.1).p2; clear hS; go_simp; try with_reducible rfl); try simp only [ptl]
 refine tz 5 10 hHeld ?_; try simp only [ptl]
 refine tz 6 11 hHeld ?_; try simp only [ptl]
 refine tz 7 12 hHeld ?_; try simp only [ptl]
 refine tz 8 13 hHeld ?_; try simp only [ptl]
 refine tz 9 14 hHeld ?_; try simp only [ptl]
 refine tz 10 4 hHeld ?_; try simp only [ptl]
 refine wpAnyH_done (by kernel_rfl) ?_ _
 go_wp2_with fail
 go_ret
 exact ⟨rfl, hHeld.2⟩

set_option maxHeartbeats 4000000 in
theorem impl_has7 (b : Int) (v : Bool) (w : World) (h0 : 0 ≤ b) (h1 : b ≤ 1022) :
  Calls Tryz.prog 228 #[.agg #[.int .i64 b, .bool v], .int .i64 7] w (Says (.bool (mHas b 7)) w) := by
 have CI := Lib.hid (fun W => Calls.mono (impl_in 7 1 9 W) (R' := Says (.bool true) W) (by rintro e w1 ⟨rfl, rfl⟩; exact ⟨rfl, Below.refl _ _⟩))
 rw [← bit7 h0 h1]
 clear h0 h1
 go_enter Tryz.func228, Tryz.ntmps228
 go_wp2_with fail
 refine wp_region_held_drew (S := fun w' => BoxAt w' w.heap.size 256 #[.int .i64 b, .bool v] ∧ Below w.heap.size w w') (by kernel_rfl) ?_ (fun hHeld => ?_)
 ·
  exact ⟨(box_new w 256 #[.int .i64 b, .bool v]).drw, ((Below.refl _ _).alloc (Nat.le_refl _) _).drew⟩
 refine tz 0 5 hHeld ?_; try simp only [ptl]
 refine rd1 (i := 1) (o := ⟨some 6, _, _, _, _, _⟩) rfl (fun K hK => ?_)
 go_simp
 refine Calls.mono (CI.out _) ?_
 rintro e x1 ⟨rfl, hb1⟩
 refine hK.out _ _ ⟨hHeld.1.new hb1, below_trans hHeld.2 hb1 (Nat.le_refl _)⟩ (fun hHeld' => ?_)
 clear hK K hHeld hb1; have hHeld := hHeld'; clear hHeld'
 try simp only [ptl]
 refine tz 2 7 hHeld ?_; try simp only [ptl]
 refine tz 3 8 hHeld ?_; try simp only [ptl]
 refine tl 4 9 hHeld rfl ?_ (by intro W hS; obtain ⟨c0_0, c0_1⟩ := (hS.1).p2; clear hS; go_simp; try with_reducible rfl); try simp only [ptl]
 refine tz 5 10 hHeld ?_; try simp only [ptl]
 refine tz 6 11 hHeld ?_; try simp only [ptl]
 refine tz 7 12 hHeld ?_; try simp only [ptl]
 refine tz 8 13 hHeld ?_; try simp only [ptl]
 refine tz 9 14 hHeld ?_; try simp only [ptl]
 refine tz 10 4 hHeld ?_; try simp only [ptl]
 refine wpAnyH_done (by kernel_rfl) ?_ _
 go_wp2_with fail
 go_ret
 exact ⟨rfl, hHeld.2⟩

set_option maxHeartbeats 4000000 in
theorem impl_has8 (b : Int) (v : Bool) (w : World) (h0 : 0 ≤ b) (h1 : b ≤ 1022) :
  Calls Tryz.prog 228 #[.agg #[.int .i64 b, .bool v], .int .i64 8] w (Says (.bool (mHas b 8)) w) := by
 have CI := Lib.hid (fun W => Calls.mono (impl_in 8 1 9 W) (R' := Says (.bool true) W) (by rintro e w1 ⟨rfl, rfl⟩; exact ⟨rfl, Below.refl _ _⟩))
 rw [← bit8 h0 h1]
 clear h0 h1
 go_enter Tryz.func228, Tryz.ntmps228
 go_wp2_with fail
 refine wp_region_held_drew (S := fun w' => BoxAt w' w.heap.size 256 #[.int .i64 b, .bool v] ∧ Below w.heap.size w w') (by kernel_rfl) ?_ (fun hHeld => ?_)
 ·
  exact ⟨(box_new w 256 #[.int .i64 b, .bool v]).drw, ((Below.refl _ _).alloc (Nat.le_refl _) _).drew⟩
 refine tz 0 5 hHeld ?_; try simp only [ptl]
 refine rd1 (i := 1) (o := ⟨some 6, _, _, _, _, _⟩) rfl (fun K hK => ?_)
 go_simp
 refine Calls.mono (CI.out _) ?_
 rintro e x1 ⟨rfl, hb1⟩
 refine hK.out _ _ ⟨hHeld.1.new hb1, below_trans hHeld.2 hb1 (Nat.le_refl _)⟩ (fun hHeld' => ?_)
 clear hK K hHeld hb1; have hHeld := hHeld'; clear hHeld'
 try simp only [ptl]
 refine tz 2 7 hHeld ?_; try simp only [ptl]
 refine tz 3 8 hHeld ?_; try simp only [ptl]
 refine tl 4 9 hHeld rfl ?_ (by intro W hS; obtain ⟨c0_0, c0_1⟩ := (hS.1).p2; clear hS; go_simp; try with_reducible rfl); try simp only [ptl]
 refine tz 5 10 hHeld ?_; try simp only [ptl]
 refine tz 6 11 hHeld ?_; try simp only [ptl]
 refine tz 7 12 hHeld ?_; try simp only [ptl]
 refine tz 8 13 hHeld ?_; try simp only [ptl]
 refine tz 9 14 hHeld ?_; try simp only [ptl]
 refine tz 10 4 hHeld ?_; try simp only [ptl]
 refine wpAnyH_done (by kernel_rfl) ?_ _
 go_wp2_with fail
 go_ret
 exact ⟨rfl, hHeld.2⟩

set_option maxHeartbeats 4000000 in
theorem impl_has9 (b : Int) (v : Bool) (w : World) (h0 : 0 ≤ b) (h1 : b ≤ 1022) :
  Calls Tryz.prog 228 #[.agg #[.int .i64 b, .bool v], .int .i64 9] w (Says (.bool (mHas b 9)) w) := by
 have CI := Lib.hid (fun W => Calls.mono (impl_in 9 1 9 W) (R' := Says (.bool true) W) (by rintro e w1 ⟨rfl, rfl⟩; exact ⟨rfl, Below.refl _ _⟩))
 rw [← bit9 h0 h1]
 clear h0 h1
 go_enter Tryz.func228, Tryz.ntmps228
 go_wp2_with fail
 refine wp_region_held_drew (S := fun w' => BoxAt w' w.heap.size 256 #[.int .i64 b, .bool v] ∧ Below w.heap.size w w') (by kernel_rfl) ?_ (fun hHeld => ?_)
 ·
  exact ⟨(box_new w 256 #[.int .i64 b, .bool v]).drw, ((Below.refl _ _).alloc (Nat.le_refl _) _).drew⟩
 refine tz 0 5 hHeld ?_; try simp only [ptl]
 refine rd1 (i := 1) (o := ⟨some 6, _, _, _, _, _⟩) rfl (fun K hK => ?_)
 go_simp
 refine Calls.mono (CI.out _) ?_
 rintro e x1 ⟨rfl, hb1⟩
 refine hK.out _ _ ⟨hHeld.1.new hb1, below_trans hHeld.2 hb1 (Nat.le_refl _)⟩ (fun hHeld' => ?_)
 clear hK K hHeld hb1; have hHeld := hHeld'; clear hHeld'
 try simp only [ptl]
 refine tz 2 7 hHeld ?_; try simp only [ptl]
 refine tz 3 8 hHeld ?_; try simp only [ptl]
 refine tl 4 9 hHeld rfl ?_ (by intro W hS; obtain ⟨c0_0, c0_1⟩ := (hS.1).p2; clear hS; go_simp; try with_reducible rfl); try simp only [ptl]
 refine tz 5 10 hHeld ?_; try simp only [ptl]
 refine tz 6 11 hHeld ?_; try simp only [ptl]
 refine tz 7 12 hHeld ?_; try simp only [ptl]
 refine tz 8 13 hHeld ?_; try simp only [ptl]
 refine tz 9 14 hHeld ?_; try simp only [ptl]
 refine tz 10 4 hHeld ?_; try simp only [ptl]
 refine wpAnyH_done (by kernel_rfl) ?_ _
 go_wp2_with fail
 go_ret
 exact ⟨rfl, hHeld.2⟩

theorem impl_has (b : Int) (v : Bool) (w : World) (k : Nat) (hk : 1 ≤ k) (hk9 : k ≤ 9) (h0 : 0 ≤ b) (h1 : b ≤ 1022) :
  Calls Tryz.prog 228 #[.agg #[.int .i64 b, .bool v], .int .i64 (k : Int)] w (Says (.bool (mHas b k)) w) := by
 obtain rfl | rfl | rfl | rfl | rfl | rfl | rfl | rfl | rfl : k = 1 ∨ k = 2 ∨ k = 3 ∨ k = 4 ∨ k = 5 ∨ k = 6 ∨ k = 7 ∨ k = 8 ∨ k = 9 := by omega
 ·
  exact impl_has1 b v w h0 h1
 ·
  exact impl_has2 b v w h0 h1
 ·
  exact impl_has3 b v w h0 h1
 ·
  exact impl_has4 b v w h0 h1
 ·
  exact impl_has5 b v w h0 h1
 ·
  exact impl_has6 b v w h0 h1
 ·
  exact impl_has7 b v w h0 h1
 ·
  exact impl_has8 b v w h0 h1
 ·
  exact impl_has9 b v w h0 h1

set_option maxHeartbeats 4000000 in
theorem impl_maskOf (x : Int) (w : World) : Calls Tryz.prog 227 #[.int .i64 x] w (Says (.agg #[.int .i64 (if mIsLabel x then x else 0), .bool (mIsLabel x)]) w) := by
 have C0 := fun W => impl_IsLabel x W
 generalize mIsLabel x = r at C0 ⊢
 replace C0 := Lib.hid C0
 cases r
 ·
  go_enter Tryz.func227, Tryz.ntmps227
  go_wp2_with fail
  refine Calls.mono (C0.out _) ?_
  rintro e w1 ⟨rfl, hb1⟩
  have HX : BoxAt w1 w.heap.size 256 #[.int .i64 0, .bool false] := ((box_new w 256 #[.int .i64 0, .bool false]).new hb1)
  have hlt := HX.lt
  have c0 : w1.cell? ⟨w.heap.size, 0, none⟩ = some (.int .i64 0) := HX.at_ (j := 0) rfl
  have c1 : w1.cell? ⟨w.heap.size, 1, none⟩ = some (.bool false) := HX.at_ (j := 1) rfl
  have f0 := HX.free 0
  have f1 := HX.free 1
  have HB1 := Lib.hid (below_trans ((Below.refl _ _).alloc (Nat.le_refl _) _) hb1 (by simp))
  replace HX := Lib.hid HX
  clear hb1
  go_wp2_with fail
  have k0 := (box_cellM (u := .bool false) (j := 1) (box_cellM (u := .int .i64 0) (j := 0) HX.out)).at_ (j := 0) rfl
  have k1 := (box_cellM (u := .bool false) (j := 1) (box_cellM (u := .int .i64 0) (j := 0) HX.out)).at_ (j := 1) rfl
  exact bodyPost_ret (v := .agg #[.int .i64 0, .bool false]) (by simp [results, Tryz.results227, go_sem, k0, k1]) rfl ⟨rfl, (HB1.out.setCell (Nat.le_refl _) _).setCell (Nat.le_refl _) _⟩
 ·
  go_enter Tryz.func227, Tryz.ntmps227
  go_wp2_with fail
  refine Calls.mono (C0.out _) ?_
  rintro e w1 ⟨rfl, hb1⟩
  have HX : BoxAt w1 w.heap.size 256 #[.int .i64 0, .bool false] := ((box_new w 256 #[.int .i64 0, .bool false]).new hb1)
  have hlt := HX.lt
  have c0 : w1.cell? ⟨w.heap.size, 0, none⟩ = some (.int .i64 0) := HX.at_ (j := 0) rfl
  have c1 : w1.cell? ⟨w.heap.size, 1, none⟩ = some (.bool false) := HX.at_ (j := 1) rfl
  have f0 := HX.free 0
  have f1 := HX.free 1
  have HB1 := Lib.hid (below_trans ((Below.refl _ _).alloc (Nat.le_refl _) _) hb1 (by simp))
  replace HX := Lib.hid HX
  clear hb1
  go_wp2_with fail
  have k0 := (box_cellM (u := .bool true) (j := 1) (box_cellM (u := .int .i64 x) (j := 0) HX.out)).at_ (j := 0) rfl
  have k1 := (box_cellM (u := .bool true) (j := 1) (box_cellM (u := .int .i64 x) (j := 0) HX.out)).at_ (j := 1) rfl
  exact bodyPost_ret (v := .agg #[.int .i64 x, .bool true]) (by simp [results, Tryz.results227, go_sem, k0, k1]) rfl ⟨rfl, (HB1.out.setCell (Nat.le_refl _) _).setCell (Nat.le_refl _) _⟩

set_option maxHeartbeats 4000000 in
theorem spec_bit (k : Nat) (w : World) (hk : k ≤ 9) : Calls Tryz.prog 200 #[.int .i64 (k : Int)] w (fun e w' => e = .returned (.int .i64 ((2 ^ k : Nat) : Int)) ∧ w = w') := by
 go_enter Tryz.func200, Tryz.ntmps200
 go_wp2_with fail
 go_loopg [3, 4] k (fun gg m i wr => ∃ (j z : Nat), j ≤ k ∧ k - j ≤ gg ∧ i = .int .i64 j ∧ m = .int .i64 z ∧ Hid (2 ^ j = z) ∧ w = wr)
 case atStart => exact ⟨0, 1, Nat.zero_le _, by omega, rfl, rfl, Lib.hid rfl, rfl⟩
 case round =>
  obtain ⟨j, z, hj, hg, rfl, rfl, HZ, rfl⟩ := hrel
  by_cases hlt : j < k
  ·
   have hz : z ≤ 512 := by
    rw [← HZ.out]
    exact Nat.pow_le_pow_right (by decide) (by omega : j ≤ 9)
   go_wp2_with fail
   go_roundg (k - (j + 1))
   case measure => omega
   case rel => exact ⟨j + 1, 2 * z, by omega, by omega, by go_num, by go_num, Lib.hid (by rw [← HZ.out, Nat.pow_succ, Nat.mul_comm]), rfl⟩
  ·
   obtain rfl : j = k := by omega
   go_wp2_with fail
   go_ret
   exact ⟨by rw [HZ.out]; rfl, rfl⟩
end Go.Proofs.YtkedacmpmancbaaGreatDoor
namespace Go.Proofs.YtkedacmpmancbaaGreatDoor
open Go Go.ChangeShapes Go.WideShapes Go.ChangeAt Go.RowKit Go.Lib
set_option linter.unusedVariables false
set_option linter.unusedSimpArgs false
set_option maxRecDepth 100000
def PredM {α : Type} (P : Program) (g : Nat) (mv : Value) (enc : α → Value) (p : α → Bool) (l : List α) (w : World) : Prop :=
 ∀ (W : World) (x : α), x ∈ l → Below w.heap.size w W → Calls P g #[mv, enc x] W (Says (.bool (p x)) W)
def rangeI (a : Int) (n : Nat) : List Int := (List.range n).map fun k : Nat => a + (k : Int)
theorem rangeI_len (a : Int) (n : Nat) : (rangeI a n).length = n := by simp [rangeI]
theorem rangeI_get (a : Int) {n k : Nat} (h : k < n) : (rangeI a n)[k]? = some (a + (k : Int)) := by simp [rangeI, h]
theorem rangeI_mem {a x : Int} {n : Nat} (h : x ∈ rangeI a n) : ∃ k : Nat, k < n ∧ x = a + (k : Int) := by
 simp [rangeI] at h
 obtain ⟨k, hk, rfl⟩ := h
 exact ⟨k, hk, rfl⟩
theorem info_intN : (Tryz.prog.info? 3).map (fun i => (i.zero, i.size, i.bytes)) = some (some (.int .i64 0), 1, 8) := by kernel_rfl
theorem one_intN (z : Int) : ∀ u ∈ (#[Value.int .i64 z]).toList, u.oneCell' = true := by
 intro u hu
 simp only [List.mem_singleton] at hu
 subst hu
 rfl
theorem filt_snoc {α : Type} {p : α → Bool} {l : List α} {k : Nat} {x : α} (h : l[k]? = some x) : (l.take (k + 1)).filter p = if p x = true then (l.take k).filter p ++ [x] else (l.take k).filter p := by
 rw [List.take_add_one, h, Option.toList_some, List.filter_append]
 by_cases hp : p x = true <;> simp [hp]
set_option maxHeartbeats 8000000 in
theorem numbers_Own (p : Int → Bool) (mv : Value) (low : Int) (cnt : Nat) (w : World) (hl0 : 0 ≤ low) (hl1 : low ≤ 1000) (hc : cnt ≤ 1048576) (hp : PredM Tryz.prog 228 mv (fun x : Int => .int .i64 x) p (rangeI low cnt) w) :
  Calls Tryz.prog 226 #[.int .i64 low, .int .i64 (low + cnt - 1), .func (.func 228) #[mv] #[]] w (Makes 3 1 ((rangeI low cnt).filter p).length (i64s ((rangeI low cnt).filter p)) w) := by
 have HP := Lib.hid hp
 clear hp
 have HRL := Lib.hid (rangeI_len low cnt)
 have HRG := Lib.hid (fun (k : Nat) (h : k < cnt) => rangeI_get low h)
 generalize rangeI low cnt = L at HP HRL HRG ⊢
 go_enter Tryz.func226, Tryz.ntmps226
 go_wp2_with fail
 go_loopw [7, 8] (fun v i wr => ∃ k : Nat, k ≤ cnt ∧ i = .int .i64 (low + (k : Int)) ∧ wr.ownsRow w.heap.size 3 1 v ((L.take k).filter p).length (i64s ((L.take k).filter p)) ∧ Below w.heap.size w wr) (fun _ i _ => (low + cnt - intOf i).toNat)
 case atStart => exact ⟨0, Nat.zero_le _, by (congr 1; simp), World.ownsRow_lit w #[] 0 (Nat.le_refl _) (by unfold maxLen; omega) rfl, (Below.refl _ _).alloc (Nat.le_refl _) _⟩
 case round =>
  obtain ⟨k, hk, rfl, hown, hb⟩ := hrel
  have HB := Lib.hid hb
  have HO := Lib.hid hown
  have HS := Lib.hid hb.size
  clear hown hb
  by_cases hlt : k < cnt
  ·
   have HE := Lib.hid (filt_snoc (p := p) (HRG.out k hlt))
   have HN := Lib.hid (Nat.le_trans (List.length_filter_le p (L.take k)) (List.length_take_le _ _))
   have HC := HP.out wr (low + (k : Int)) (mem_of_get (HRG.out k hlt)) HB.out
   have hle : low + (k : Int) ≤ low + (cnt : Int) - 1 := by omega
   have HQ := HE
   cases hq : p (low + (k : Int))
   ·
    rw [hq] at HC
    replace HC := Lib.hid HC
    have H2 := Lib.hid (by have := HE.out; rwa [if_neg (by rw [hq]; decide)] at this)
    clear hq HE HQ
    go_wp2_with (go_at_call 228; refine Calls.mono HC.out ?_; rintro e w1 ⟨rfl, hb1⟩; (have HB1 := Lib.hid (below_trans HB.out hb1 (Nat.le_refl _))); (have HO1 := Lib.hid (own_newer HO.out hb1)); clear hb1)
    go_roundw
    case rel => exact ⟨k + 1, by omega, by (congr 1; omega), by rw [H2.out]; exact HO1.out, HB1.out⟩
    case measure => simp [intOf]; omega
   ·
    rw [hq] at HC
    replace HC := Lib.hid HC
    have H2 := Lib.hid (by have := HE.out; rwa [if_pos hq] at this)
    clear hq HE HQ
    go_wp2_with (first | (go_at_call 228; refine Calls.mono HC.out ?_; rintro e w1 ⟨rfl, hb1⟩; (have HB1 := Lib.hid (below_trans HB.out hb1 (Nat.le_refl _))); (have HO1 := Lib.hid (own_newer HO.out hb1)); (have HS1 := Lib.hid HB1.out.size); clear hb1) | (at_builtin; refine wp_app_lit rfl _ _ _ rfl w.heap.size 3 (.int .i64 0) 1 8 Tryz.underlying116 info_intN rfl (by decide) _ _ _ rfl HO1.out #[.int .i64 (low + (k : Int))] 1 1 _ rfl (by simp) rfl (one_intN _) (by have := HN.out; unfold maxLen; omega) (by have := HN.out; omega) (by have := HS1.out; omega) ?_; intro v1 w2 ho1 hb1))
    have HO2 := Lib.hid (show w2.ownsRow w.heap.size 3 1 v1 ((L.take (k + 1)).filter p).length (i64s ((L.take (k + 1)).filter p)) by
     rw [H2.out]
     simpa using ho1)
    have HB2 := Lib.hid (HB1.out.trans hb1)
    clear ho1 hb1
    go_wp2_with fail
    go_roundw
    case rel => exact ⟨k + 1, by omega, by (congr 1; omega), HO2.out, HB2.out⟩
    case measure => simp [intOf]; omega
  ·
   obtain rfl : k = cnt := by omega
   have hle : low + (k : Int) - 1 < low + (k : Int) := by omega
   have HO2 := HO.out
   rw [List.take_of_length_le (by rw [HRL.out]; omega)] at HO2
   replace HO2 := Lib.hid HO2
   go_wp2_with fail
   go_ret
   exact makes_of_own HO2.out HB.out
def mOwn (x : Int) : List Int := (rangeI 1 9).filter fun o => mIsLabel x && mHas x o.toNat
theorem mOwn_len (x : Int) : (mOwn x).length ≤ 9 := Nat.le_trans (List.length_filter_le _ _) (Nat.le_of_eq (rangeI_len _ _))
theorem mOwn_mask (x : Int) : (rangeI 1 9).filter (fun o => mHas (if mIsLabel x then x else 0) o.toNat) = mOwn x := by
 unfold mOwn
 cases mIsLabel x
 ·
  simp [mHas]
 ·
  simp
set_option maxHeartbeats 8000000 in
theorem implOwn (x : Int) (w : World) : Calls Tryz.prog 211 #[.int .i64 x] w (Makes 3 1 (mOwn x).length (i64s (mOwn x)) w) := by
 have hmf : ∀ (fn : Fn) (first cap : Array Value) (w : World), (Instr.makeFunc fn first cap).run Tryz.prog w = .ok (.func fn first cap) w := fun _ _ _ _ => rfl
 have C0 := Lib.hid (fun W => impl_maskOf x W)
 have hb : 0 ≤ (if mIsLabel x then x else 0) ∧ (if mIsLabel x then x else 0) ≤ 1022 := by
  cases h : mIsLabel x
  ·
   simp
  ·
   simp only [mIsLabel, Bool.and_eq_true] at h
   have := inR_true.1 h.1
   simp; omega
 have hm := mOwn_mask x
 generalize (if mIsLabel x then x else 0) = b at C0 hb hm
 generalize mIsLabel x = v at C0
 generalize mOwn x = L at hm ⊢
 have HC := Lib.hid (fun W => numbers_Own (fun o => mHas b o.toNat) (.agg #[.int .i64 b, .bool v]) 1 9 W (by decide) (by decide) (by decide) (fun W' z hz _ => by
  obtain ⟨k, hk, rfl⟩ := rangeI_mem hz
  have e : (1 + (k : Int)) = ((k + 1 : Nat) : Int) := by omega
  rw [e]
  exact impl_has b v W' (k + 1) (by omega) (by omega) hb.1 hb.2))
 rw [hm] at HC
 clear hm hb
 have HC2 := Lib.hid (fun W => show Calls Tryz.prog 226 #[.int .i64 1, .int .i64 9, .func (.func 228) #[.agg #[.int .i64 b, .bool v]] #[]] W (Makes 3 1 L.length (i64s L) W) from HC.out W)
 clear HC
 go_enter Tryz.func211, Tryz.ntmps211
 go_wp2_with fail
 refine Calls.mono (C0.out _) ?_
 rintro e w1 ⟨rfl, hb1⟩
 replace hb1 := Lib.hid hb1
 go_wp2_with fail
 refine Calls.mono (HC2.out _) ?_
 rintro e w2 ⟨A', c', rfl, hf, hb2⟩
 have HB2 := Lib.hid (below_trans hb1.out hb2 (Nat.le_refl _))
 have HS := hb1.out.size
 clear hb2
 go_wp2_with fail
 go_ret
 exact ⟨A', c', rfl, ⟨hf.1, fun h => ⟨own_base (hf.2 h).1 HS, (hf.2 h).2⟩⟩, HB2.out⟩
theorem impl_OwnersIn (x : Int) (w : World) (wf : (Lit.int .i64 x).wf = true) : Calls Tryz.prog 211 #[.int .i64 x] w (Makes 3 1 (mOwn x).length (i64s (mOwn x)) w) := implOwn x w
theorem hasq {x z : Int} (h0 : 0 ≤ x) (hz : 0 < z) : Int.tdiv x z = x / z ∧ Int.tmod (x / z) 2 = x / z % 2 := by
 refine ⟨Int.tdiv_eq_ediv_of_nonneg h0, Int.tmod_eq_emod_of_nonneg (Int.ediv_nonneg h0 (by omega))⟩
set_option maxHeartbeats 8000000 in
theorem specOwnO (x : Int) (w : World) : Calls Tryz.prog 175 #[.int .i64 x] w (MakesO 3 1 (mOwn x).length (i64s (mOwn x)) w) := by
 have C0 := fun W => spec_IsLabel x W
 have hr : mIsLabel x = true → 0 ≤ x ∧ x ≤ 1022 := by
  intro h
  simp only [mIsLabel, Bool.and_eq_true] at h
  exact inR_true.1 h.1
 have hm : mOwn x = (rangeI 1 9).filter fun o => mIsLabel x && mHas x o.toNat := rfl
 rw [hm]
 clear hm
 have HRL := Lib.hid (rangeI_len 1 9)
 have HRG := Lib.hid (fun (k : Nat) (h : k < 9) => rangeI_get 1 h)
 generalize rangeI 1 9 = L at HRL HRG ⊢
 generalize mIsLabel x = r at C0 hr ⊢
 replace C0 := Lib.hid C0
 cases r
 ·
  rw [show (L.filter fun o => false && mHas x o.toNat) = [] by simp]
  clear hr HRL HRG
  go_enter Tryz.func175, Tryz.ntmps175
  go_wp2_with fail
  go_loopg [3, 4] 0 (fun gg v i wr => i = .int .i64 1 ∧ wr.ownsRow w.heap.size 3 1 v 0 [] ∧ Hid (Below w.heap.size w wr))
  case atStart => exact ⟨rfl, World.ownsRow_lit w #[] 0 (Nat.le_refl _) (by unfold maxLen; omega) rfl, Lib.hid ((Below.refl _ _).alloc (Nat.le_refl _) _)⟩
  case round =>
   obtain ⟨rfl, hown, HB⟩ := hrel
   have HO := Lib.hid hown
   clear hown
   go_wp2_with fail
   refine Calls.mono (C0.out _) ?_
   rintro e w1 ⟨rfl, hb1⟩
   have HB1 := Lib.hid (below_trans HB.out hb1 (Nat.le_refl _))
   have HO1 := Lib.hid (own_newer HO.out hb1)
   clear hb1
   go_wp2_with fail
   go_ret
   exact ⟨_, rfl, HO1.out, HB1.out⟩
 ·
  have hx := hr rfl
  clear hr
  generalize hp : (fun o : Int => true && mHas x o.toNat) = p
  have HP := Lib.hid (show ∀ k : Nat, p (1 + (k : Int)) = mHas x (k + 1) by
   rw [← hp]
   intro k
   simp [show (1 + (k : Int)).toNat = k + 1 by omega])
  clear hp
  go_enter Tryz.func175, Tryz.ntmps175
  go_wp2_with fail
  go_loopg [3, 4] 9 (fun gg v i wr => ∃ k : Nat, k ≤ 9 ∧ 9 - k ≤ gg ∧ i = .int .i64 ((k : Int) + 1) ∧ wr.ownsRow w.heap.size 3 1 v ((L.take k).filter p).length (i64s ((L.take k).filter p)) ∧ Hid (Below w.heap.size w wr))
  case atStart => exact ⟨0, Nat.zero_le _, by omega, rfl, World.ownsRow_lit w #[] 0 (Nat.le_refl _) (by unfold maxLen; omega) rfl, Lib.hid ((Below.refl _ _).alloc (Nat.le_refl _) _)⟩
  case round =>
   obtain ⟨k, hk, hg, rfl, hown, HB⟩ := hrel
   have HO := Lib.hid hown
   clear hown
   by_cases hlt : k < 9
   ·
    have hle : (k : Int) + 1 ≤ 9 := by omega
    have HN := Lib.hid (Nat.le_trans (List.length_filter_le p (L.take k)) (List.length_take_le _ _))
    have hE := filt_snoc (p := p) (HRG.out k hlt)
    rw [HP.out k] at hE
    have CB := fun W => spec_bit (k + 1) W (by omega)
    simp only [show ((k + 1 : Nat) : Int) = (k : Int) + 1 by omega] at CB
    unfold mHas at hE
    have hz0 : 0 < ((2 ^ (k + 1) : Nat) : Int) := by exact_mod_cast Nat.two_pow_pos (k + 1)
    generalize ((2 ^ (k + 1) : Nat) : Int) = z at CB hE hz0
    obtain ⟨q1, q2⟩ := hasq hx.1 hz0
    have b1 : 0 ≤ x / z := Int.ediv_nonneg hx.1 (by omega)
    have b2 : x / z ≤ x := Int.ediv_le_self _ hx.1
    have hne : z ≠ 0 := by omega
    have g0 : (z == 0) = false := by simp; omega
    generalize hq : x / z = q at q1 q2 hE b1 b2
    have hw : IntKind.i64.wrap q = q := IntWalk.i64_in _ (by omega)
    replace CB := Lib.hid CB
    clear hq
    cases hb : (q % 2 == 1)
    ·
     have g2 : (Int.tmod q 2 == 1) = false := by rw [q2]; exact hb
     have HF := Lib.hid (hE.trans (if_neg (by rw [hb]; decide)))
     clear hE q2
     go_wp2_with fail
     refine Calls.mono (C0.out _) ?_
     rintro e w1 ⟨rfl, hb1⟩
     have HB1 := Lib.hid (below_trans HB.out hb1 (Nat.le_refl _))
     have HO1 := Lib.hid (own_newer HO.out hb1)
     clear hb1
     go_wp2_with fail
     refine Calls.mono (CB.out _) ?_
     rintro e w2 ⟨rfl, rfl⟩
     go_wp2_with fail
     go_roundg (9 - (k + 1))
     case measure => omega
     case rel => exact ⟨k + 1, by omega, by omega, by go_num, by rw [HF.out]; exact HO1.out, HB1⟩
    ·
     have g2 : (Int.tmod q 2 == 1) = true := by rw [q2]; exact hb
     have HF := Lib.hid (hE.trans (if_pos hb))
     clear hE q2
     go_wp2_with fail
     refine Calls.mono (C0.out _) ?_
     rintro e w1 ⟨rfl, hb1⟩
     have HB1 := Lib.hid (below_trans HB.out hb1 (Nat.le_refl _))
     have HO1 := Lib.hid (own_newer HO.out hb1)
     have HS1 := Lib.hid HB1.out.size
     clear hb1
     go_wp2_with fail
     refine Calls.mono (CB.out _) ?_
     rintro e w2 ⟨rfl, rfl⟩
     go_wp2_with (at_builtin; refine wp_app_lit rfl _ _ _ rfl w.heap.size 3 (.int .i64 0) 1 8 Tryz.underlying116 info_intN rfl (by decide) _ _ _ rfl HO1.out #[.int .i64 ((k : Int) + 1)] 1 1 _ rfl (by simp) rfl (one_intN _) (by have := HN.out; unfold maxLen; omega) (by have := HN.out; omega) (by have := HS1.out; omega) ?_; intro v1 w2 ho1 hb1)
     have HO2 := Lib.hid (show w2.ownsRow w.heap.size 3 1 v1 ((L.take (k + 1)).filter p).length (i64s ((L.take (k + 1)).filter p)) by
      rw [HF.out, show (1 : Int) + (k : Int) = (k : Int) + 1 by omega]
      simpa using ho1)
     have HB2 := Lib.hid (HB1.out.trans hb1)
     clear ho1 hb1
     go_wp2_with fail
     go_roundg (9 - (k + 1))
     case measure => omega
     case rel => exact ⟨k + 1, by omega, by omega, by go_num, HO2.out, HB2⟩
   ·
    obtain rfl : k = 9 := by omega
    have HO2 := HO.out
    rw [List.take_of_length_le (by rw [HRL.out]; omega)] at HO2
    replace HO2 := Lib.hid HO2
    go_wp2_with fail
    go_ret
    exact ⟨_, rfl, HO2.out, HB.out⟩
theorem specOwn (x : Int) (w : World) : Calls Tryz.prog 175 #[.int .i64 x] w (Makes 3 1 (mOwn x).length (i64s (mOwn x)) w) := (specOwnO x w).mono (by
 rintro e w1 ⟨v, rfl, ho, hb⟩
 exact makes_of_own ho hb)
theorem spec_OwnersIn (x : Int) (w : World) (wf : (Lit.int .i64 x).wf = true) : Calls Tryz.prog 175 #[.int .i64 x] w (Makes 3 1 (mOwn x).length (i64s (mOwn x)) w) := specOwn x w
end Go.Proofs.YtkedacmpmancbaaGreatDoor
namespace Go.Proofs.YtkedacmpmancbaaGreatDoor
open Go Go.ChangeShapes Go.WideShapes Go.ChangeAt Go.RowKit Go.Lib
set_option linter.unusedVariables false
set_option linter.unusedSimpArgs false
set_option maxRecDepth 100000
def mLabS (l : List Int) : Nat → Nat
 | 0 => 0
 | k + 1 => mLabS l k + if ((k : Int) + 1) ∈ l then 2 ^ (k + 1) else 0
theorem mLabS_le (l : List Int) (k : Nat) : mLabS l k + 2 ≤ 2 ^ (k + 1) := by
 induction k with
 | zero => simp [mLabS]
 | succ k ih =>
  have e : 2 ^ (k + 1 + 1) = 2 ^ (k + 1) + 2 ^ (k + 1) := by rw [Nat.pow_succ, Nat.mul_two]
  simp only [mLabS]
  split <;> omega
set_option maxHeartbeats 4000000 in
theorem spec_l7Has (l : List Int) (A : Option Addr) (n c lo hi : Nat) (z : Int) (w : World) (hn : n ≤ 1048576) (hr : Rd w lo hi 1 A n (i64s l)) :
  Calls Tryz.prog 214 #[.slice A n c, .int .i64 z] w (fun e w' => e = .returned (.bool (decide (z ∈ l))) ∧ w = w') := by
 have HR := Lib.hid hr
 have HL := Lib.hid (show l.length = n by simpa using hr.1)
 clear hr
 go_enter Tryz.func214, Tryz.ntmps214
 go_wp2_with fail
 go_loopg [5] n (fun gg i wr => ∃ k : Nat, k ≤ n ∧ n - k ≤ gg ∧ i = .int .i64 k ∧ Hid (z ∉ l.take k) ∧ w = wr)
 case atStart => exact ⟨0, Nat.zero_le _, by omega, rfl, Lib.hid (by simp), rfl⟩
 case round =>
  obtain ⟨k, hk, hg, rfl, HT, rfl⟩ := hrel
  by_cases hlt : k < n
  ·
   obtain ⟨b, off, x, rfl, _, _, hz, hc⟩ := rd_int HR.out hlt
   by_cases h1 : x = z
   ·
    have HM := Lib.hid (show decide (z ∈ l) = true by simp [← h1, mem_of_get hz])
    have g1 : (x == z) = true := by simp [h1]
    clear h1 hz
    go_wp2_with fail
    go_ret
    exact ⟨by rw [HM.out]; rfl, rfl⟩
   ·
    have HM := Lib.hid (show z ∉ l.take (k + 1) by
     rw [List.take_add_one, hz]
     simp
     exact ⟨HT.out, fun e => h1 e.symm⟩)
    have g1 : (x == z) = false := by simp [h1]
    clear h1 hz
    go_wp2_with fail
    go_roundg (n - (k + 1))
    case measure => omega
    case rel => exact ⟨k + 1, by omega, by omega, by go_num, HM, rfl⟩
  ·
   obtain rfl : k = n := by omega
   have HM := Lib.hid (show decide (z ∈ l) = false by
    have := HT.out
    rw [List.take_of_length_le (by rw [HL.out]; omega)] at this
    simpa using this)
   go_wp2_with fail
   go_ret
   exact ⟨by rw [HM.out]; rfl, rfl⟩
set_option maxHeartbeats 4000000 in
theorem spec_LabelOf (l : List Int) (A : Option Addr) (n c lo hi : Nat) (w : World) (hn : n ≤ 1048576) (hr : Rd w lo hi 1 A n (i64s l)) :
  Calls Tryz.prog 197 #[.slice A n c] w (fun e w' => e = .returned (.int .i64 ((mLabS l 9 : Nat) : Int)) ∧ w = w') := by
 have CH := Lib.hid (fun z => spec_l7Has l A n c lo hi z w hn hr)
 clear hr
 go_enter Tryz.func197, Tryz.ntmps197
 go_wp2_with fail
 go_loopg [3, 4] 9 (fun gg s i wr => ∃ (k m : Nat), k ≤ 9 ∧ 9 - k ≤ gg ∧ i = .int .i64 ((k : Int) + 1) ∧ s = .int .i64 m ∧ Hid (mLabS l k = m) ∧ w = wr)
 case atStart => exact ⟨0, 0, Nat.zero_le _, by omega, rfl, rfl, Lib.hid rfl, rfl⟩
 case round =>
  obtain ⟨k, m, hk, hg, rfl, rfl, HM, rfl⟩ := hrel
  by_cases hlt : k < 9
  ·
   have hle : (k : Int) + 1 ≤ 9 := by omega
   have CB := fun W => spec_bit (k + 1) W (by omega)
   simp only [show ((k + 1 : Nat) : Int) = (k : Int) + 1 by omega] at CB
   have hb := mLabS_le l (k + 1)
   have hs : mLabS l (k + 1) = mLabS l k + if ((k : Int) + 1) ∈ l then 2 ^ (k + 1) else 0 := rfl
   have hp : 2 ^ (k + 1 + 1) ≤ 1024 := Nat.pow_le_pow_right (by decide) (by omega : k + 1 + 1 ≤ 10)
   rw [HM.out] at hs
   have hm := mLabS_le l k
   rw [HM.out] at hm
   have hp2 : 2 ^ (k + 1) ≤ 512 := Nat.pow_le_pow_right (by decide) (by omega : k + 1 ≤ 9)
   generalize 2 ^ (k + 1) = z at CB hs hm hp2
   replace CB := Lib.hid CB
   have C0 := CH.out ((k : Int) + 1)
   by_cases h1 : ((k : Int) + 1) ∈ l
   ·
    rw [if_pos h1] at hs
    simp only [h1, decide_true] at C0
    replace C0 := Lib.hid C0
    replace hs := Lib.hid hs
    clear h1 hb hp
    go_wp2_with fail
    refine Calls.mono C0.out ?_
    rintro e w1 ⟨rfl, rfl⟩
    go_wp2_with fail
    refine Calls.mono (CB.out _) ?_
    rintro e w1 ⟨rfl, rfl⟩
    go_wp2_with fail
    go_roundg (9 - (k + 1))
    case measure => omega
    case rel => exact ⟨k + 1, m + z, by omega, by omega, by go_num, by go_num, hs, rfl⟩
   ·
    rw [if_neg h1] at hs
    simp only [h1, decide_false] at C0
    replace C0 := Lib.hid C0
    replace hs := Lib.hid hs
    clear h1 hb hp
    go_wp2_with fail
    refine Calls.mono C0.out ?_
    rintro e w1 ⟨rfl, rfl⟩
    go_wp2_with fail
    go_roundg (9 - (k + 1))
    case measure => omega
    case rel => exact ⟨k + 1, m, by omega, by omega, by go_num, rfl, Lib.hid (by simpa using hs.out), rfl⟩
  ·
   obtain rfl : k = 9 := by omega
   go_wp2_with fail
   go_ret
   exact ⟨by rw [HM.out]; rfl, rfl⟩
end Go.Proofs.YtkedacmpmancbaaGreatDoor
namespace Go.Proofs.YtkedacmpmancbaaGreatDoor
open Go Go.ChangeShapes Go.WideShapes Go.ChangeAt Go.RowKit Go.Lib
set_option linter.unusedVariables false
set_option linter.unusedSimpArgs false
set_option maxRecDepth 100000
def mSum (f : Nat → Bool) : Nat → Nat
 | 0 => 0
 | k + 1 => mSum f k + if f (k + 1) = true then 2 ^ (k + 1) else 0
theorem mLabS_sum (l : List Int) (f : Nat → Bool) (k : Nat) (hk : k ≤ 9) (h : ∀ j : Nat, j < 9 → (((j : Int) + 1) ∈ l ↔ f (j + 1) = true)) : mLabS l k = mSum f k := by
 induction k with
 | zero => rfl
 | succ k ih =>
  simp only [mLabS, mSum, ih (by omega), h k (by omega)]
theorem mSum_congr {f g : Nat → Bool} (k : Nat) (h : ∀ j, f j = g j) : mSum f k = mSum g k := by rw [funext h]
theorem mSum_self (m : Nat) (h0 : m ≤ 1022) (h1 : m % 2 = 0) : mSum (fun k => m / 2 ^ k % 2 == 1) 9 = m := by
 have h : ∀ k : Fin 1023, k.1 % 2 = 0 → mSum (fun j => k.1 / 2 ^ j % 2 == 1) 9 = k.1 := by decide +kernel
 exact h ⟨m, by omega⟩ h1
theorem mHas_nat (m k : Nat) : mHas (m : Int) k = m.testBit k := by
 rw [Nat.testBit_eq_decide_div_mod_eq]
 unfold mHas
 rw [show ((m : Int) / ((2 ^ k : Nat) : Int) % 2) = ((m / 2 ^ k % 2 : Nat) : Int) by rw [Int.natCast_emod, Int.natCast_ediv]; rfl]
 by_cases h : m / 2 ^ k % 2 = 1
 ·
  simp [h]
 ·
  have : m / 2 ^ k % 2 = 0 := by omega
  simp [this]
theorem or_nat (a b : Nat) (ha : a < 1024) (hb : b < 1024) : bits .or .i64 (a : Int) (b : Int) = ((a ||| b : Nat) : Int) := by
 have h2 : bits .or .i64 (a : Int) (b : Int) = IntKind.i64.wrap ((BitVec.ofInt 64 (a : Int) ||| BitVec.ofInt 64 (b : Int)).toNat : Int) := rfl
 have h3 : ∀ m : Nat, m < 1024 → (BitVec.ofInt 64 (m : Int)).toNat = m := fun m hm => by
  rw [BitVec.ofInt_natCast, BitVec.toNat_ofNat]; exact Nat.mod_eq_of_lt (by omega)
 have hlt : a ||| b < 2 ^ 10 := Nat.or_lt_two_pow (by simpa using ha) (by simpa using hb)
 rw [h2, BitVec.toNat_or, h3 a ha, h3 b hb]
 exact IntWalk.i64_in _ (by omega)
def mJoin (x y : Int) : Int := if mIsLabel x && mIsLabel y then bits .or .i64 x y else 0
theorem own_mem (x : Int) (hl : mIsLabel x = true) (j : Nat) (hj : j < 9) : ((j : Int) + 1) ∈ mOwn x ↔ mHas x (j + 1) = true := by
 unfold mOwn
 rw [List.mem_filter, hl, Bool.true_and, show (((j : Int) + 1)).toNat = j + 1 by omega]
 refine ⟨fun h => h.2, fun h => ⟨?_, h⟩⟩
 simp only [rangeI, List.mem_map, List.mem_range]
 exact ⟨j, hj, by omega⟩
theorem join_sum (x y : Int) (hx : mIsLabel x = true) (hy : mIsLabel y = true) : ((mLabS (mOwn x ++ mOwn y) 9 : Nat) : Int) = bits .or .i64 x y := by
 have bx := hx
 have by_ := hy
 simp only [mIsLabel, Bool.and_eq_true, beq_iff_eq] at bx by_
 have b1 := inR_true.1 bx.1
 have b2 := inR_true.1 by_.1
 rw [mLabS_sum _ (fun k => mHas x k || mHas y k) 9 (by omega) (fun j hj => by rw [List.mem_append, own_mem x hx j hj, own_mem y hy j hj, Bool.or_eq_true])]
 obtain ⟨a, rfl⟩ := Int.eq_ofNat_of_zero_le b1.1
 obtain ⟨b, rfl⟩ := Int.eq_ofNat_of_zero_le b2.1
 have ha : a < 1024 := by omega
 have hb : b < 1024 := by omega
 rw [or_nat a b ha hb]
 have hab : a ||| b < 1024 := Nat.or_lt_two_pow (n := 10) ha hb
 have hev : (a ||| b) % 2 = 0 := by
  have h0 : (a ||| b).testBit 0 = false := by
   rw [Nat.testBit_or, Nat.testBit_zero, Nat.testBit_zero]
   have : a % 2 = 0 := by omega
   have : b % 2 = 0 := by omega
   simp [*]
  rw [Nat.testBit_zero] at h0
  have : ¬ ((a ||| b) % 2 = 1) := by simpa using h0
  omega
 have hle : a ||| b ≤ 1022 := by omega
 rw [mSum_congr (g := fun k => (a ||| b) / 2 ^ k % 2 == 1) 9 (fun j => by
  rw [mHas_nat, mHas_nat, ← Nat.testBit_or, Nat.testBit_eq_decide_div_mod_eq]; rfl), mSum_self _ hle hev]
set_option maxHeartbeats 8000000 in
theorem spec_JoinLabels (x y : Int) (w : World) (wx : (Lit.int .i64 x).wf = true) (wy : (Lit.int .i64 y).wf = true) : Calls Tryz.prog 198 #[.int .i64 x, .int .i64 y] w (Says (.int .i64 (mJoin x y)) w) := by
 have C0 := fun W => spec_IsLabel x W
 have C1 := fun W => spec_IsLabel y W
 have HE := fun h0 h1 => join_sum x y h0 h1
 have O0 := fun W => specOwnO x W
 have O1 := fun W => specOwnO y W
 have N0 := mOwn_len x
 have N1 := mOwn_len y
 have HJ : mJoin x y = if mIsLabel x && mIsLabel y then bits .or .i64 x y else 0 := rfl
 generalize mOwn x = L0 at O0 N0 HE
 generalize mOwn y = L1 at O1 N1 HE
 generalize mIsLabel x = r0 at C0 HE HJ
 generalize mIsLabel y = r1 at C1 HE HJ
 replace C0 := Lib.hid C0
 replace C1 := Lib.hid C1
 replace O0 := Lib.hid O0
 replace O1 := Lib.hid O1
 cases r0
 ·
  replace HJ := Lib.hid (show mJoin x y = 0 from HJ)
  clear HE wx wy
  go_enter Tryz.func198, Tryz.ntmps198
  go_wp2_with fail
  refine Calls.mono (C0.out _) ?_
  rintro e w1 ⟨rfl, hb1⟩
  replace hb1 := Lib.hid hb1
  go_wp2_with fail
  go_ret
  exact ⟨by rw [HJ.out]; rfl, hb1.out⟩
 ·
  cases r1
  ·
   replace HJ := Lib.hid (show mJoin x y = 0 from HJ)
   clear HE wx wy
   go_enter Tryz.func198, Tryz.ntmps198
   go_wp2_with fail
   refine Calls.mono (C0.out _) ?_
   rintro e w1 ⟨rfl, hb1⟩
   replace hb1 := Lib.hid hb1
   go_wp2_with fail
   refine Calls.mono (C1.out _) ?_
   rintro e w2 ⟨rfl, hb2⟩
   have HB2 := Lib.hid (below_trans hb1.out hb2 (Nat.le_refl _))
   clear hb2
   go_wp2_with fail
   go_ret
   exact ⟨by rw [HJ.out]; rfl, HB2.out⟩
  ·
   replace HJ := Lib.hid (show mJoin x y = ((mLabS (L0 ++ L1) 9 : Nat) : Int) from HJ.trans (HE rfl rfl).symm)
   clear HE wx wy
   go_enter Tryz.func198, Tryz.ntmps198
   go_wp2_with fail
   refine Calls.mono (C0.out _) ?_
   rintro e w1 ⟨rfl, hb1⟩
   replace hb1 := Lib.hid hb1
   go_wp2_with fail
   refine Calls.mono (C1.out _) ?_
   rintro e w2 ⟨rfl, hb2⟩
   have HB2 := Lib.hid (below_trans hb1.out hb2 (Nat.le_refl _))
   clear hb2
   go_wp2_with fail
   refine Calls.mono (O0.out _) ?_
   rintro e w3 ⟨v3, rfl, ho3, hb3⟩
   have HB3 := Lib.hid (below_trans HB2.out hb3 (Nat.le_refl _))
   have HO3 := Lib.hid (own_base ho3 HB2.out.size)
   clear ho3 hb3
   go_wp2_with fail
   refine Calls.mono (O1.out _) ?_
   rintro e w4 ⟨v4, rfl, ho4, hb4⟩
   have HB4 := Lib.hid (below_trans HB3.out hb4 (Nat.le_refl _))
   have HO4 := Lib.hid (own_newer HO3.out hb4)
   obtain ⟨A4, c4, rfl, hF4⟩ := fr_of_own ho4
   have HR4 := Lib.hid hF4.rd
   clear ho4 hb4 hF4
   go_wp2_with (at_builtin; refine wp_app rfl _ _ _ rfl w.heap.size 3 (.int .i64 0) 1 8 Tryz.underlying116 info_intN rfl (by decide) _ _ _ rfl HO4.out _ _ A4 _ c4 (i64s L1) rfl HR4.out (ints_oneCell .i64 L1) (by unfold maxLen; omega) (by omega) HB4.out.size ?_; intro v5 w5 ho5 hb5 hg5 hn5; obtain ⟨A5, c5, rfl, hF5⟩ := fr_of_own ho5; (have HR5 := Lib.hid hF5.rd); (have HB5 := Lib.hid (HB4.out.trans hb5)); clear ho5 hb5 hg5 hn5 hF5)
   have HR6 := HR5.out
   rw [← List.map_append] at HR6
   replace HR6 := Lib.hid HR6
   go_wp2_with fail
   refine Calls.mono (spec_LabelOf (L0 ++ L1) A5 _ c5 _ _ _ (by omega) HR6.out) ?_
   rintro e w6 ⟨rfl, rfl⟩
   go_wp2_with fail
   go_ret
   exact ⟨by rw [HJ.out]; rfl, HB5.out⟩
set_option maxHeartbeats 4000000 in
theorem impl_join (b0 b1 : Int) (v0 v1 : Bool) (w : World) : Calls Tryz.prog 263 #[.agg #[.int .i64 b0, .bool v0], .agg #[.int .i64 b1, .bool v1]] w (Says (.agg #[.int .i64 (if v0 && v1 then bits .or .i64 b0 b1 else 0), .bool (v0 && v1)]) w) := by
 cases v0 <;> cases v1
 ·
  have HX : BoxAt (((w.alloc (.cells #[.int .i64 b0, .bool false] 256)).alloc (.cells #[.int .i64 b1, .bool false] 256)).alloc (.cells #[.int .i64 0, .bool false] 256)) (w.heap.size + 1 + 1) 256 #[.int .i64 0, .bool false] := by simpa using box_new ((w.alloc (.cells #[.int .i64 b0, .bool false] 256)).alloc (.cells #[.int .i64 b1, .bool false] 256)) 256 #[.int .i64 0, .bool false]
  have HB := Lib.hid ((((Below.refl w.heap.size w).alloc (Nat.le_refl _) (.cells #[.int .i64 b0, .bool false] 256)).alloc (by simp) (.cells #[.int .i64 b1, .bool false] 256)).alloc (by simp; omega) (.cells #[.int .i64 0, .bool false] 256))
  replace HX := Lib.hid HX
  go_enter Tryz.func263, Tryz.ntmps263
  go_wp2_with fail
  obtain ⟨k0, k1⟩ := HX.out.p2
  exact bodyPost_ret (v := .agg #[.int .i64 0, .bool false]) (by simp [results, Tryz.results263, go_sem, k0, k1]) rfl ⟨rfl, HB.out⟩
 ·
  have HX : BoxAt (((w.alloc (.cells #[.int .i64 b0, .bool false] 256)).alloc (.cells #[.int .i64 b1, .bool true] 256)).alloc (.cells #[.int .i64 0, .bool false] 256)) (w.heap.size + 1 + 1) 256 #[.int .i64 0, .bool false] := by simpa using box_new ((w.alloc (.cells #[.int .i64 b0, .bool false] 256)).alloc (.cells #[.int .i64 b1, .bool true] 256)) 256 #[.int .i64 0, .bool false]
  have HB := Lib.hid ((((Below.refl w.heap.size w).alloc (Nat.le_refl _) (.cells #[.int .i64 b0, .bool false] 256)).alloc (by simp) (.cells #[.int .i64 b1, .bool true] 256)).alloc (by simp; omega) (.cells #[.int .i64 0, .bool false] 256))
  replace HX := Lib.hid HX
  go_enter Tryz.func263, Tryz.ntmps263
  go_wp2_with fail
  obtain ⟨k0, k1⟩ := HX.out.p2
  exact bodyPost_ret (v := .agg #[.int .i64 0, .bool false]) (by simp [results, Tryz.results263, go_sem, k0, k1]) rfl ⟨rfl, HB.out⟩
 ·
  have HX : BoxAt (((w.alloc (.cells #[.int .i64 b0, .bool true] 256)).alloc (.cells #[.int .i64 b1, .bool false] 256)).alloc (.cells #[.int .i64 0, .bool false] 256)) (w.heap.size + 1 + 1) 256 #[.int .i64 0, .bool false] := by simpa using box_new ((w.alloc (.cells #[.int .i64 b0, .bool true] 256)).alloc (.cells #[.int .i64 b1, .bool false] 256)) 256 #[.int .i64 0, .bool false]
  have HB := Lib.hid ((((Below.refl w.heap.size w).alloc (Nat.le_refl _) (.cells #[.int .i64 b0, .bool true] 256)).alloc (by simp) (.cells #[.int .i64 b1, .bool false] 256)).alloc (by simp; omega) (.cells #[.int .i64 0, .bool false] 256))
  replace HX := Lib.hid HX
  go_enter Tryz.func263, Tryz.ntmps263
  go_wp2_with fail
  obtain ⟨k0, k1⟩ := HX.out.p2
  exact bodyPost_ret (v := .agg #[.int .i64 0, .bool false]) (by simp [results, Tryz.results263, go_sem, k0, k1]) rfl ⟨rfl, HB.out⟩
 ·
  have HX : BoxAt (((w.alloc (.cells #[.int .i64 b0, .bool true] 256)).alloc (.cells #[.int .i64 b1, .bool true] 256)).alloc (.cells #[.int .i64 (bits .or .i64 b0 b1), .bool true] 256)) (w.heap.size + 1 + 1) 256 #[.int .i64 (bits .or .i64 b0 b1), .bool true] := by simpa using box_new ((w.alloc (.cells #[.int .i64 b0, .bool true] 256)).alloc (.cells #[.int .i64 b1, .bool true] 256)) 256 #[.int .i64 (bits .or .i64 b0 b1), .bool true]
  have HB := Lib.hid ((((Below.refl w.heap.size w).alloc (Nat.le_refl _) (.cells #[.int .i64 b0, .bool true] 256)).alloc (by simp) (.cells #[.int .i64 b1, .bool true] 256)).alloc (by simp; omega) (.cells #[.int .i64 (bits .or .i64 b0 b1), .bool true] 256))
  replace HX := Lib.hid HX
  go_enter Tryz.func263, Tryz.ntmps263
  go_wp2_with fail
  obtain ⟨k0, k1⟩ := HX.out.p2
  exact bodyPost_ret (v := .agg #[.int .i64 (bits .or .i64 b0 b1), .bool true]) (by simp [results, Tryz.results263, go_sem, k0, k1]) rfl ⟨rfl, HB.out⟩
set_option maxHeartbeats 4000000 in
theorem impl_JoinLabels (x y : Int) (w : World) (wx : (Lit.int .i64 x).wf = true) (wy : (Lit.int .i64 y).wf = true) : Calls Tryz.prog 250 #[.int .i64 x, .int .i64 y] w (Says (.int .i64 (mJoin x y)) w) := by
 have C0 := fun W => impl_maskOf x W
 have C1 := fun W => impl_maskOf y W
 have HJ : mJoin x y = if mIsLabel x && mIsLabel y then bits .or .i64 (if mIsLabel x then x else 0) (if mIsLabel y then y else 0) else 0 := by
  unfold mJoin
  cases mIsLabel x <;> cases mIsLabel y <;> simp
 generalize (if mIsLabel x then x else 0) = b0 at C0 HJ
 generalize (if mIsLabel y then y else 0) = b1 at C1 HJ
 generalize mIsLabel x = v0 at C0 HJ
 generalize mIsLabel y = v1 at C1 HJ
 have C2 := fun W => impl_join b0 b1 v0 v1 W
 rw [← HJ] at C2
 generalize mJoin x y = z at C2 ⊢
 generalize (v0 && v1) = v2 at C2
 replace C0 := Lib.hid C0
 replace C1 := Lib.hid C1
 replace C2 := Lib.hid C2
 have fs : ∀ w, (Instr.field 256 (.agg #[.int .i64 z, .bool v2]) 0).run Tryz.prog w = .ok (.int .i64 z) w := fun _ => by kernel_rfl
 clear HJ wx wy
 go_enter Tryz.func250, Tryz.ntmps250
 go_wp2_with fail
 refine Calls.mono (C0.out _) ?_
 rintro e w1 ⟨rfl, hb1⟩
 replace hb1 := Lib.hid hb1
 go_wp2_with fail
 refine Calls.mono (C1.out _) ?_
 rintro e w2 ⟨rfl, hb2⟩
 have HB2 := Lib.hid (below_trans hb1.out hb2 (Nat.le_refl _))
 clear hb2
 go_wp2_with fail
 refine Calls.mono (C2.out _) ?_
 rintro e w3 ⟨rfl, hb3⟩
 have HB3 := Lib.hid (below_trans HB2.out hb3 (Nat.le_refl _))
 clear hb3
 go_wp2_with fail
 go_ret
 exact ⟨rfl, HB3.out⟩
end Go.Proofs.YtkedacmpmancbaaGreatDoor
namespace Go.Proofs.YtkedacmpmancbaaGreatDoor
open Go Go.ChangeShapes Go.WideShapes Go.ChangeAt Go.RowKit Go.Lib Go.Maps
set_option linter.unusedVariables false
set_option linter.unusedSimpArgs false
set_option maxRecDepth 100000
theorem keyed_int : Keyed Tryz.prog 3 := int_keyed Tryz.underlying3
theorem zero_bool (w : World) : (zeroValue 4).run Tryz.prog w = .ok (.bool false) w := by kernel_rfl
theorem elem_bool {v : Value} {z : DataW Unit × List MemPlace} (h : plainElem Tryz.prog 4 v = some z) : ∃ x, v = .bool x ∧ z = (.lit (.bool x), []) := by
 unfold plainElem at h
 rw [Tryz.underlying4] at h
 cases v <;> simp at h
 exact ⟨_, rfl, h.symm⟩
theorem make_map_none (ht : Tryz.prog.underlying 190 = some (.map 3 4)) (w : World) :
  (Instr.makeMap 190 none).run Tryz.prog w = .ok (.map (some w.heap.size)) (w.alloc (.map #[] 0)) := by
 simp [Instr.makeMap, run_underlying ht]
/-- Block b is a map of at most n entries that says s. -/
def MapB (w : World) (b n : Nat) (s : Int → Bool) : Prop :=
 ∃ D : DataW Unit, w.ownsMap Tryz.prog 3 (plainElem Tryz.prog 4) b n D ∧ IsMap D ∧ ∀ id : Int, D.atKey (.int .i64 id) (.lit (.bool false)) = .lit (.bool (s id))
section
variable {w w' : World} {b n : Nat} {s s' : Int → Bool}
theorem MapB.lt (h : MapB w b n s) : b < w.heap.size := by
 obtain ⟨D, h1, _⟩ := h
 exact h1.lt
theorem MapB.keep (h : MapB w b n s) (e : w'.heap[b]? = w.heap[b]?) : MapB w' b n s := by
 obtain ⟨D, ⟨es, clock, hb, hF⟩, h2⟩ := h
 exact ⟨D, ⟨es, clock, e.trans hb, hF⟩, h2⟩
theorem MapB.new (h : MapB w b n s) (hb : Below w.heap.size w w') : MapB w' b n s := h.keep (hb.block b h.lt)
theorem MapB.congr_ (h : MapB w b n s) (e : ∀ id, s id = s' id) : MapB w b n s' := by
 have he : s = s' := funext e
 exact he ▸ h
theorem MapB.more {m : Nat} (h : MapB w b n s) (hm : n ≤ m) : MapB w b m s := by
 obtain ⟨D, h1, h2⟩ := h
 exact ⟨D, h1.mono hm, h2⟩
theorem mapB_made (w : World) : MapB (w.alloc (.map #[] 0)) w.heap.size 0 (fun _ => false) :=
 ⟨.map [], World.ownsMap_made _ _ _ _, isMap_empty, fun id => rfl⟩
theorem MapB.look (h : MapB w b n s) (ht : Tryz.prog.underlying 190 = some (.map 3 4)) (id : Int) (hw : (Lit.int .i64 id).wf = true) :
  (Instr.lookup 190 (.map (some b)) (.int .i64 id) false).run Tryz.prog w = .ok (.bool (s id)) w := by
 obtain ⟨D, h1, h2, h3⟩ := h
 obtain ⟨v, ps, hrun, hv⟩ := h1.lookup keyed_int ht (zero_bool w) (plainElem_bool Tryz.underlying4 false) (keyOf_int_mk Tryz.underlying3 hw)
 obtain ⟨x, rfl, hx⟩ := elem_bool hv
 rw [h3 id] at hx
 injection hx with hx _
 injection hx with hx
 injection hx with hx
 rw [hx]
 exact hrun
end
section
variable {w : World} {ops : Array Oper} {rest : List Oper} {o : Oper} {a : Act} {Q : Exit → Act → World → Prop}
/-- 'm[k] = v'. -/
theorem wp_mapb_put (hg : o.guard = none) (m x v : Operand) (t : TypeId) (hop : o.op = Op.mapUpdate t m x v) (ht : Tryz.prog.underlying t = some (.map 3 4)) (b n : Nat) (s : Int → Bool) (hm : a.eval m = .map (some b)) (h : MapB w b n s) (hn : n < maxLen)
  (id : Int) (y : Bool) (hx : a.eval x = .int .i64 id) (hv : a.eval v = .bool y) (hw : (Lit.int .i64 id).wf = true)
  (hK : ∀ w', MapB w' b (n + 1) (fun k => if k = id then y else s k) → w.grownBy w' (some b) → wpList Tryz.prog ops Q rest (a.put o.dst undef) w') : wpList Tryz.prog ops Q (o :: rest) a w := by
 obtain ⟨D, h1, h2, h3⟩ := h
 refine wpList_mapUpdate_own w hg m x v t hop 3 4 keyed_int ht _ b n D hm h1 hn (.int .i64 id) (.bool y) (.int .i64 id) hx hv (keyOf_int_mk Tryz.underlying3 hw) (.lit (.bool y)) [] (plainElem_bool Tryz.underlying4 y) ?_
 intro w' h4 h5
 refine hK w' ⟨_, h4, h2.put _ _, fun k => ?_⟩ h5
 by_cases e : k = id
 ·
  subst e
  simp only [if_true]
  exact atKey_put_same h2 (show WideAt.IsKeyLit (.int .i64 k) from trivial) _ _
 ·
  simp only [e, if_false]
  have hne : (Lit.int .i64 k) ≠ Lit.int .i64 id := fun h => by injection h with _ h; exact e h
  exact (atKey_put_other hne _ _).trans (h3 k)
end

end Go.Proofs.YtkedacmpmancbaaGreatDoor
namespace Go.Proofs.YtkedacmpmancbaaGreatDoor
open Go Go.ChangeShapes Go.WideShapes Go.ChangeAt Go.RowKit Go.Lib
set_option linter.unusedVariables false
set_option linter.unusedSimpArgs false
set_option maxRecDepth 100000
theorem mLabS_snoc (l : List Int) (z : Int) (k : Nat) : mLabS (l ++ [z]) k = mLabS l k + if 1 ≤ z ∧ z ≤ (k : Int) ∧ ¬ z ∈ l then 2 ^ z.toNat else 0 := by
 induction k with
 | zero =>
  simp only [mLabS]
  rw [if_neg (by omega)]
 | succ k ih =>
  simp only [mLabS, ih, List.mem_append, List.mem_singleton]
  by_cases hz : z = (k : Int) + 1
  ·
   subst hz
   have e : ((k : Int) + 1).toNat = k + 1 := by omega
   rw [if_neg (by omega), e]
   by_cases hm : ((k : Int) + 1) ∈ l
   ·
    rw [if_pos (Or.inl hm), if_pos hm, if_neg (by intro h; exact h.2.2 hm)] <;> omega
   ·
    rw [if_pos (Or.inr rfl), if_neg hm, if_pos ⟨by omega, by omega, hm⟩] <;> omega
  ·
   have h1 : (((k : Int) + 1) ∈ l ∨ (k : Int) + 1 = z) ↔ ((k : Int) + 1) ∈ l := ⟨fun h => h.elim id (fun h => absurd h.symm hz), Or.inl⟩
   have h2 : (1 ≤ z ∧ z ≤ (k : Int) ∧ ¬ z ∈ l) ↔ (1 ≤ z ∧ z ≤ ((k + 1 : Nat) : Int) ∧ ¬ z ∈ l) := by
    constructor
    ·
     rintro ⟨a, b, c⟩; exact ⟨a, by omega, c⟩
    ·
     rintro ⟨a, b, c⟩; exact ⟨a, by omega, c⟩
   simp only [h1, h2]
   omega
/-- What the map says when these owners have come by. -/
def sMet (l : List Int) (id : Int) : Bool := decide (id ∈ l) && inR id 1 9
theorem sMet_off {l : List Int} {z : Int} (h : inR z 1 9 = false) (id : Int) : sMet l id = sMet (l ++ [z]) id := by
 unfold sMet
 by_cases e : id = z
 ·
  subst e; rw [h]; simp
 ·
  simp [e]
theorem sMet_on {l : List Int} {z : Int} (h : inR z 1 9 = true) (id : Int) : (if id = z then true else sMet l id) = sMet (l ++ [z]) id := by
 unfold sMet
 by_cases e : id = z
 ·
  subst e; rw [h]; simp
 ·
  simp [e]
theorem sMet_in {l : List Int} {z : Int} (h : sMet l z = true) (id : Int) : sMet l id = sMet (l ++ [z]) id := by
 unfold sMet at *
 by_cases e : id = z
 ·
  subst e
  simp at h
  simp [h.1]
 ·
  simp [e]
theorem lab_same {l : List Int} {z : Int} (h : inR z 1 9 = false ∨ sMet l z = true) : mLabS (l ++ [z]) 9 = mLabS l 9 := by
 rw [mLabS_snoc, if_neg]
 ·
  rfl
 ·
  rintro ⟨h1, h2, h3⟩
  rcases h with h | h
  ·
   have h9 : z ≤ 9 := h2
   rw [inR_true.2 ⟨h1, h9⟩] at h; cases h
  ·
   unfold sMet at h; simp at h; exact h3 h.1
theorem lab_new {l : List Int} {z : Int} (h : inR z 1 9 = true) (h2 : sMet l z = false) : mLabS (l ++ [z]) 9 = mLabS l 9 + 2 ^ z.toNat := by
 have hb := inR_true.1 h
 rw [mLabS_snoc, if_pos]
 refine ⟨hb.1, hb.2, fun hm => ?_⟩
 unfold sMet at h2
 rw [h, decide_eq_true hm] at h2
 cases h2
theorem take_snoc {l : List Int} {k : Nat} {z : Int} (h : l[k]? = some z) : l.take (k + 1) = l.take k ++ [z] := by rw [List.take_add_one, h]; rfl
set_option maxHeartbeats 16000000 in
theorem implLabelOf (l : List Int) (A : Option Addr) (n c lo hi : Nat) (w : World) (hn : n ≤ 1048576) (hr : Rd w lo hi 1 A n (i64s l)) (b0 : Hid (I64s l)) :
  Calls Tryz.prog 248 #[.slice A n c] w (Says (.int .i64 ((mLabS l 9 : Nat) : Int)) w) := by
 have HT : Hid (Tryz.prog.underlying 190 = some (.map 3 4)) := Lib.hid Tryz.underlying190
 have hmk : ∀ W, (Instr.makeMap 190 none).run Tryz.prog W = .ok (.map (some W.heap.size)) (W.alloc (.map #[] 0)) := make_map_none Tryz.underlying190
 have HR := Lib.hid hr
 have HL := Lib.hid (show l.length = n by have := hr.1; simpa [i64s] using this)
 have HLe := Lib.hid (fun m : List Int => show mLabS m 9 + 2 ≤ 1024 from mLabS_le m 9)
 clear hr
 go_enter Tryz.func248, Tryz.ntmps248
 go_wp2_with fail
 go_loopg [4, 10] n (fun gg lv i wr => ∃ (k m : Nat), k ≤ n ∧ n - k ≤ gg ∧ i = .int .i64 k ∧ lv = .int .i64 m ∧ Hid (mLabS (l.take k) 9 = m) ∧ Hid (MapB wr w.heap.size k (sMet (l.take k))) ∧ Hid (Below w.heap.size w wr))
 case atStart => exact ⟨0, 0, Nat.zero_le _, by omega, rfl, rfl, Lib.hid (by rw [List.take_zero]; decide), Lib.hid ((mapB_made w).congr_ (fun id => by simp [sMet])), Lib.hid ((Below.refl _ _).alloc (Nat.le_refl _) _)⟩
 case round =>
  obtain ⟨k, m, hk, hg, rfl, rfl, HM, HP, HB⟩ := hrel
  by_cases hlt : k < n
  ·
   obtain ⟨b, off, z, rfl, _, _, hz, hc⟩ := rd_int (HR.out.new HB.out) hlt
   have c0 : wr.cell? ⟨b, off + k, none⟩ = some (.int .i64 z) := hc
   have hzb := b0.out z (List.mem_of_getElem? hz)
   have HTk := Lib.hid (take_snoc hz)
   have hwf : (Lit.int .i64 z).wf = true := WalkArith.wf_i64 hzb
   have HLk := HP.out.look HT.out z hwf
   have C1 := fun W => impl_in z 1 9 W
   have HS0 := Lib.hid (fun (h : inR z 1 9 = false ∨ sMet (l.take k) z = true) => (lab_same h).trans HM.out)
   have HS1 := Lib.hid (fun (h : inR z 1 9 = true) (h2 : sMet (l.take k) z = false) => by have := lab_new h h2; rwa [HM.out] at this)
   have hz9 : inR z 1 9 = true → 1 ≤ z ∧ z ≤ 9 := fun h => inR_true.1 h
   have Hoff := Lib.hid (fun (h : inR z 1 9 = false) => HP.out.congr_ (sMet_off h))
   have Hin := Lib.hid (fun (h : sMet (l.take k) z = true) => HP.out.congr_ (sMet_in h))
   have Hon := Lib.hid (fun (h : inR z 1 9 = true) id => sMet_on (l := l.take k) h id)
   clear hz hc
   cases hq : sMet (l.take k) z with
   | true =>
    rw [hq] at HLk
    have HE := Lib.hid (HS0.out (.inr hq))
    have HP2 := Lib.hid (Hin.out hq)
    clear hq HS0 HS1 Hoff Hin Hon hz9
    go_wp2_with fail
    go_roundg (n - (k + 1))
    case measure => omega
    case rel => exact ⟨k + 1, m, by omega, by omega, by go_num, rfl, by rw [HTk.out]; exact HE, by rw [HTk.out]; exact Lib.hid (HP2.out.more (by omega)), HB⟩
   | false =>
    rw [hq] at HLk
    have hq2 := Lib.hid hq
    clear hq
    cases hi : inR z 1 9 with
    | false =>
     rw [hi] at C1
     have HE := Lib.hid (HS0.out (.inl hi))
     have HP2 := Lib.hid (Hoff.out hi)
     clear hi HS0 HS1 Hoff Hin Hon hz9
     go_wp2_with fail
     refine (C1 _).mono ?_
     rintro e w1 ⟨rfl, rfl⟩
     go_wp2_with fail
     go_roundg (n - (k + 1))
     case measure => omega
     case rel => exact ⟨k + 1, m, by omega, by omega, by go_num, rfl, by rw [HTk.out]; exact HE, by rw [HTk.out]; exact Lib.hid (HP2.out.more (by omega)), HB⟩
    | true =>
     rw [hi] at C1
     have HE := Lib.hid (HS1.out hi hq2.out)
     have Hon2 := Lib.hid (Hon.out hi)
     have hm2 : m + 2 ^ z.toNat ≤ 1022 := by have := HLe.out (l.take k ++ [z]); rw [HE.out] at this; omega
     have hz3 := hz9 hi
     clear hi HS0 HS1 Hoff Hin Hon hz9
     have hcase : z = 1 ∨ z = 2 ∨ z = 3 ∨ z = 4 ∨ z = 5 ∨ z = 6 ∨ z = 7 ∨ z = 8 ∨ z = 9 := by omega
     clear hz3
     rcases hcase with rfl | rfl | rfl | rfl | rfl | rfl | rfl | rfl | rfl
     all_goals
      simp at hm2
      go_wp2_with fail
      refine (C1 _).mono ?_
      rintro e w1 ⟨rfl, rfl⟩
      go_wp2_with (refine wp_mapb_put rfl _ _ _ _ rfl HT.out w.heap.size k _ rfl HP.out (by unfold maxLen; omega) _ true rfl rfl (by decide) ?_; intro w2 hp2 hg2; have HP2 := Lib.hid hp2; have HG2 := Lib.hid hg2; clear hp2 hg2)
      have HB2 := Lib.hid (HB.out.grown HG2.out HB.out.size (fun q hq => by injection hq with hq; omega))
      go_roundg (n - (k + 1))
      case measure => omega
      case rel => exact ⟨k + 1, _, by omega, by omega, by go_num, rfl, by rw [HTk.out]; exact Lib.hid (by rw [HE.out]; rfl), by rw [HTk.out]; exact Lib.hid (HP2.out.congr_ Hon2.out), HB2⟩
  ·
   obtain rfl : k = n := by omega
   have HE := Lib.hid (show mLabS l 9 = m by have := HM.out; rwa [List.take_of_length_le (by rw [HL.out]; omega)] at this)
   go_wp2_with fail
   go_ret
   exact ⟨by rw [HE.out]; rfl, HB.out⟩
end Go.Proofs.YtkedacmpmancbaaGreatDoor
namespace Go.Proofs.YtkedacmpmancbaaGreatDoor
open Go Go.ChangeShapes Go.WideShapes Go.ChangeAt Go.RowKit Go.Lib
set_option linter.unusedVariables false
set_option linter.unusedSimpArgs false
set_option maxRecDepth 100000

structure TSent where
 f0 : Int
 f1 : Int
 f2 : Int
deriving DecidableEq
def TSent.cells (x : TSent) : List Value := [.int .i64 x.f0, .int .i64 x.f1, .int .i64 x.f2]
theorem TSent.len (x : TSent) : x.cells.length = 3 := rfl
def TSent.fit (x : TSent) : Prop := (-9223372036854775808 ≤ x.f0 ∧ x.f0 ≤ 9223372036854775807) ∧ (-9223372036854775808 ≤ x.f1 ∧ x.f1 ≤ 9223372036854775807) ∧ (-9223372036854775808 ≤ x.f2 ∧ x.f2 ≤ 9223372036854775807)
/-- The marks of one element, from k on. -/
def TSent.mark (k : Nat) : TSent := ⟨((k + 0 : Nat) : Int), ((k + 1 : Nat) : Int), ((k + 2 : Nat) : Int)⟩
def TSent.marks (k n : Nat) : List TSent := (List.range n).map fun i => TSent.mark (k + i * 3)


end Go.Proofs.YtkedacmpmancbaaGreatDoor
namespace Go.Proofs.YtkedacmpmancbaaGreatDoor
open Go Go.ChangeShapes Go.WideShapes Go.ChangeAt Go.RowKit Go.Lib
set_option linter.unusedVariables false
set_option linter.unusedSimpArgs false
set_option maxRecDepth 100000
theorem lab_nat {x : Int} (h : mIsLabel x = true) : ∃ a : Nat, x = (a : Int) ∧ a < 1024 ∧ a % 2 = 0 ∧ a ≤ 1022 := by
 simp only [mIsLabel, Bool.and_eq_true, beq_iff_eq] at h
 have b1 := inR_true.1 h.1
 obtain ⟨a, rfl⟩ := Int.eq_ofNat_of_zero_le b1.1
 exact ⟨a, rfl, by omega, by omega, by omega⟩
theorem nat_lab {a : Nat} (h : a ≤ 1022) (h2 : a % 2 = 0) : mIsLabel (a : Int) = true := by
 simp only [mIsLabel, Bool.and_eq_true, beq_iff_eq]
 exact ⟨inR_true.2 ⟨by omega, by omega⟩, by omega⟩
theorem or_even {a b : Nat} (ha : a < 1024) (hb : b < 1024) (ea : a % 2 = 0) (eb : b % 2 = 0) : (a ||| b) < 1024 ∧ (a ||| b) % 2 = 0 ∧ (a ||| b) ≤ 1022 := by
 have hab : a ||| b < 1024 := Nat.or_lt_two_pow (n := 10) ha hb
 have hev : (a ||| b) % 2 = 0 := by
  have h0 : (a ||| b).testBit 0 = false := by
   rw [Nat.testBit_or, Nat.testBit_zero, Nat.testBit_zero]
   simp [*]
  rw [Nat.testBit_zero] at h0
  have : ¬ ((a ||| b) % 2 = 1) := by simpa using h0
  omega
 exact ⟨hab, hev, by omega⟩
theorem join_nat {a b : Nat} (ha : mIsLabel (a : Int) = true) (hb : mIsLabel (b : Int) = true) (h1 : a < 1024) (h2 : b < 1024) : mJoin (a : Int) (b : Int) = ((a ||| b : Nat) : Int) := by
 unfold mJoin
 rw [ha, hb, or_nat a b h1 h2]
 rfl
theorem join_lab {x y : Int} (hx : mIsLabel x = true) (hy : mIsLabel y = true) : mIsLabel (mJoin x y) = true := by
 obtain ⟨a, rfl, a1, a2, a3⟩ := lab_nat hx
 obtain ⟨b, rfl, b1, b2, b3⟩ := lab_nat hy
 rw [join_nat hx hy a1 b1]
 obtain ⟨c1, c2, c3⟩ := or_even a1 b1 a2 b2
 exact nat_lab c3 c2
theorem join_assoc {x y z : Int} (hx : mIsLabel x = true) (hy : mIsLabel y = true) (hz : mIsLabel z = true) : mJoin (mJoin x y) z = mJoin x (mJoin y z) := by
 have h1 := join_lab hx hy
 have h2 := join_lab hy hz
 obtain ⟨a, rfl, a1, a2, a3⟩ := lab_nat hx
 obtain ⟨b, rfl, b1, b2, b3⟩ := lab_nat hy
 obtain ⟨c, rfl, c1, c2, c3⟩ := lab_nat hz
 rw [join_nat hx hy a1 b1] at h1 ⊢
 rw [join_nat hy hz b1 c1] at h2 ⊢
 rw [join_nat h1 hz (or_even a1 b1 a2 b2).1 c1, join_nat hx h2 a1 (or_even b1 c1 b2 c2).1, Nat.or_assoc]
theorem labS_lab (l : List Int) : mIsLabel ((mLabS l 9 : Nat) : Int) = true := by
 have h1 := mLabS_le l 9
 have h2 : ∀ k, mLabS l k % 2 = 0 := by
  intro k
  induction k with
  | zero => rfl
  | succ k ih =>
   simp only [mLabS]
   have : 2 ^ (k + 1) = 2 * 2 ^ k := by rw [Nat.pow_succ, Nat.mul_comm]
   split <;> omega
 exact nat_lab (by omega) (h2 9)
theorem lab_wf {x : Int} (h : mIsLabel x = true) : (Lit.int .i64 x).wf = true := by
 obtain ⟨a, rfl, a1, _, _⟩ := lab_nat h
 exact WalkArith.wf_i64 (by omega)
/-- A register's number. -/
def gI (l : List Int) (k : Int) : Int := l.getD k.toNat 0
def mStV (o : TOp) (vals v : List Int) : List Int :=
 if o.f0 = 1 then v.set o.f1.toNat (mVal vals (o.f2.toNat - 1))
 else if o.f0 = 2 then v.set o.f1.toNat o.f2
 else if o.f0 = 3 then v.set o.f1.toNat ((gI v o.f2 + gI v o.f3) % 1000)
 else if o.f0 = 4 then v.set o.f1.toNat (if gI v o.f2 % 2 = 0 then gI v o.f3 else gI v o.f1)
 else v
def mStB (o : TOp) (b : List Int) : List Int :=
 if o.f0 = 1 then b.set o.f1.toNat ((mLabS [o.f2] 9 : Nat) : Int)
 else if o.f0 = 2 then b.set o.f1.toNat 0
 else if o.f0 = 3 then b.set o.f1.toNat (mJoin (gI b o.f2) (gI b o.f3))
 else if o.f0 = 4 then b.set o.f1.toNat (mJoin (mJoin (gI b o.f1) (gI b o.f2)) (gI b o.f3))
 else b
def mSd (o : TOp) (v b : List Int) : List TSent := if o.f0 = 5 then [⟨o.f2, gI v o.f1, gI b o.f1⟩] else []
/-- The registers' values and labels, and what was sent. -/
structure MMc where
 v : List Int
 b : List Int
 s : List TSent
def MMc.ok (x : MMc) : Prop := (x.v.length = 6 ∧ ∀ z ∈ x.v, 0 ≤ z ∧ z ≤ 999) ∧ (x.b.length = 6 ∧ ∀ z ∈ x.b, mIsLabel z = true)
def mStep (vals : List Int) (x : MMc) (o : TOp) : MMc := ⟨mStV o vals x.v, mStB o x.b, x.s ++ mSd o x.v x.b⟩
def mMc0 : MMc := ⟨List.replicate 6 0, List.replicate 6 0, []⟩
def mMc (vals : List Int) (l : List TOp) : MMc := l.foldl (mStep vals) mMc0
theorem mMc_take {vals : List Int} {l : List TOp} {k : Nat} {o : TOp} (h : l[k]? = some o) : mMc vals (l.take (k + 1)) = mStep vals (mMc vals (l.take k)) o := by
 rw [List.take_add_one, h]
 simp [mMc]
theorem gI_in {l : List Int} {k : Int} {P : Int → Prop} (h : l.length = 6 ∧ ∀ z ∈ l, P z) (hk : mReg k = true) : P (gI l k) := by
 have b := inR_true.1 hk
 have hlt : k.toNat < l.length := by omega
 unfold gI
 rw [List.getD_eq_getElem?_getD, List.getElem?_eq_getElem hlt]
 exact h.2 _ (List.getElem_mem hlt)
theorem set_all {l : List Int} {k : Nat} {z : Int} {P : Int → Prop} (h : l.length = 6 ∧ ∀ z ∈ l, P z) (hz : P z) : (l.set k z).length = 6 ∧ ∀ y ∈ l.set k z, P y :=
 ⟨by rw [List.length_set]; exact h.1, fun y hy => by
  rcases List.mem_or_eq_of_mem_set hy with h1 | rfl
  ·
   exact h.2 y h1
  ·
   exact hz⟩
theorem mVal_in (l : List Int) (k : Nat) : 0 ≤ mVal l k ∧ mVal l k ≤ 999 := by
 unfold mVal
 split
 ·
  split
  ·
   rename_i h
   exact inR_true.1 h
  ·
   omega
 ·
  omega
theorem mOp_12 {o : TOp} (h : mOp o = true) (hk : o.f0 = 1 ∨ o.f0 = 5) : mReg o.f1 = true ∧ 1 ≤ o.f2 ∧ o.f2 ≤ 9 := by
 unfold mOp at h
 rw [if_pos hk] at h
 simp only [mOp3, Bool.and_eq_true] at h
 have := inR_true.1 h.1.2
 exact ⟨h.1.1, by omega, by omega⟩
theorem mOp_2 {o : TOp} (h : mOp o = true) (hk : o.f0 = 2) : mReg o.f1 = true ∧ 0 ≤ o.f2 ∧ o.f2 ≤ 999 := by
 unfold mOp at h
 rw [if_neg (by omega), if_pos hk] at h
 simp only [mOp3, Bool.and_eq_true] at h
 have := inR_true.1 h.1.2
 exact ⟨h.1.1, by omega, by omega⟩
theorem mOp_34 {o : TOp} (h : mOp o = true) (hk : o.f0 = 3 ∨ o.f0 = 4) : mReg o.f1 = true ∧ mReg o.f2 = true ∧ mReg o.f3 = true := by
 unfold mOp at h
 rw [if_neg (by omega), if_neg (by omega), if_pos hk] at h
 simp only [Bool.and_eq_true] at h
 exact ⟨h.1.1, h.1.2, h.2⟩
theorem mOp_k {o : TOp} (h : mOp o = true) : o.f0 = 1 ∨ o.f0 = 2 ∨ o.f0 = 3 ∨ o.f0 = 4 ∨ o.f0 = 5 := by
 unfold mOp at h
 split at h
 ·
  omega
 ·
  split at h
  ·
   omega
  ·
   split at h
   ·
    omega
   ·
    cases h
theorem mReg_n {k : Int} (h : mReg k = true) : ∃ n : Nat, k = (n : Int) ∧ n < 6 := by
 have b := inR_true.1 h
 obtain ⟨a, rfl⟩ := Int.eq_ofNat_of_zero_le b.1
 exact ⟨a, rfl, by omega⟩
theorem mStep_ok {vals : List Int} {x : MMc} {o : TOp} (h : x.ok) (ho : mOp o = true) : (mStep vals x o).ok := by
 obtain ⟨hv, hb⟩ := h
 have hz : mIsLabel 0 = true := by decide
 refine ⟨?_, ?_⟩
 ·
  show (mStV o vals x.v).length = 6 ∧ ∀ z ∈ mStV o vals x.v, 0 ≤ z ∧ z ≤ 999
  unfold mStV
  split
  ·
   exact set_all hv (mVal_in _ _)
  ·
   split
   ·
    rename_i h2
    exact set_all hv (mOp_2 ho h2).2
   ·
    split
    ·
     exact set_all hv ⟨by omega, by omega⟩
    ·
     split
     ·
      rename_i h4
      obtain ⟨h1, h2, h3⟩ := mOp_34 ho (.inr h4)
      refine set_all hv ?_
      split
      ·
       exact gI_in hv h3
      ·
       exact gI_in hv h1
     ·
      exact hv
 ·
  show (mStB o x.b).length = 6 ∧ ∀ z ∈ mStB o x.b, mIsLabel z = true
  unfold mStB
  split
  ·
   exact set_all hb (labS_lab _)
  ·
   split
   ·
    exact set_all hb hz
   ·
    split
    ·
     rename_i h3
     obtain ⟨h1, h2, h3⟩ := mOp_34 ho (.inl h3)
     exact set_all hb (join_lab (gI_in hb h2) (gI_in hb h3))
    ·
     split
     ·
      rename_i h4
      obtain ⟨h1, h2, h3⟩ := mOp_34 ho (.inr h4)
      exact set_all hb (join_lab (join_lab (gI_in hb h1) (gI_in hb h2)) (gI_in hb h3))
     ·
      exact hb
theorem mMc_ok {vals : List Int} {l : List TOp} (h : l.all mOp = true) (k : Nat) : (mMc vals (l.take k)).ok := by
 have h0 : mMc0.ok := by
  have hz : mIsLabel 0 = true := by decide
  exact ⟨⟨by simp [mMc0], fun z hh => by rw [List.eq_of_mem_replicate hh]; omega⟩, ⟨by simp [mMc0], fun z hh => by rw [List.eq_of_mem_replicate hh]; exact hz⟩⟩
 have : ∀ (l : List TOp) (x : MMc), x.ok → l.all mOp = true → (l.foldl (mStep vals) x).ok := by
  intro l
  induction l with
  | nil => intro x hx _; exact hx
  | cons o l ih =>
   intro x hx hl
   rw [List.all_cons, Bool.and_eq_true] at hl
   exact ih _ (mStep_ok hx hl.1) hl.2
 refine this _ _ h0 ?_
 rw [List.all_eq_true] at h ⊢
 exact fun x hx => h x (List.mem_of_mem_take hx)
theorem mSent_le {vals : List Int} : ∀ (l : List TOp), (mMc vals l).s.length ≤ l.length := by
 have : ∀ (l : List TOp) (x : MMc), (l.foldl (mStep vals) x).s.length ≤ x.s.length + l.length := by
  intro l
  induction l with
  | nil => intro x; simp
  | cons o l ih =>
   intro x
   refine Nat.le_trans (ih _) ?_
   have : (mSd o x.v x.b).length ≤ 1 := by unfold mSd; split <;> simp
   simp only [mStep, List.length_append, List.length_cons]
   omega
 intro l
 have h := this l mMc0
 simpa [mMc, mMc0] using h
end Go.Proofs.YtkedacmpmancbaaGreatDoor
namespace Go.Proofs.YtkedacmpmancbaaGreatDoor
open Go Go.ChangeShapes Go.WideShapes Go.ChangeAt Go.RowKit Go.Lib
set_option linter.unusedVariables false
set_option linter.unusedSimpArgs false
set_option maxRecDepth 100000
/-- A flow is added unless it is one back to its owner, or is there. -/
def addF (ext t0 : Int) (out : List TFlow) (x : Int) : List TFlow := if (x != t0) && !(out.any fun y => decide ((⟨ext, x, t0⟩ : TFlow) = y)) then out ++ [⟨ext, x, t0⟩] else out
def addS (ext : Int) (out : List TFlow) (e : TSent) : List TFlow := (mOwn e.f2).foldl (addF ext e.f0) out
def mNd (ext : Int) (s : List TSent) : List TFlow := s.foldl (addS ext) []
def mNeed (l : List TOp) (ext : Int) : List TFlow := if mAreOps l then mNd ext (mMc [] l).s else []
theorem mNd_snoc (ext : Int) (s : List TSent) (e : TSent) : mNd ext (s ++ [e]) = addS ext (mNd ext s) e := by simp [mNd]
theorem addF_len (ext t0 : Int) (out : List TFlow) (x : Int) : (addF ext t0 out x).length ≤ out.length + 1 := by
 unfold addF
 split <;> simp
theorem addF_folds (ext t0 : Int) : ∀ (l : List Int) (out : List TFlow), (l.foldl (addF ext t0) out).length ≤ out.length + l.length
 | [], out => by simp
 | x :: l, out => by
  have h1 := addF_folds ext t0 l (addF ext t0 out x)
  have h2 := addF_len ext t0 out x
  simp only [List.foldl_cons, List.length_cons] at h1 ⊢
  omega
theorem addS_len (ext : Int) (out : List TFlow) (e : TSent) : (addS ext out e).length ≤ out.length + 9 := by
 have h1 := addF_folds ext e.f0 (mOwn e.f2) out
 have h2 := mOwn_len e.f2
 unfold addS
 omega
theorem mNd_len (ext : Int) (s : List TSent) : (mNd ext s).length ≤ 9 * s.length := by
 have : ∀ (s : List TSent) (out : List TFlow), (s.foldl (addS ext) out).length ≤ out.length + 9 * s.length := by
  intro s
  induction s with
  | nil => intro out; simp
  | cons e s ih =>
   intro out
   have h1 := ih (addS ext out e)
   have h2 := addS_len ext out e
   simp only [List.foldl_cons, List.length_cons] at h1 ⊢
   omega
 simpa [mNd] using this s []
theorem mNeed_len (l : List TOp) (ext : Int) : (mNeed l ext).length ≤ 144 := by
 unfold mNeed
 split
 ·
  rename_i h
  have h1 := mNd_len ext (mMc [] l).s
  have h2 := mSent_le (vals := []) l
  simp only [mAreOps, Bool.and_eq_true, decide_eq_true_eq] at h
  have := h.1
  omega
 ·
  simp
theorem fold_take {α β : Type} {f : β → α → β} {l : List α} {k : Nat} {x : α} (h : l[k]? = some x) (b : β) : (l.take (k + 1)).foldl f b = f ((l.take k).foldl f b) x := by
 rw [List.take_add_one, h]
 simp
theorem addF_no {ext t0 x : Int} {out : List TFlow} (h : (x != t0) = false) : addF ext t0 out x = out := by unfold addF; rw [h]; rfl
theorem addF_has {ext t0 x : Int} {out : List TFlow} (h : (out.any fun y => decide ((⟨ext, x, t0⟩ : TFlow) = y)) = true) : addF ext t0 out x = out := by unfold addF; rw [h]; simp
theorem addF_new {ext t0 x : Int} {out : List TFlow} (h1 : (x != t0) = true) (h : (out.any fun y => decide ((⟨ext, x, t0⟩ : TFlow) = y)) = false) : addF ext t0 out x = out ++ [⟨ext, x, t0⟩] := by unfold addF; rw [h1, h]; rfl
theorem mOwn_in {x z : Int} (h : z ∈ mOwn x) : 1 ≤ z ∧ z ≤ 9 := by
 unfold mOwn at h
 rw [List.mem_filter] at h
 have := h.1
 simp only [rangeI, List.mem_map, List.mem_range] at this
 obtain ⟨j, hj, rfl⟩ := this
 omega
end Go.Proofs.YtkedacmpmancbaaGreatDoor
