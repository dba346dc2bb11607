/- The law FnExactOpenWindow answers true for every argument, and leaves each argument as it was. No condition. -/
import Derived.Deep.RegionHeld3
import Derived.Deep.DeepCutAuto
import Derived.Test.YtmdmihilhilkiaaRWindow
import Derived.Test.YtmdmihilhilkiaaTStored
import Derived.Test.YtmdmihilhilkiaaOpenW
namespace Go.Proofs.Ytmdmihilhilkiaa.fnExactOpenWindow
open Go Go.ChangeShapes Go.WideShapes Go.ChangeAt Go.RowKit Go.Lib
open Go.ChangeMaps (open_string)
set_option linter.unusedVariables false
set_option linter.unusedSimpArgs false
set_option maxRecDepth 100000

set_option maxRecDepth 100000 in
set_option maxHeartbeats 20000000 in
theorem walk (l0 : List TStored) (A0 : Option Addr) (n0 c0 : Nat) (a1 : Bool) (w : World) (hm0 : n0 ≤ maxLen) (R0 : Rd w 0 w.heap.size 4 A0 n0 (cStored l0)) (H0 : Hid (cStoredOk l0)) :
    Calls Try.prog 8 #[.slice A0 n0 c0, .bool a1] w fun e w' => e = .returned (.bool true) ∧ Below w.heap.size w w' := by
  have hm0 : n0 ≤ 9223372036854775807 := hm0
  by_cases hz0 : n0 ≤ 1048576
  · skip
    have hl0 : (mOWb l0).length ≤ 1073741823 := by (have := rd_len TStored.len R0 (by decide); have := mOWb_len l0; omega)
    have hl1 : (noSt).length ≤ 1073741823 := by decide
    have hqn0 : n0 ≤ 17179869184 := by omega
    have G : Below w.heap.size w w := Below.refl _ _
    have S0 := Lib.hid (show w.heap.size = w.heap.size from rfl)
    go_enter Try.func8, Try.ntmps8
    go_wp2_with fail
    refine Calls.mono (sz_stored A0 n0 c0 (1048576) _ hm0 (by omega) (by omega)) ?_
    rintro e w1 hq
    obtain ⟨rfl, B1⟩ := hq.says
    replace R0 := (R0).new B1
    replace G := below_trans G B1 (Nat.le_refl _)
    have S1 := Lib.hid (show w.heap.size + 0 ≤ w1.heap.size by have := B1.size; first | (simpa using this) | ((try simp at this); omega))
    clear B1
    go_wp2_with fail
    refine Calls.mono (to_stored l0 A0 n0 c0 _ _ _ hqn0 R0) ?_
    rintro e w2 ⟨T2, tc2, rfl, FT2, B2⟩
    replace R0 := (R0).new B2
    replace G := below_trans G B2 (Nat.le_refl _)
    have S2 := Lib.hid (show w1.heap.size + 0 ≤ w2.heap.size by have := B2.size; first | (simpa using this) | ((try simp at this); omega))
    clear B2
    go_wp2_with fail
    refine Calls.mono (spec_OpenWindow l0 T2 n0 tc2 _ _ a1 _ (by omega) FT2.rd FT2.cap H0) ?_
    rintro e w3 ⟨P3_0_1, P3_0_2, pc3_0_1, plo3_0_1, phi3_0_1, pc3_0_2, plo3_0_2, phi3_0_2, rfl, FP3_0_1, FP3_0_2, MP3_0, B3⟩
    replace R0 := (R0).new B3
    replace FT2 := (FT2).new B3
    replace G := below_trans G B3 (Nat.le_refl _)
    have S3 := Lib.hid (show w2.heap.size + 0 ≤ w3.heap.size by have := B3.size; first | (simpa using this) | ((try simp at this); omega))
    clear B3
    clear FT2
    have SA5 := Lib.hid (show (w3.alloc (.cells #[.bool (mOWp l0 a1), .slice P3_0_1 ((mOWb l0).length) pc3_0_1, .slice P3_0_2 ((noSt).length) pc3_0_2] 31)).heap.size = w3.heap.size + 1 by simp)
    replace R0 := R0.alloc (.cells #[.bool (mOWp l0 a1), .slice P3_0_1 ((mOWb l0).length) pc3_0_1, .slice P3_0_2 ((noSt).length) pc3_0_2] 31)
    replace FP3_0_1 := FP3_0_1.alloc (.cells #[.bool (mOWp l0 a1), .slice P3_0_1 ((mOWb l0).length) pc3_0_1, .slice P3_0_2 ((noSt).length) pc3_0_2] 31)
    replace FP3_0_2 := FP3_0_2.alloc (.cells #[.bool (mOWp l0 a1), .slice P3_0_1 ((mOWb l0).length) pc3_0_1, .slice P3_0_2 ((noSt).length) pc3_0_2] 31)
    have KX4 : BoxAt (w3.alloc (.cells #[.bool (mOWp l0 a1), .slice P3_0_1 ((mOWb l0).length) pc3_0_1, .slice P3_0_2 ((noSt).length) pc3_0_2] 31)) (w3.heap.size) 31 #[.bool (mOWp l0 a1), .slice P3_0_1 ((mOWb l0).length) pc3_0_1, .slice P3_0_2 ((noSt).length) pc3_0_2] := box_new _ _ _
    replace G := G.alloc (by have := S0.out; have := S1.out; have := S2.out; have := S3.out; have := SA5.out; have := MP3_0.out; unfold SepWindow at this; first | omega | (simp; omega)) (.cells #[.bool (mOWp l0 a1), .slice P3_0_1 ((mOWb l0).length) pc3_0_1, .slice P3_0_2 ((noSt).length) pc3_0_2] 31)
    go_wp2_with fail
    refine Calls.mono (to_stored l0 A0 n0 c0 _ _ _ hqn0 R0) ?_
    rintro e w4 ⟨T6, tc6, rfl, FT6, B6⟩
    replace R0 := (R0).new B6
    replace FP3_0_1 := (FP3_0_1).new B6
    replace FP3_0_2 := (FP3_0_2).new B6
    replace KX4 := (KX4).new B6
    replace G := below_trans G B6 (Nat.le_refl _)
    have S4 := Lib.hid (show (w3.alloc (.cells #[.bool (mOWp l0 a1), .slice P3_0_1 ((mOWb l0).length) pc3_0_1, .slice P3_0_2 ((noSt).length) pc3_0_2] 31)).heap.size + 0 ≤ w4.heap.size by have := B6.size; first | (simpa using this) | ((try simp at this); omega))
    clear B6
    go_wp2_with fail
    refine Calls.mono (impl_OpenWindowC l0 T6 n0 tc6 _ _ a1 _ (by omega) FT6.rd FT6.cap H0) ?_
    rintro e w5 ⟨P7_0_1, P7_0_2, pc7_0_1, plo7_0_1, phi7_0_1, pc7_0_2, plo7_0_2, phi7_0_2, rfl, FP7_0_1, FP7_0_2, MP7_0, B7⟩
    replace R0 := (R0).new B7
    replace FP3_0_1 := (FP3_0_1).new B7
    replace FP3_0_2 := (FP3_0_2).new B7
    replace KX4 := (KX4).new B7
    replace FT6 := (FT6).new B7
    replace G := below_trans G B7 (Nat.le_refl _)
    have S5 := Lib.hid (show w4.heap.size + 0 ≤ w5.heap.size by have := B7.size; first | (simpa using this) | ((try simp at this); omega))
    clear B7
    have SA9 := Lib.hid (show (w5.alloc (.cells #[.bool (mOWp l0 a1), .slice P7_0_1 ((mOWb l0).length) pc7_0_1, .slice P7_0_2 ((noSt).length) pc7_0_2] 31)).heap.size = w5.heap.size + 1 by simp)
    replace R0 := R0.alloc (.cells #[.bool (mOWp l0 a1), .slice P7_0_1 ((mOWb l0).length) pc7_0_1, .slice P7_0_2 ((noSt).length) pc7_0_2] 31)
    replace FP3_0_1 := FP3_0_1.alloc (.cells #[.bool (mOWp l0 a1), .slice P7_0_1 ((mOWb l0).length) pc7_0_1, .slice P7_0_2 ((noSt).length) pc7_0_2] 31)
    replace FP3_0_2 := FP3_0_2.alloc (.cells #[.bool (mOWp l0 a1), .slice P7_0_1 ((mOWb l0).length) pc7_0_1, .slice P7_0_2 ((noSt).length) pc7_0_2] 31)
    replace KX4 := KX4.alloc_ (.cells #[.bool (mOWp l0 a1), .slice P7_0_1 ((mOWb l0).length) pc7_0_1, .slice P7_0_2 ((noSt).length) pc7_0_2] 31)
    replace FT6 := FT6.alloc (.cells #[.bool (mOWp l0 a1), .slice P7_0_1 ((mOWb l0).length) pc7_0_1, .slice P7_0_2 ((noSt).length) pc7_0_2] 31)
    replace FP7_0_1 := FP7_0_1.alloc (.cells #[.bool (mOWp l0 a1), .slice P7_0_1 ((mOWb l0).length) pc7_0_1, .slice P7_0_2 ((noSt).length) pc7_0_2] 31)
    replace FP7_0_2 := FP7_0_2.alloc (.cells #[.bool (mOWp l0 a1), .slice P7_0_1 ((mOWb l0).length) pc7_0_1, .slice P7_0_2 ((noSt).length) pc7_0_2] 31)
    have KX8 : BoxAt (w5.alloc (.cells #[.bool (mOWp l0 a1), .slice P7_0_1 ((mOWb l0).length) pc7_0_1, .slice P7_0_2 ((noSt).length) pc7_0_2] 31)) (w5.heap.size) 31 #[.bool (mOWp l0 a1), .slice P7_0_1 ((mOWb l0).length) pc7_0_1, .slice P7_0_2 ((noSt).length) pc7_0_2] := box_new _ _ _
    replace G := G.alloc (by have := S0.out; have := S1.out; have := S2.out; have := S3.out; have := SA5.out; have := S4.out; have := S5.out; have := SA9.out; have := MP3_0.out; unfold SepWindow at this; have := MP7_0.out; unfold SepWindow at this; first | omega | (simp; omega)) (.cells #[.bool (mOWp l0 a1), .slice P7_0_1 ((mOWb l0).length) pc7_0_1, .slice P7_0_2 ((noSt).length) pc7_0_2] 31)
    have xKX8_0 : (w5.alloc (.cells #[.bool (mOWp l0 a1), .slice P7_0_1 ((mOWb l0).length) pc7_0_1, .slice P7_0_2 ((noSt).length) pc7_0_2] 31)).cell? ⟨w5.heap.size, 0, none⟩ = some (.bool (mOWp l0 a1)) := KX8.at_ rfl
    have xKX8_1 : (w5.alloc (.cells #[.bool (mOWp l0 a1), .slice P7_0_1 ((mOWb l0).length) pc7_0_1, .slice P7_0_2 ((noSt).length) pc7_0_2] 31)).cell? ⟨w5.heap.size, 1, none⟩ = some (.slice P7_0_1 ((mOWb l0).length) pc7_0_1) := KX8.at_ rfl
    have xKX8_2 : (w5.alloc (.cells #[.bool (mOWp l0 a1), .slice P7_0_1 ((mOWb l0).length) pc7_0_1, .slice P7_0_2 ((noSt).length) pc7_0_2] 31)).cell? ⟨w5.heap.size, 2, none⟩ = some (.slice P7_0_2 ((noSt).length) pc7_0_2) := KX8.at_ rfl
    have xKX4_0 : (w5.alloc (.cells #[.bool (mOWp l0 a1), .slice P7_0_1 ((mOWb l0).length) pc7_0_1, .slice P7_0_2 ((noSt).length) pc7_0_2] 31)).cell? ⟨w3.heap.size, 0, none⟩ = some (.bool (mOWp l0 a1)) := KX4.at_ rfl
    have xKX4_1 : (w5.alloc (.cells #[.bool (mOWp l0 a1), .slice P7_0_1 ((mOWb l0).length) pc7_0_1, .slice P7_0_2 ((noSt).length) pc7_0_2] 31)).cell? ⟨w3.heap.size, 1, none⟩ = some (.slice P3_0_1 ((mOWb l0).length) pc3_0_1) := KX4.at_ rfl
    have xKX4_2 : (w5.alloc (.cells #[.bool (mOWp l0 a1), .slice P7_0_1 ((mOWb l0).length) pc7_0_1, .slice P7_0_2 ((noSt).length) pc7_0_2] 31)).cell? ⟨w3.heap.size, 2, none⟩ = some (.slice P3_0_2 ((noSt).length) pc3_0_2) := KX4.at_ rfl
    go_wp2_with fail
    refine Calls.mono (eq_window_same (mOWp l0 a1) (mOWb l0) ((mOWb l0).length) P7_0_1 P3_0_1 pc7_0_1 pc3_0_1 _ _ _ _ noSt ((noSt).length) P7_0_2 P3_0_2 pc7_0_2 pc3_0_2 _ _ _ _ _ (by omega) (by omega) FP7_0_1.rd FP7_0_2.rd FP3_0_1.rd FP3_0_2.rd) ?_
    rintro e w6 ⟨rfl, B10⟩
    replace R0 := (R0).new B10
    replace FP3_0_1 := (FP3_0_1).new B10
    replace FP3_0_2 := (FP3_0_2).new B10
    replace KX4 := (KX4).new B10
    replace FT6 := (FT6).new B10
    replace FP7_0_1 := (FP7_0_1).new B10
    replace FP7_0_2 := (FP7_0_2).new B10
    replace KX8 := (KX8).new B10
    replace G := below_trans G B10 (Nat.le_refl _)
    have S6 := Lib.hid (show (w5.alloc (.cells #[.bool (mOWp l0 a1), .slice P7_0_1 ((mOWb l0).length) pc7_0_1, .slice P7_0_2 ((noSt).length) pc7_0_2] 31)).heap.size + 0 ≤ w6.heap.size by have := B10.size; first | (simpa using this) | ((try simp at this); omega))
    clear B10
    clear xKX8_0 xKX8_1 xKX8_2 xKX4_0 xKX4_1 xKX4_2
    go_wp2_with fail
    refine Calls.mono (to_stored l0 A0 n0 c0 _ _ _ hqn0 R0) ?_
    rintro e w7 ⟨T11, tc11, rfl, FT11, B11⟩
    replace R0 := (R0).new B11
    replace FP3_0_1 := (FP3_0_1).new B11
    replace FP3_0_2 := (FP3_0_2).new B11
    replace KX4 := (KX4).new B11
    replace FT6 := (FT6).new B11
    replace FP7_0_1 := (FP7_0_1).new B11
    replace FP7_0_2 := (FP7_0_2).new B11
    replace KX8 := (KX8).new B11
    replace G := below_trans G B11 (Nat.le_refl _)
    have S7 := Lib.hid (show w6.heap.size + 0 ≤ w7.heap.size by have := B11.size; first | (simpa using this) | ((try simp at this); omega))
    clear B11
    go_wp2_with fail
    refine Calls.mono (eq_stored_same l0 T6 T11 n0 n0 tc6 tc11 _ _ _ _ _ (by omega) (by omega) FT6.rd FT11.rd) ?_
    rintro e w8 ⟨rfl, B12⟩
    replace R0 := (R0).new B12
    replace FP3_0_1 := (FP3_0_1).new B12
    replace FP3_0_2 := (FP3_0_2).new B12
    replace KX4 := (KX4).new B12
    replace FT6 := (FT6).new B12
    replace FP7_0_1 := (FP7_0_1).new B12
    replace FP7_0_2 := (FP7_0_2).new B12
    replace KX8 := (KX8).new B12
    replace FT11 := (FT11).new B12
    replace G := below_trans G B12 (Nat.le_refl _)
    have S8 := Lib.hid (show w7.heap.size + 0 ≤ w8.heap.size by have := B12.size; first | (simpa using this) | ((try simp at this); omega))
    clear B12
    clear FT11
    go_wp2_with fail
    refine Calls.mono (mark_stored _ T6 n0 tc6 _ _ (1) _ (by omega) (by omega) FT6) ?_
    rintro e w9 ⟨rfl, FM13, B13, E13⟩
    replace R0 := (R0).chg B13 (by have := S0.out; have := S1.out; have := S2.out; have := S3.out; have := SA5.out; have := S4.out; have := S5.out; have := SA9.out; have := S6.out; have := S7.out; have := S8.out; have := MP3_0.out; unfold SepWindow at this; have := MP7_0.out; unfold SepWindow at this; omega)
    replace FP3_0_1 := (FP3_0_1).chg B13 (by have := S0.out; have := S1.out; have := S2.out; have := S3.out; have := SA5.out; have := S4.out; have := S5.out; have := SA9.out; have := S6.out; have := S7.out; have := S8.out; have := MP3_0.out; unfold SepWindow at this; have := MP7_0.out; unfold SepWindow at this; omega)
    replace FP3_0_2 := (FP3_0_2).chg B13 (by have := S0.out; have := S1.out; have := S2.out; have := S3.out; have := SA5.out; have := S4.out; have := S5.out; have := SA9.out; have := S6.out; have := S7.out; have := S8.out; have := MP3_0.out; unfold SepWindow at this; have := MP7_0.out; unfold SepWindow at this; omega)
    replace KX4 := (KX4).chg B13 (by have := S0.out; have := S1.out; have := S2.out; have := S3.out; have := SA5.out; have := S4.out; have := S5.out; have := SA9.out; have := S6.out; have := S7.out; have := S8.out; have := MP3_0.out; unfold SepWindow at this; have := MP7_0.out; unfold SepWindow at this; omega)
    replace FP7_0_1 := (FP7_0_1).chg B13 (by have := S0.out; have := S1.out; have := S2.out; have := S3.out; have := SA5.out; have := S4.out; have := S5.out; have := SA9.out; have := S6.out; have := S7.out; have := S8.out; have := MP3_0.out; unfold SepWindow at this; have := MP7_0.out; unfold SepWindow at this; omega)
    replace FP7_0_2 := (FP7_0_2).chg B13 (by have := S0.out; have := S1.out; have := S2.out; have := S3.out; have := SA5.out; have := S4.out; have := S5.out; have := SA9.out; have := S6.out; have := S7.out; have := S8.out; have := MP3_0.out; unfold SepWindow at this; have := MP7_0.out; unfold SepWindow at this; omega)
    replace KX8 := (KX8).chg B13 (by have := S0.out; have := S1.out; have := S2.out; have := S3.out; have := SA5.out; have := S4.out; have := S5.out; have := SA9.out; have := S6.out; have := S7.out; have := S8.out; have := MP3_0.out; unfold SepWindow at this; have := MP7_0.out; unfold SepWindow at this; omega)
    replace G := G.trans (B13.below (.inl (by have := S0.out; have := S1.out; have := S2.out; have := S3.out; have := SA5.out; have := S4.out; have := S5.out; have := SA9.out; have := S6.out; have := S7.out; have := S8.out; have := MP3_0.out; unfold SepWindow at this; have := MP7_0.out; unfold SepWindow at this; omega)) (by have := S0.out; have := S1.out; have := S2.out; have := S3.out; have := SA5.out; have := S4.out; have := S5.out; have := SA9.out; have := S6.out; have := S7.out; have := S8.out; have := MP3_0.out; unfold SepWindow at this; have := MP7_0.out; unfold SepWindow at this; first | omega | (simp; omega)))
    have S9 := Lib.hid (show w8.heap.size + 0 ≤ w9.heap.size by have := B13.size; first | (simpa using this) | ((try simp at this); omega))
    clear FT6
    clear E13
    clear B13
    have xKX8_0 : w9.cell? ⟨w5.heap.size, 0, none⟩ = some (.bool (mOWp l0 a1)) := KX8.at_ rfl
    have xKX8_1 : w9.cell? ⟨w5.heap.size, 1, none⟩ = some (.slice P7_0_1 ((mOWb l0).length) pc7_0_1) := KX8.at_ rfl
    have xKX8_2 : w9.cell? ⟨w5.heap.size, 2, none⟩ = some (.slice P7_0_2 ((noSt).length) pc7_0_2) := KX8.at_ rfl
    have xKX4_0 : w9.cell? ⟨w3.heap.size, 0, none⟩ = some (.bool (mOWp l0 a1)) := KX4.at_ rfl
    have xKX4_1 : w9.cell? ⟨w3.heap.size, 1, none⟩ = some (.slice P3_0_1 ((mOWb l0).length) pc3_0_1) := KX4.at_ rfl
    have xKX4_2 : w9.cell? ⟨w3.heap.size, 2, none⟩ = some (.slice P3_0_2 ((noSt).length) pc3_0_2) := KX4.at_ rfl
    go_wp2_with fail
    refine Calls.mono (eq_window_same (mOWp l0 a1) (mOWb l0) ((mOWb l0).length) P7_0_1 P3_0_1 pc7_0_1 pc3_0_1 _ _ _ _ noSt ((noSt).length) P7_0_2 P3_0_2 pc7_0_2 pc3_0_2 _ _ _ _ _ (by omega) (by omega) FP7_0_1.rd FP7_0_2.rd FP3_0_1.rd FP3_0_2.rd) ?_
    rintro e w10 ⟨rfl, B14⟩
    replace R0 := (R0).new B14
    replace FP3_0_1 := (FP3_0_1).new B14
    replace FP3_0_2 := (FP3_0_2).new B14
    replace KX4 := (KX4).new B14
    replace FP7_0_1 := (FP7_0_1).new B14
    replace FP7_0_2 := (FP7_0_2).new B14
    replace KX8 := (KX8).new B14
    replace FM13 := (FM13).new B14
    replace G := below_trans G B14 (Nat.le_refl _)
    have S10 := Lib.hid (show w9.heap.size + 0 ≤ w10.heap.size by have := B14.size; first | (simpa using this) | ((try simp at this); omega))
    clear B14
    clear xKX8_0 xKX8_1 xKX8_2 xKX4_0 xKX4_1 xKX4_2
    have xKX8_0 : w10.cell? ⟨w5.heap.size, 0, none⟩ = some (.bool (mOWp l0 a1)) := KX8.at_ rfl
    have xKX8_1 : w10.cell? ⟨w5.heap.size, 1, none⟩ = some (.slice P7_0_1 ((mOWb l0).length) pc7_0_1) := KX8.at_ rfl
    have xKX8_2 : w10.cell? ⟨w5.heap.size, 2, none⟩ = some (.slice P7_0_2 ((noSt).length) pc7_0_2) := KX8.at_ rfl
    go_wp2_with fail
    refine Calls.mono (mark_window (mOWp l0 a1) _ P7_0_1 ((mOWb l0).length) pc7_0_1 _ _ _ P7_0_2 ((noSt).length) pc7_0_2 _ _ (1) w4.heap.size w5.heap.size _ (by omega) (by omega) (by omega) (by have := S0.out; have := S1.out; have := S2.out; have := S3.out; have := SA5.out; have := S4.out; have := S5.out; have := SA9.out; have := S6.out; have := S7.out; have := S8.out; have := S9.out; have := S10.out; have := MP3_0.out; unfold SepWindow at this; have := MP7_0.out; unfold SepWindow at this; omega) MP7_0 FP7_0_1 FP7_0_2) ?_
    rintro e w11 ⟨rfl, FM15_1, FM15_2, B15⟩
    replace R0 := (R0).chg B15 (by have := S0.out; have := S1.out; have := S2.out; have := S3.out; have := SA5.out; have := S4.out; have := S5.out; have := SA9.out; have := S6.out; have := S7.out; have := S8.out; have := S9.out; have := S10.out; have := MP3_0.out; unfold SepWindow at this; have := MP7_0.out; unfold SepWindow at this; omega)
    replace FP3_0_1 := (FP3_0_1).chg B15 (by have := S0.out; have := S1.out; have := S2.out; have := S3.out; have := SA5.out; have := S4.out; have := S5.out; have := SA9.out; have := S6.out; have := S7.out; have := S8.out; have := S9.out; have := S10.out; have := MP3_0.out; unfold SepWindow at this; have := MP7_0.out; unfold SepWindow at this; omega)
    replace FP3_0_2 := (FP3_0_2).chg B15 (by have := S0.out; have := S1.out; have := S2.out; have := S3.out; have := SA5.out; have := S4.out; have := S5.out; have := SA9.out; have := S6.out; have := S7.out; have := S8.out; have := S9.out; have := S10.out; have := MP3_0.out; unfold SepWindow at this; have := MP7_0.out; unfold SepWindow at this; omega)
    replace KX4 := (KX4).chg B15 (by have := S0.out; have := S1.out; have := S2.out; have := S3.out; have := SA5.out; have := S4.out; have := S5.out; have := SA9.out; have := S6.out; have := S7.out; have := S8.out; have := S9.out; have := S10.out; have := MP3_0.out; unfold SepWindow at this; have := MP7_0.out; unfold SepWindow at this; omega)
    replace KX8 := (KX8).chg B15 (by have := S0.out; have := S1.out; have := S2.out; have := S3.out; have := SA5.out; have := S4.out; have := S5.out; have := SA9.out; have := S6.out; have := S7.out; have := S8.out; have := S9.out; have := S10.out; have := MP3_0.out; unfold SepWindow at this; have := MP7_0.out; unfold SepWindow at this; omega)
    replace FM13 := (FM13).chg B15 (by have := S0.out; have := S1.out; have := S2.out; have := S3.out; have := SA5.out; have := S4.out; have := S5.out; have := SA9.out; have := S6.out; have := S7.out; have := S8.out; have := S9.out; have := S10.out; have := MP3_0.out; unfold SepWindow at this; have := MP7_0.out; unfold SepWindow at this; omega)
    replace G := G.trans (B15.below (.inl (by have := S0.out; have := S1.out; have := S2.out; have := S3.out; have := SA5.out; have := S4.out; have := S5.out; have := SA9.out; have := S6.out; have := S7.out; have := S8.out; have := S9.out; have := S10.out; have := MP3_0.out; unfold SepWindow at this; have := MP7_0.out; unfold SepWindow at this; omega)) (by have := S0.out; have := S1.out; have := S2.out; have := S3.out; have := SA5.out; have := S4.out; have := S5.out; have := SA9.out; have := S6.out; have := S7.out; have := S8.out; have := S9.out; have := S10.out; have := MP3_0.out; unfold SepWindow at this; have := MP7_0.out; unfold SepWindow at this; first | omega | (simp; omega)))
    have S11 := Lib.hid (show w10.heap.size + 0 ≤ w11.heap.size by have := B15.size; first | (simpa using this) | ((try simp at this); omega))
    clear FP7_0_1
    clear FP7_0_2
    clear B15
    clear xKX8_0 xKX8_1 xKX8_2
    have xKX8_0 : w11.cell? ⟨w5.heap.size, 0, none⟩ = some (.bool (mOWp l0 a1)) := KX8.at_ rfl
    have xKX8_1 : w11.cell? ⟨w5.heap.size, 1, none⟩ = some (.slice P7_0_1 ((mOWb l0).length) pc7_0_1) := KX8.at_ rfl
    have xKX8_2 : w11.cell? ⟨w5.heap.size, 2, none⟩ = some (.slice P7_0_2 ((noSt).length) pc7_0_2) := KX8.at_ rfl
    go_wp2_with fail
    refine Calls.mono (held_window (mOWp l0 a1) P7_0_1 ((mOWb l0).length) pc7_0_1 _ _ P7_0_2 ((noSt).length) pc7_0_2 _ _ (1) _ (by omega) (by omega) (by omega) FM15_1.rd FM15_2.rd) ?_
    rintro e w12 ⟨rfl, B16⟩
    replace R0 := (R0).new B16
    replace FP3_0_1 := (FP3_0_1).new B16
    replace FP3_0_2 := (FP3_0_2).new B16
    replace KX4 := (KX4).new B16
    replace KX8 := (KX8).new B16
    replace FM13 := (FM13).new B16
    replace FM15_1 := (FM15_1).new B16
    replace FM15_2 := (FM15_2).new B16
    replace G := below_trans G B16 (Nat.le_refl _)
    have S12 := Lib.hid (show w11.heap.size + 0 ≤ w12.heap.size by have := B16.size; first | (simpa using this) | ((try simp at this); omega))
    clear B16
    clear xKX8_0 xKX8_1 xKX8_2
    go_wp2_with fail
    refine Calls.mono (to_stored l0 A0 n0 c0 _ _ _ hqn0 R0) ?_
    rintro e w13 ⟨T17, tc17, rfl, FT17, B17⟩
    replace R0 := (R0).new B17
    replace FP3_0_1 := (FP3_0_1).new B17
    replace FP3_0_2 := (FP3_0_2).new B17
    replace KX4 := (KX4).new B17
    replace KX8 := (KX8).new B17
    replace FM13 := (FM13).new B17
    replace FM15_1 := (FM15_1).new B17
    replace FM15_2 := (FM15_2).new B17
    replace G := below_trans G B17 (Nat.le_refl _)
    have S13 := Lib.hid (show w12.heap.size + 0 ≤ w13.heap.size by have := B17.size; first | (simpa using this) | ((try simp at this); omega))
    clear B17
    go_wp2_with fail
    refine Calls.mono (impl_OpenWindowC l0 T17 n0 tc17 _ _ a1 _ (by omega) FT17.rd FT17.cap H0) ?_
    rintro e w14 ⟨P18_0_1, P18_0_2, pc18_0_1, plo18_0_1, phi18_0_1, pc18_0_2, plo18_0_2, phi18_0_2, rfl, FP18_0_1, FP18_0_2, MP18_0, B18⟩
    replace R0 := (R0).new B18
    replace FP3_0_1 := (FP3_0_1).new B18
    replace FP3_0_2 := (FP3_0_2).new B18
    replace KX4 := (KX4).new B18
    replace KX8 := (KX8).new B18
    replace FM13 := (FM13).new B18
    replace FM15_1 := (FM15_1).new B18
    replace FM15_2 := (FM15_2).new B18
    replace FT17 := (FT17).new B18
    replace G := below_trans G B18 (Nat.le_refl _)
    have S14 := Lib.hid (show w13.heap.size + 0 ≤ w14.heap.size by have := B18.size; first | (simpa using this) | ((try simp at this); omega))
    clear B18
    have SA20 := Lib.hid (show (w14.alloc (.cells #[.bool (mOWp l0 a1), .slice P18_0_1 ((mOWb l0).length) pc18_0_1, .slice P18_0_2 ((noSt).length) pc18_0_2] 31)).heap.size = w14.heap.size + 1 by simp)
    replace R0 := R0.alloc (.cells #[.bool (mOWp l0 a1), .slice P18_0_1 ((mOWb l0).length) pc18_0_1, .slice P18_0_2 ((noSt).length) pc18_0_2] 31)
    replace FP3_0_1 := FP3_0_1.alloc (.cells #[.bool (mOWp l0 a1), .slice P18_0_1 ((mOWb l0).length) pc18_0_1, .slice P18_0_2 ((noSt).length) pc18_0_2] 31)
    replace FP3_0_2 := FP3_0_2.alloc (.cells #[.bool (mOWp l0 a1), .slice P18_0_1 ((mOWb l0).length) pc18_0_1, .slice P18_0_2 ((noSt).length) pc18_0_2] 31)
    replace KX4 := KX4.alloc_ (.cells #[.bool (mOWp l0 a1), .slice P18_0_1 ((mOWb l0).length) pc18_0_1, .slice P18_0_2 ((noSt).length) pc18_0_2] 31)
    replace KX8 := KX8.alloc_ (.cells #[.bool (mOWp l0 a1), .slice P18_0_1 ((mOWb l0).length) pc18_0_1, .slice P18_0_2 ((noSt).length) pc18_0_2] 31)
    replace FM13 := FM13.alloc (.cells #[.bool (mOWp l0 a1), .slice P18_0_1 ((mOWb l0).length) pc18_0_1, .slice P18_0_2 ((noSt).length) pc18_0_2] 31)
    replace FM15_1 := FM15_1.alloc (.cells #[.bool (mOWp l0 a1), .slice P18_0_1 ((mOWb l0).length) pc18_0_1, .slice P18_0_2 ((noSt).length) pc18_0_2] 31)
    replace FM15_2 := FM15_2.alloc (.cells #[.bool (mOWp l0 a1), .slice P18_0_1 ((mOWb l0).length) pc18_0_1, .slice P18_0_2 ((noSt).length) pc18_0_2] 31)
    replace FT17 := FT17.alloc (.cells #[.bool (mOWp l0 a1), .slice P18_0_1 ((mOWb l0).length) pc18_0_1, .slice P18_0_2 ((noSt).length) pc18_0_2] 31)
    replace FP18_0_1 := FP18_0_1.alloc (.cells #[.bool (mOWp l0 a1), .slice P18_0_1 ((mOWb l0).length) pc18_0_1, .slice P18_0_2 ((noSt).length) pc18_0_2] 31)
    replace FP18_0_2 := FP18_0_2.alloc (.cells #[.bool (mOWp l0 a1), .slice P18_0_1 ((mOWb l0).length) pc18_0_1, .slice P18_0_2 ((noSt).length) pc18_0_2] 31)
    have KX19 : BoxAt (w14.alloc (.cells #[.bool (mOWp l0 a1), .slice P18_0_1 ((mOWb l0).length) pc18_0_1, .slice P18_0_2 ((noSt).length) pc18_0_2] 31)) (w14.heap.size) 31 #[.bool (mOWp l0 a1), .slice P18_0_1 ((mOWb l0).length) pc18_0_1, .slice P18_0_2 ((noSt).length) pc18_0_2] := box_new _ _ _
    replace G := G.alloc (by have := S0.out; have := S1.out; have := S2.out; have := S3.out; have := SA5.out; have := S4.out; have := S5.out; have := SA9.out; have := S6.out; have := S7.out; have := S8.out; have := S9.out; have := S10.out; have := S11.out; have := S12.out; have := S13.out; have := S14.out; have := SA20.out; have := MP3_0.out; unfold SepWindow at this; have := MP7_0.out; unfold SepWindow at this; have := MP18_0.out; unfold SepWindow at this; first | omega | (simp; omega)) (.cells #[.bool (mOWp l0 a1), .slice P18_0_1 ((mOWb l0).length) pc18_0_1, .slice P18_0_2 ((noSt).length) pc18_0_2] 31)
    have xKX19_0 : (w14.alloc (.cells #[.bool (mOWp l0 a1), .slice P18_0_1 ((mOWb l0).length) pc18_0_1, .slice P18_0_2 ((noSt).length) pc18_0_2] 31)).cell? ⟨w14.heap.size, 0, none⟩ = some (.bool (mOWp l0 a1)) := KX19.at_ rfl
    have xKX19_1 : (w14.alloc (.cells #[.bool (mOWp l0 a1), .slice P18_0_1 ((mOWb l0).length) pc18_0_1, .slice P18_0_2 ((noSt).length) pc18_0_2] 31)).cell? ⟨w14.heap.size, 1, none⟩ = some (.slice P18_0_1 ((mOWb l0).length) pc18_0_1) := KX19.at_ rfl
    have xKX19_2 : (w14.alloc (.cells #[.bool (mOWp l0 a1), .slice P18_0_1 ((mOWb l0).length) pc18_0_1, .slice P18_0_2 ((noSt).length) pc18_0_2] 31)).cell? ⟨w14.heap.size, 2, none⟩ = some (.slice P18_0_2 ((noSt).length) pc18_0_2) := KX19.at_ rfl
    have xKX4_0 : (w14.alloc (.cells #[.bool (mOWp l0 a1), .slice P18_0_1 ((mOWb l0).length) pc18_0_1, .slice P18_0_2 ((noSt).length) pc18_0_2] 31)).cell? ⟨w3.heap.size, 0, none⟩ = some (.bool (mOWp l0 a1)) := KX4.at_ rfl
    have xKX4_1 : (w14.alloc (.cells #[.bool (mOWp l0 a1), .slice P18_0_1 ((mOWb l0).length) pc18_0_1, .slice P18_0_2 ((noSt).length) pc18_0_2] 31)).cell? ⟨w3.heap.size, 1, none⟩ = some (.slice P3_0_1 ((mOWb l0).length) pc3_0_1) := KX4.at_ rfl
    have xKX4_2 : (w14.alloc (.cells #[.bool (mOWp l0 a1), .slice P18_0_1 ((mOWb l0).length) pc18_0_1, .slice P18_0_2 ((noSt).length) pc18_0_2] 31)).cell? ⟨w3.heap.size, 2, none⟩ = some (.slice P3_0_2 ((noSt).length) pc3_0_2) := KX4.at_ rfl
    go_wp2_with fail
    refine Calls.mono (eq_window_same (mOWp l0 a1) (mOWb l0) ((mOWb l0).length) P18_0_1 P3_0_1 pc18_0_1 pc3_0_1 _ _ _ _ noSt ((noSt).length) P18_0_2 P3_0_2 pc18_0_2 pc3_0_2 _ _ _ _ _ (by omega) (by omega) FP18_0_1.rd FP18_0_2.rd FP3_0_1.rd FP3_0_2.rd) ?_
    rintro e w15 ⟨rfl, B21⟩
    replace R0 := (R0).new B21
    replace FP3_0_1 := (FP3_0_1).new B21
    replace FP3_0_2 := (FP3_0_2).new B21
    replace KX4 := (KX4).new B21
    replace KX8 := (KX8).new B21
    replace FM13 := (FM13).new B21
    replace FM15_1 := (FM15_1).new B21
    replace FM15_2 := (FM15_2).new B21
    replace FT17 := (FT17).new B21
    replace FP18_0_1 := (FP18_0_1).new B21
    replace FP18_0_2 := (FP18_0_2).new B21
    replace KX19 := (KX19).new B21
    replace G := below_trans G B21 (Nat.le_refl _)
    have S15 := Lib.hid (show (w14.alloc (.cells #[.bool (mOWp l0 a1), .slice P18_0_1 ((mOWb l0).length) pc18_0_1, .slice P18_0_2 ((noSt).length) pc18_0_2] 31)).heap.size + 0 ≤ w15.heap.size by have := B21.size; first | (simpa using this) | ((try simp at this); omega))
    clear B21
    clear xKX19_0 xKX19_1 xKX19_2 xKX4_0 xKX4_1 xKX4_2
    have xKX8_0 : w15.cell? ⟨w5.heap.size, 0, none⟩ = some (.bool (mOWp l0 a1)) := KX8.at_ rfl
    have xKX8_1 : w15.cell? ⟨w5.heap.size, 1, none⟩ = some (.slice P7_0_1 ((mOWb l0).length) pc7_0_1) := KX8.at_ rfl
    have xKX8_2 : w15.cell? ⟨w5.heap.size, 2, none⟩ = some (.slice P7_0_2 ((noSt).length) pc7_0_2) := KX8.at_ rfl
    go_wp2_with fail
    refine Calls.mono (held_window (mOWp l0 a1) P7_0_1 ((mOWb l0).length) pc7_0_1 _ _ P7_0_2 ((noSt).length) pc7_0_2 _ _ (1) _ (by omega) (by omega) (by omega) FM15_1.rd FM15_2.rd) ?_
    rintro e w16 ⟨rfl, B22⟩
    replace R0 := (R0).new B22
    replace FP3_0_1 := (FP3_0_1).new B22
    replace FP3_0_2 := (FP3_0_2).new B22
    replace KX4 := (KX4).new B22
    replace KX8 := (KX8).new B22
    replace FM13 := (FM13).new B22
    replace FM15_1 := (FM15_1).new B22
    replace FM15_2 := (FM15_2).new B22
    replace FT17 := (FT17).new B22
    replace FP18_0_1 := (FP18_0_1).new B22
    replace FP18_0_2 := (FP18_0_2).new B22
    replace KX19 := (KX19).new B22
    replace G := below_trans G B22 (Nat.le_refl _)
    have S16 := Lib.hid (show w15.heap.size + 0 ≤ w16.heap.size by have := B22.size; first | (simpa using this) | ((try simp at this); omega))
    clear B22
    clear xKX8_0 xKX8_1 xKX8_2
    go_wp2_with fail
    go_ret
    exact ⟨rfl, G⟩
  · skip
    have G : Below w.heap.size w w := Below.refl _ _
    have S0 := Lib.hid (show w.heap.size = w.heap.size from rfl)
    go_enter Try.func8, Try.ntmps8
    go_wp2_with fail
    refine (szno_stored A0 n0 c0 (1048576) _ hm0 (by omega) (by omega) (by omega)).mono ?_
    rintro e w1 hq
    obtain ⟨rfl, B23⟩ := hq.says
    go_wp2_with fail
    go_ret
    exact ⟨rfl, below_trans G B23 (Nat.le_refl _)⟩

set_option maxRecDepth 100000 in
theorem lifted (os : Os) (started : os.Started) (H : Type) (enc : TypeId × Value → H) :
    ReturnsInHanded {} Try.checked os 8 .any (Rows.fnExactOpenWindowSpec.pre6 enc Try.prog Try.f8 Rows.fnExactOpenWindowRow.domain false) (Rows.fnExactOpenWindowSpec.post enc Try.prog Try.f8 false true false false) := by
  refine law_lifted Try.func8 (by kernel_rfl) rfl rfl (by kernel_rfl) os started
    (ChangeSpec.witness6 (enc := enc) (C := Try.checked) false ⟨#[], #[.slice none 0 0, .bool false], []⟩ 8 (by kernel_rfl) (by kernel_rfl) (by kernel_rfl) (by kernel_rfl)) ?_
  intro W base args ds p hval hA hlt
  rw [Try.params8] at hA hval
  obtain ⟨v0, vs0, d0, ds0, p0, q0, hargs, rfl, rfl, h0, r0⟩ := trodAll_cons hA
  obtain ⟨v1, vs1, d1, ds1, p1, q1, rfl, rfl, rfl, h1, r1⟩ := trodAll_cons r0
  obtain ⟨rfl, rfl, rfl⟩ := trodAll_nil r1
  obtain rfl : args = #[v0, v1] := by cases args; simp_all
  obtain ⟨A0, n0, c0, l0, rfl, m0, R0, H0⟩ := open_stored_list (hval 0 24 v0 rfl rfl) h0 (fun x hx => hlt x (by simp [hx]))
  obtain ⟨a1, rfl, rfl, rfl⟩ := open_bool Try.underlying4 (hval 1 4 v1 rfl rfl) h1
  exact ⟨⟨rfl, rfl, rfl⟩, walk l0 A0 n0 c0 a1 W m0 R0 H0⟩

theorem over : Rows.fnExactOpenWindowRow.holds Try.pinned (OpenSpec.ofChange Rows.fnExactOpenWindowSpec) :=
  OpenClaim.holds_of_wide 8 Try.f8 rfl rfl rfl rfl rfl rfl rfl ⟨rfl, rfl, rfl, rfl, rfl⟩ rfl rfl rfl rfl rfl (by kernel_rfl) Try.func8 (by kernel_rfl)
    (of_decide_eq_true (by kernel_rfl)) (by unfold Func.isWrapper; first | (rw [if_pos (by decide +kernel)]; kernel_rfl) | (rw [if_neg (by decide +kernel)]; exact ⟨rfl, rfl⟩))
    (fun os started H enc _ => lifted os started H enc)

theorem proved : Rows.FnExactOpenWindowSaid := over
#print axioms proved
end Go.Proofs.Ytmdmihilhilkiaa.fnExactOpenWindow
