/- CpP, OwG, OwF, OwR, IsPackI, PkA, PkI, what is needed of it. -/
import Derived.Test.YtkedacmpmancbaaGreatDoorVFrame
import Derived.Test.YtkedacmpmancbaaGreatDoorVRPackage
import Derived.Test.YtkedacmpmancbaaGreatDoorVRq
import Derived.Test.YtkedacmpmancbaaGreatDoorVEFlow
import Derived.Test.YtkedacmpmancbaaGreatDoorVApp0
import Derived.Test.YtkedacmpmancbaaGreatDoorVReg
import Derived.Deep.RegionHeld3
import Derived.Test.YtkedacmpmancbaaGreatDoorVRgn
import Derived.Test.YtkedacmpmancbaaGreatDoorVGrant
import Derived.Test.YtkedacmpmancbaaGreatDoorVFun
import Derived.Deep.LoopGhost
import Derived.Test.YtkedacmpmancbaaGreatDoorVFlow
import Derived.Test.YtkedacmpmancbaaGreatDoorVRule
import Derived.Test.YtkedacmpmancbaaGreatDoorVAreOps2
import Derived.Test.YtkedacmpmancbaaGreatDoorVIn
import Derived.Test.YtkedacmpmancbaaGreatDoorVB2I
namespace Go.Proofs.YtkedacmpmancbaaGreatDoor
open Go Go.ChangeShapes Go.WideShapes Go.ChangeAt Go.RowKit Go.Lib
set_option linter.unusedVariables false
set_option linter.unusedSimpArgs false
set_option maxRecDepth 100000
theorem pk_put {w : World} {g : Nat} {t : TypeId} {cs : Array Value} (h : BoxAt w g t cs) (j : Nat) (v : Value) : BoxAt (w.setCell ⟨g, j, none⟩ v) g t (cs.setIfInBounds j v) := by
 unfold BoxAt at h ⊢
 simp [World.setCell, Array.getElem?_modify, h]
theorem pk_past {w : World} {g : Nat} {t : TypeId} {cs : Array Value} (h : BoxAt w g t cs) {p : Addr} {v : Value} (hp : p.block ≠ g) : BoxAt (w.setCell p v) g t cs :=
 (Below.heap_setCell w p v g (fun e => hp e.symm)).trans h
set_option maxHeartbeats 8000000 in
theorem impl_copyPackage (p0 p1 p2 : Int) (l3 : List TGrant) (A3 : Option Addr) (n3 c3 lo3 hi3 : Nat) (l4 : List TFlow) (A4 : Option Addr) (n4 c4 lo4 hi4 : Nat) (l5 : List TRule) (A5 : Option Addr) (n5 c5 lo5 hi5 : Nat) (l6 : List TOp) (A6 : Option Addr) (n6 c6 lo6 hi6 : Nat) (p7 : Int) (w : World) (h3 : n3 ≤ 1048576) (r3 : Rd w lo3 hi3 7 A3 n3 (cGrant l3)) (h4 : n4 ≤ 1048576) (r4 : Rd w lo4 hi4 3 A4 n4 (cFlow l4)) (h5 : n5 ≤ 1048576) (r5 : Rd w lo5 hi5 8 A5 n5 (cRule l5)) (h6 : n6 ≤ 1048576) (r6 : Rd w lo6 hi6 4 A6 n6 (cOp l6)) :
  Calls Tryz.prog 49 #[.agg #[.int .i64 p0, .int .i64 p1, .int .i64 p2, .slice A3 n3 c3, .slice A4 n4 c4, .slice A5 n5 c5, .slice A6 n6 c6, .int .i64 p7]] w (MakesPackage p0 p1 p2 n3 l3 n4 l4 n5 l5 n6 l6 p7 w) := by
 have R3 := Lib.hid r3
 have R4 := Lib.hid r4
 have R5 := Lib.hid r5
 have R6 := Lib.hid r6
 clear r3 r4 r5 r6
 have HB := Lib.hid (Below.refl w.heap.size w)
 have KB : Hid (BoxAt ((w.alloc (.cells #[.int .i64 p0, .int .i64 p1, .int .i64 p2, .slice A3 n3 c3, .slice A4 n4 c4, .slice A5 n5 c5, .slice A6 n6 c6, .int .i64 p7] 35)).alloc (.cells #[.int .i64 0, .int .i64 0, .int .i64 0, .slice none 0 0, .slice none 0 0, .slice none 0 0, .slice none 0 0, .int .i64 0] 35)) w.heap.size 35 #[.int .i64 p0, .int .i64 p1, .int .i64 p2, .slice A3 n3 c3, .slice A4 n4 c4, .slice A5 n5 c5, .slice A6 n6 c6, .int .i64 p7]) := Lib.hid ((box_new w _ _).alloc_ _)
 have KR : Hid (BoxAt ((w.alloc (.cells #[.int .i64 p0, .int .i64 p1, .int .i64 p2, .slice A3 n3 c3, .slice A4 n4 c4, .slice A5 n5 c5, .slice A6 n6 c6, .int .i64 p7] 35)).alloc (.cells #[.int .i64 0, .int .i64 0, .int .i64 0, .slice none 0 0, .slice none 0 0, .slice none 0 0, .slice none 0 0, .int .i64 0] 35)) (w.heap.size + 1) 35 #[.int .i64 0, .int .i64 0, .int .i64 0, .slice none 0 0, .slice none 0 0, .slice none 0 0, .slice none 0 0, .int .i64 0]) := Lib.hid (by simpa using box_new (w.alloc (.cells #[.int .i64 p0, .int .i64 p1, .int .i64 p2, .slice A3 n3 c3, .slice A4 n4 c4, .slice A5 n5 c5, .slice A6 n6 c6, .int .i64 p7] 35)) 35 #[.int .i64 0, .int .i64 0, .int .i64 0, .slice none 0 0, .slice none 0 0, .slice none 0 0, .slice none 0 0, .int .i64 0])
 go_enter Tryz.func49, Tryz.ntmps49
 go_wp2_with fail
 refine Calls.mono (clone_Grant l3 A3 n3 c3 lo3 hi3 _ (by omega) (R3.out.new aU1)) ?_
 rintro e w1 ⟨v, rfl, ho, hb⟩
 obtain ⟨B3, d3, hv, F3⟩ := fr_of_own ho
 subst hv
 clear ho
 replace KR := Lib.hid ((KR.out).new hb)
 replace KB := Lib.hid ((KB.out).new hb)
 have hs1 := hb.size
 (try simp at hs1)
 replace HB := Lib.hid (show Below w.heap.size w w1 from Below.trans aU1 (hb.mono aW))
 have z1_0 : w.heap.size < w1.heap.size := (by omega)
 have z1_1 : w.heap.size + 1 < w1.heap.size := (by omega)
 clear hb
 replace F3 := Lib.hid (F3.mono (lo' := w.heap.size + 2) aV (Nat.le_refl _))
 obtain ⟨k0, k1, k2, k3, k4, k5, k6, k7⟩ := KB.out.p8
 have kf := fun j => KB.out.free j
 go_wp2_with fail
 clear k0 k1 k2 k3 k4 k5 k6 k7 kf
 refine Calls.mono (clone_Flow l4 A4 n4 c4 lo4 hi4 _ (by omega) (R4.out.new aU1)) ?_
 rintro e w2 ⟨v, rfl, ho, hb⟩
 obtain ⟨B4, d4, hv, F4⟩ := fr_of_own ho
 subst hv
 clear ho
 replace F3 := Lib.hid (show Fr w2 (w.heap.size + 2) (w1.heap.size) 106 7 B3 n3 d3 (cGrant l3) from Fr.new aU5 hb)
 replace KR := Lib.hid ((pk_past KR.out (by first | (simp; done) | (simp; omega))).new hb)
 replace KB := Lib.hid (show BoxAt w2 w.heap.size 35 #[.int .i64 p0, .int .i64 p1, .int .i64 p2, .slice B3 n3 d3, .slice A4 n4 c4, .slice A5 n5 c5, .slice A6 n6 c6, .int .i64 p7] from (pk_put KB.out 3 (.slice B3 n3 d3)).new hb)
 have hs2 := hb.size
 (try simp at hs2)
 replace HB := Lib.hid (show Below w.heap.size w w2 from Below.trans aU1 (hb.mono aW))
 have z2_0 : w.heap.size < w2.heap.size := (by omega)
 have z2_1 : w.heap.size + 1 < w2.heap.size := (by omega)
 clear hb
 replace F4 := Lib.hid (F4.mono (lo' := w1.heap.size) aV (Nat.le_refl _))
 obtain ⟨k0, k1, k2, k3, k4, k5, k6, k7⟩ := KB.out.p8
 have kf := fun j => KB.out.free j
 go_wp2_with fail
 clear k0 k1 k2 k3 k4 k5 k6 k7 kf
 refine Calls.mono (clone_Rule l5 A5 n5 c5 lo5 hi5 _ (by omega) (R5.out.new aU1)) ?_
 rintro e w3 ⟨v, rfl, ho, hb⟩
 obtain ⟨B5, d5, hv, F5⟩ := fr_of_own ho
 subst hv
 clear ho
 replace F3 := Lib.hid (show Fr w3 (w.heap.size + 2) (w1.heap.size) 106 7 B3 n3 d3 (cGrant l3) from Fr.new aU5 hb)
 replace F4 := Lib.hid (show Fr w3 (w1.heap.size) (w2.heap.size) 109 3 B4 n4 d4 (cFlow l4) from Fr.new aU7 hb)
 replace KR := Lib.hid ((pk_past KR.out (by first | (simp; done) | (simp; omega))).new hb)
 replace KB := Lib.hid (show BoxAt w3 w.heap.size 35 #[.int .i64 p0, .int .i64 p1, .int .i64 p2, .slice B3 n3 d3, .slice B4 n4 d4, .slice A5 n5 c5, .slice A6 n6 c6, .int .i64 p7] from (pk_put KB.out 4 (.slice B4 n4 d4)).new hb)
 have hs3 := hb.size
 (try simp at hs3)
 replace HB := Lib.hid (show Below w.heap.size w w3 from Below.trans aU1 (hb.mono aW))
 have z3_0 : w.heap.size < w3.heap.size := (by omega)
 have z3_1 : w.heap.size + 1 < w3.heap.size := (by omega)
 clear hb
 replace F5 := Lib.hid (F5.mono (lo' := w2.heap.size) aV (Nat.le_refl _))
 obtain ⟨k0, k1, k2, k3, k4, k5, k6, k7⟩ := KB.out.p8
 have kf := fun j => KB.out.free j
 go_wp2_with fail
 clear k0 k1 k2 k3 k4 k5 k6 k7 kf
 refine Calls.mono (clone_Op l6 A6 n6 c6 lo6 hi6 _ (by omega) (R6.out.new aU1)) ?_
 rintro e w4 ⟨v, rfl, ho, hb⟩
 obtain ⟨B6, d6, hv, F6⟩ := fr_of_own ho
 subst hv
 clear ho
 replace F3 := Lib.hid (show Fr w4 (w.heap.size + 2) (w1.heap.size) 106 7 B3 n3 d3 (cGrant l3) from Fr.new aU5 hb)
 replace F4 := Lib.hid (show Fr w4 (w1.heap.size) (w2.heap.size) 109 3 B4 n4 d4 (cFlow l4) from Fr.new aU7 hb)
 replace F5 := Lib.hid (show Fr w4 (w2.heap.size) (w3.heap.size) 113 8 B5 n5 d5 (cRule l5) from Fr.new aU12 hb)
 replace KR := Lib.hid ((pk_past KR.out (by first | (simp; done) | (simp; omega))).new hb)
 replace KB := Lib.hid (show BoxAt w4 w.heap.size 35 #[.int .i64 p0, .int .i64 p1, .int .i64 p2, .slice B3 n3 d3, .slice B4 n4 d4, .slice B5 n5 d5, .slice A6 n6 c6, .int .i64 p7] from (pk_put KB.out 5 (.slice B5 n5 d5)).new hb)
 have hs4 := hb.size
 (try simp at hs4)
 replace HB := Lib.hid (show Below w.heap.size w w4 from Below.trans aU1 (hb.mono aW))
 have z4_0 : w.heap.size < w4.heap.size := (by omega)
 have z4_1 : w.heap.size + 1 < w4.heap.size := (by omega)
 clear hb
 replace F6 := Lib.hid (F6.mono (lo' := w3.heap.size) aV (Nat.le_refl _))
 have k0 := KB.out.at_ (j := 0) rfl
 have q0 := KR.out.at_ (j := 0) rfl
 have k1 := KB.out.at_ (j := 1) rfl
 have q1 := KR.out.at_ (j := 1) rfl
 have k2 := KB.out.at_ (j := 2) rfl
 have q2 := KR.out.at_ (j := 2) rfl
 have k3 := KB.out.at_ (j := 3) rfl
 have q3 := KR.out.at_ (j := 3) rfl
 have k4 := KB.out.at_ (j := 4) rfl
 have q4 := KR.out.at_ (j := 4) rfl
 have k5 := KB.out.at_ (j := 5) rfl
 have q5 := KR.out.at_ (j := 5) rfl
 have k6 := KB.out.at_ (j := 6) rfl
 have q6 := KR.out.at_ (j := 6) rfl
 have k7 := KB.out.at_ (j := 7) rfl
 have q7 := KR.out.at_ (j := 7) rfl
 have qf := fun j => KR.out.free j
 have kf := fun j => KB.out.free j
 go_wp2_with fail
 have Z0 := pk_past (p := ⟨w.heap.size, 6, none⟩) (v := .slice B6 n6 d6) KR.out (by simp)
 replace Z0 := (show BoxAt _ (w.heap.size + 1) 35 #[.int .i64 p0, .int .i64 0, .int .i64 0, .slice none 0 0, .slice none 0 0, .slice none 0 0, .slice none 0 0, .int .i64 0] from pk_put Z0 0 (.int .i64 p0))
 replace Z0 := (show BoxAt _ (w.heap.size + 1) 35 #[.int .i64 p0, .int .i64 p1, .int .i64 0, .slice none 0 0, .slice none 0 0, .slice none 0 0, .slice none 0 0, .int .i64 0] from pk_put Z0 1 (.int .i64 p1))
 replace Z0 := (show BoxAt _ (w.heap.size + 1) 35 #[.int .i64 p0, .int .i64 p1, .int .i64 p2, .slice none 0 0, .slice none 0 0, .slice none 0 0, .slice none 0 0, .int .i64 0] from pk_put Z0 2 (.int .i64 p2))
 replace Z0 := (show BoxAt _ (w.heap.size + 1) 35 #[.int .i64 p0, .int .i64 p1, .int .i64 p2, .slice B3 n3 d3, .slice none 0 0, .slice none 0 0, .slice none 0 0, .int .i64 0] from pk_put Z0 3 (.slice B3 n3 d3))
 replace Z0 := (show BoxAt _ (w.heap.size + 1) 35 #[.int .i64 p0, .int .i64 p1, .int .i64 p2, .slice B3 n3 d3, .slice B4 n4 d4, .slice none 0 0, .slice none 0 0, .int .i64 0] from pk_put Z0 4 (.slice B4 n4 d4))
 replace Z0 := (show BoxAt _ (w.heap.size + 1) 35 #[.int .i64 p0, .int .i64 p1, .int .i64 p2, .slice B3 n3 d3, .slice B4 n4 d4, .slice B5 n5 d5, .slice none 0 0, .int .i64 0] from pk_put Z0 5 (.slice B5 n5 d5))
 replace Z0 := (show BoxAt _ (w.heap.size + 1) 35 #[.int .i64 p0, .int .i64 p1, .int .i64 p2, .slice B3 n3 d3, .slice B4 n4 d4, .slice B5 n5 d5, .slice B6 n6 d6, .int .i64 0] from pk_put Z0 6 (.slice B6 n6 d6))
 replace Z0 := (show BoxAt _ (w.heap.size + 1) 35 #[.int .i64 p0, .int .i64 p1, .int .i64 p2, .slice B3 n3 d3, .slice B4 n4 d4, .slice B5 n5 d5, .slice B6 n6 d6, .int .i64 p7] from pk_put Z0 7 (.int .i64 p7))
 have KF := Z0
 obtain ⟨f0, f1, f2, f3, f4, f5, f6, f7⟩ := KF.p8
 exact bodyPost_ret (v := .agg #[.int .i64 p0, .int .i64 p1, .int .i64 p2, .slice B3 n3 d3, .slice B4 n4 d4, .slice B5 n5 d5, .slice B6 n6 d6, .int .i64 p7]) (by simp [results, Tryz.results49, go_sem, f0, f1, f2, f3, f4, f5, f6, f7]) rfl
  ⟨B3, B4, B5, B6, d3, w.heap.size + 2, w1.heap.size, d4, w1.heap.size, w2.heap.size, d5, w2.heap.size, w3.heap.size, d6, w3.heap.size, w4.heap.size, rfl, aU5, aU7, aU12, aU14,
   Lib.hid (by unfold SepPackage; simp; omega), aU1⟩
set_option maxHeartbeats 8000000 in
theorem spec_l26Copy (p0 p1 p2 : Int) (l3 : List TGrant) (A3 : Option Addr) (n3 c3 lo3 hi3 : Nat) (l4 : List TFlow) (A4 : Option Addr) (n4 c4 lo4 hi4 : Nat) (l5 : List TRule) (A5 : Option Addr) (n5 c5 lo5 hi5 : Nat) (l6 : List TOp) (A6 : Option Addr) (n6 c6 lo6 hi6 : Nat) (p7 : Int) (w : World) (h3 : n3 ≤ 1048576) (r3 : Rd w lo3 hi3 7 A3 n3 (cGrant l3)) (h4 : n4 ≤ 1048576) (r4 : Rd w lo4 hi4 3 A4 n4 (cFlow l4)) (h5 : n5 ≤ 1048576) (r5 : Rd w lo5 hi5 8 A5 n5 (cRule l5)) (h6 : n6 ≤ 1048576) (r6 : Rd w lo6 hi6 4 A6 n6 (cOp l6)) :
  Calls Tryz.prog 47 #[.agg #[.int .i64 p0, .int .i64 p1, .int .i64 p2, .slice A3 n3 c3, .slice A4 n4 c4, .slice A5 n5 c5, .slice A6 n6 c6, .int .i64 p7]] w (MakesPackage p0 p1 p2 n3 l3 n4 l4 n5 l5 n6 l6 p7 w) := by
 have R3 := Lib.hid r3
 have R4 := Lib.hid r4
 have R5 := Lib.hid r5
 have R6 := Lib.hid r6
 clear r3 r4 r5 r6
 have HB := Lib.hid (Below.refl w.heap.size w)
 have KB : Hid (BoxAt (((w.alloc (.cells #[.int .i64 p0, .int .i64 p1, .int .i64 p2, .slice A3 n3 c3, .slice A4 n4 c4, .slice A5 n5 c5, .slice A6 n6 c6, .int .i64 p7] 35)).alloc (.cells #[.int .i64 0, .int .i64 0, .int .i64 0, .slice none 0 0, .slice none 0 0, .slice none 0 0, .slice none 0 0, .int .i64 0] 35)).alloc (.cells #[.int .i64 p0, .int .i64 p1, .int .i64 p2, .slice A3 n3 c3, .slice A4 n4 c4, .slice A5 n5 c5, .slice A6 n6 c6, .int .i64 p7] 35)) w.heap.size 35 #[.int .i64 p0, .int .i64 p1, .int .i64 p2, .slice A3 n3 c3, .slice A4 n4 c4, .slice A5 n5 c5, .slice A6 n6 c6, .int .i64 p7]) := Lib.hid (((box_new w _ _).alloc_ _).alloc_ _)
 have KR : Hid (BoxAt (((w.alloc (.cells #[.int .i64 p0, .int .i64 p1, .int .i64 p2, .slice A3 n3 c3, .slice A4 n4 c4, .slice A5 n5 c5, .slice A6 n6 c6, .int .i64 p7] 35)).alloc (.cells #[.int .i64 0, .int .i64 0, .int .i64 0, .slice none 0 0, .slice none 0 0, .slice none 0 0, .slice none 0 0, .int .i64 0] 35)).alloc (.cells #[.int .i64 p0, .int .i64 p1, .int .i64 p2, .slice A3 n3 c3, .slice A4 n4 c4, .slice A5 n5 c5, .slice A6 n6 c6, .int .i64 p7] 35)) (w.heap.size + 1) 35 #[.int .i64 0, .int .i64 0, .int .i64 0, .slice none 0 0, .slice none 0 0, .slice none 0 0, .slice none 0 0, .int .i64 0]) := Lib.hid (BoxAt.alloc_ (by simpa using box_new (w.alloc (.cells #[.int .i64 p0, .int .i64 p1, .int .i64 p2, .slice A3 n3 c3, .slice A4 n4 c4, .slice A5 n5 c5, .slice A6 n6 c6, .int .i64 p7] 35)) 35 #[.int .i64 0, .int .i64 0, .int .i64 0, .slice none 0 0, .slice none 0 0, .slice none 0 0, .slice none 0 0, .int .i64 0]) _)
 have KO : Hid (BoxAt (((w.alloc (.cells #[.int .i64 p0, .int .i64 p1, .int .i64 p2, .slice A3 n3 c3, .slice A4 n4 c4, .slice A5 n5 c5, .slice A6 n6 c6, .int .i64 p7] 35)).alloc (.cells #[.int .i64 0, .int .i64 0, .int .i64 0, .slice none 0 0, .slice none 0 0, .slice none 0 0, .slice none 0 0, .int .i64 0] 35)).alloc (.cells #[.int .i64 p0, .int .i64 p1, .int .i64 p2, .slice A3 n3 c3, .slice A4 n4 c4, .slice A5 n5 c5, .slice A6 n6 c6, .int .i64 p7] 35)) (w.heap.size + 1 + 1) 35 #[.int .i64 p0, .int .i64 p1, .int .i64 p2, .slice A3 n3 c3, .slice A4 n4 c4, .slice A5 n5 c5, .slice A6 n6 c6, .int .i64 p7]) := Lib.hid (by simpa using box_new ((w.alloc (.cells #[.int .i64 p0, .int .i64 p1, .int .i64 p2, .slice A3 n3 c3, .slice A4 n4 c4, .slice A5 n5 c5, .slice A6 n6 c6, .int .i64 p7] 35)).alloc (.cells #[.int .i64 0, .int .i64 0, .int .i64 0, .slice none 0 0, .slice none 0 0, .slice none 0 0, .slice none 0 0, .int .i64 0] 35)) 35 #[.int .i64 p0, .int .i64 p1, .int .i64 p2, .slice A3 n3 c3, .slice A4 n4 c4, .slice A5 n5 c5, .slice A6 n6 c6, .int .i64 p7])
 go_enter Tryz.func47, Tryz.ntmps47
 have HO : Hid (((((w.alloc (.cells #[.int .i64 p0, .int .i64 p1, .int .i64 p2, .slice A3 n3 c3, .slice A4 n4 c4, .slice A5 n5 c5, .slice A6 n6 c6, .int .i64 p7] 35)).alloc (.cells #[.int .i64 0, .int .i64 0, .int .i64 0, .slice none 0 0, .slice none 0 0, .slice none 0 0, .slice none 0 0, .int .i64 0] 35)).alloc (.cells #[.int .i64 p0, .int .i64 p1, .int .i64 p2, .slice A3 n3 c3, .slice A4 n4 c4, .slice A5 n5 c5, .slice A6 n6 c6, .int .i64 p7] 35)).alloc (.cells #[] 106)).ownsRow (w.heap.size + 1 + 1 + 1) 106 7 (.slice (some ⟨w.heap.size + 1 + 1 + 1, 0, none⟩) 0 0) 0 []) := Lib.hid (by simpa [World.setCell] using World.ownsRow_lit (base := w.heap.size + 1 + 1 + 1) (e := 106) (size := 7) (((w.alloc (.cells #[.int .i64 p0, .int .i64 p1, .int .i64 p2, .slice A3 n3 c3, .slice A4 n4 c4, .slice A5 n5 c5, .slice A6 n6 c6, .int .i64 p7] 35)).alloc (.cells #[.int .i64 0, .int .i64 0, .int .i64 0, .slice none 0 0, .slice none 0 0, .slice none 0 0, .slice none 0 0, .int .i64 0] 35)).alloc (.cells #[.int .i64 p0, .int .i64 p1, .int .i64 p2, .slice A3 n3 c3, .slice A4 n4 c4, .slice A5 n5 c5, .slice A6 n6 c6, .int .i64 p7] 35)) #[] 0 (by simp [World.setCell]) (by unfold maxLen; omega) rfl)
 have HBx := Lib.hid (show Below w.heap.size w ((((w.alloc (.cells #[.int .i64 p0, .int .i64 p1, .int .i64 p2, .slice A3 n3 c3, .slice A4 n4 c4, .slice A5 n5 c5, .slice A6 n6 c6, .int .i64 p7] 35)).alloc (.cells #[.int .i64 0, .int .i64 0, .int .i64 0, .slice none 0 0, .slice none 0 0, .slice none 0 0, .slice none 0 0, .int .i64 0] 35)).alloc (.cells #[.int .i64 p0, .int .i64 p1, .int .i64 p2, .slice A3 n3 c3, .slice A4 n4 c4, .slice A5 n5 c5, .slice A6 n6 c6, .int .i64 p7] 35)).alloc (.cells #[] 106)) from aU1)
 go_wp2_with (first
  | (at_builtin; refine wp_app rfl _ _ _ rfl (w.heap.size + 1 + 1 + 1) 106 (.agg #[.int .i64 0, .int .i64 0, .int .i64 0, .int .i64 0, .int .i64 0, .int .i64 0, .bool false]) 7 56 Tryz.underlying30 icGrant rfl (by decide) _ _ _ rfl HO.out lo3 hi3 A3 n3 c3 (cGrant l3) rfl (R3.out.new HBx.out) (ocGrant l3) (by unfold maxLen; omega) (by omega) (by first | (simp; done) | (simp; omega)) ?_; intro v w1 ho hb _ _; clear HO HBx; obtain ⟨B3, d3, hv, F3⟩ := fr_of_own ho; subst hv; clear ho; rw [Nat.zero_add, List.nil_append] at F3; replace KR := Lib.hid ((KR.out).keep ((hb.block _ aV).trans (Below.heap_alloc _ _ _ aV))); replace KB := Lib.hid ((KB.out).keep ((hb.block _ aV).trans (Below.heap_alloc _ _ _ aV))); replace KO := Lib.hid ((KO.out).keep ((hb.block _ aV).trans (Below.heap_alloc _ _ _ aV))); have hs1 := hb.size; (try simp at hs1); replace HB := Lib.hid (show Below w.heap.size w w1 from Below.trans aU1 (hb.mono aW)); have z1_0 : w.heap.size < w1.heap.size := (by omega); have z1_1 : w.heap.size + 1 < w1.heap.size := (by omega); have z1_2 : w.heap.size + 1 + 1 < w1.heap.size := (by omega); clear hb; replace F3 := Lib.hid (F3.mono (lo' := w.heap.size + 3) aV (Nat.le_refl _)); obtain ⟨k0, k1, k2, k3, k4, k5, k6, k7⟩ := KB.out.p8; obtain ⟨o0, o1, o2, o3, o4, o5, o6, o7⟩ := KO.out.p8; have of := fun j => KO.out.free j; have kf := fun j => KB.out.free j; have HO : Hid (((w1.setCell ⟨w.heap.size + 1 + 1, 3, none⟩ (.slice B3 n3 d3)).alloc (.cells #[] 109)).ownsRow (w1.heap.size) 109 3 (.slice (some ⟨w1.heap.size, 0, none⟩) 0 0) 0 []) := Lib.hid (by simpa [World.setCell] using World.ownsRow_lit (base := w1.heap.size) (e := 109) (size := 3) (w1.setCell ⟨w.heap.size + 1 + 1, 3, none⟩ (.slice B3 n3 d3)) #[] 0 (by simp [World.setCell]) (by unfold maxLen; omega) rfl); have HBx := Lib.hid (show Below w.heap.size w ((w1.setCell ⟨w.heap.size + 1 + 1, 3, none⟩ (.slice B3 n3 d3)).alloc (.cells #[] 109)) from aU1))
  | (at_builtin; refine wp_app rfl _ _ _ rfl (w1.heap.size) 109 (.agg #[.int .i64 0, .int .i64 0, .int .i64 0]) 3 24 Tryz.underlying31 icFlow rfl (by decide) _ _ _ rfl HO.out lo4 hi4 A4 n4 c4 (cFlow l4) rfl (R4.out.new HBx.out) (ocFlow l4) (by unfold maxLen; omega) (by omega) (by first | (simp; done) | (simp; omega)) ?_; intro v w2 ho hb _ _; clear HO HBx; clear k0 k1 k2 k3 k4 k5 k6 k7 kf o0 o1 o2 o3 o4 o5 o6 o7 of; obtain ⟨B4, d4, hv, F4⟩ := fr_of_own ho; subst hv; clear ho; rw [Nat.zero_add, List.nil_append] at F4; replace F3 := Lib.hid (show Fr w2 (w.heap.size + 3) (w1.heap.size) 106 7 B3 n3 d3 (cGrant l3) from F3.out.keep (fun b b1 b2 b3 => (hb.block b (by first | omega | (simp; omega))).trans ((Below.heap_alloc _ _ b (by first | omega | (simp; omega))).trans (Below.heap_setCell _ _ _ b (by simp; omega))))); replace KR := Lib.hid ((pk_past KR.out (by first | (simp; done) | (simp; omega))).keep ((hb.block _ aV).trans (Below.heap_alloc _ _ _ aV))); replace KB := Lib.hid ((pk_past KB.out (by first | (simp; done) | (simp; omega))).keep ((hb.block _ aV).trans (Below.heap_alloc _ _ _ aV))); replace KO := Lib.hid (show BoxAt w2 (w.heap.size + 1 + 1) 35 #[.int .i64 p0, .int .i64 p1, .int .i64 p2, .slice B3 n3 d3, .slice A4 n4 c4, .slice A5 n5 c5, .slice A6 n6 c6, .int .i64 p7] from (pk_put KO.out 3 (.slice B3 n3 d3)).keep ((hb.block _ aV).trans (Below.heap_alloc _ _ _ aV))); have hs2 := hb.size; (try simp at hs2); replace HB := Lib.hid (show Below w.heap.size w w2 from Below.trans aU1 (hb.mono aW)); have z2_0 : w.heap.size < w2.heap.size := (by omega); have z2_1 : w.heap.size + 1 < w2.heap.size := (by omega); have z2_2 : w.heap.size + 1 + 1 < w2.heap.size := (by omega); clear hb; replace F4 := Lib.hid (F4.mono (lo' := w1.heap.size) aV (Nat.le_refl _)); obtain ⟨k0, k1, k2, k3, k4, k5, k6, k7⟩ := KB.out.p8; obtain ⟨o0, o1, o2, o3, o4, o5, o6, o7⟩ := KO.out.p8; have of := fun j => KO.out.free j; have kf := fun j => KB.out.free j; have HO : Hid (((w2.setCell ⟨w.heap.size + 1 + 1, 4, none⟩ (.slice B4 n4 d4)).alloc (.cells #[] 113)).ownsRow (w2.heap.size) 113 8 (.slice (some ⟨w2.heap.size, 0, none⟩) 0 0) 0 []) := Lib.hid (by simpa [World.setCell] using World.ownsRow_lit (base := w2.heap.size) (e := 113) (size := 8) (w2.setCell ⟨w.heap.size + 1 + 1, 4, none⟩ (.slice B4 n4 d4)) #[] 0 (by simp [World.setCell]) (by unfold maxLen; omega) rfl); have HBx := Lib.hid (show Below w.heap.size w ((w2.setCell ⟨w.heap.size + 1 + 1, 4, none⟩ (.slice B4 n4 d4)).alloc (.cells #[] 113)) from aU1))
  | (at_builtin; refine wp_app rfl _ _ _ rfl (w2.heap.size) 113 (.agg #[.int .i64 0, .int .i64 0, .int .i64 0, .int .i64 0, .int .i64 0, .int .i64 0, .int .i64 0, .int .i64 0]) 8 64 Tryz.underlying32 icRule rfl (by decide) _ _ _ rfl HO.out lo5 hi5 A5 n5 c5 (cRule l5) rfl (R5.out.new HBx.out) (ocRule l5) (by unfold maxLen; omega) (by omega) (by first | (simp; done) | (simp; omega)) ?_; intro v w3 ho hb _ _; clear HO HBx; clear k0 k1 k2 k3 k4 k5 k6 k7 kf o0 o1 o2 o3 o4 o5 o6 o7 of; obtain ⟨B5, d5, hv, F5⟩ := fr_of_own ho; subst hv; clear ho; rw [Nat.zero_add, List.nil_append] at F5; replace F3 := Lib.hid (show Fr w3 (w.heap.size + 3) (w1.heap.size) 106 7 B3 n3 d3 (cGrant l3) from F3.out.keep (fun b b1 b2 b3 => (hb.block b (by first | omega | (simp; omega))).trans ((Below.heap_alloc _ _ b (by first | omega | (simp; omega))).trans (Below.heap_setCell _ _ _ b (by simp; omega))))); replace F4 := Lib.hid (show Fr w3 (w1.heap.size) (w2.heap.size) 109 3 B4 n4 d4 (cFlow l4) from F4.out.keep (fun b b1 b2 b3 => (hb.block b (by first | omega | (simp; omega))).trans ((Below.heap_alloc _ _ b (by first | omega | (simp; omega))).trans (Below.heap_setCell _ _ _ b (by simp; omega))))); replace KR := Lib.hid ((pk_past KR.out (by first | (simp; done) | (simp; omega))).keep ((hb.block _ aV).trans (Below.heap_alloc _ _ _ aV))); replace KB := Lib.hid ((pk_past KB.out (by first | (simp; done) | (simp; omega))).keep ((hb.block _ aV).trans (Below.heap_alloc _ _ _ aV))); replace KO := Lib.hid (show BoxAt w3 (w.heap.size + 1 + 1) 35 #[.int .i64 p0, .int .i64 p1, .int .i64 p2, .slice B3 n3 d3, .slice B4 n4 d4, .slice A5 n5 c5, .slice A6 n6 c6, .int .i64 p7] from (pk_put KO.out 4 (.slice B4 n4 d4)).keep ((hb.block _ aV).trans (Below.heap_alloc _ _ _ aV))); have hs3 := hb.size; (try simp at hs3); replace HB := Lib.hid (show Below w.heap.size w w3 from Below.trans aU1 (hb.mono aW)); have z3_0 : w.heap.size < w3.heap.size := (by omega); have z3_1 : w.heap.size + 1 < w3.heap.size := (by omega); have z3_2 : w.heap.size + 1 + 1 < w3.heap.size := (by omega); clear hb; replace F5 := Lib.hid (F5.mono (lo' := w2.heap.size) aV (Nat.le_refl _)); obtain ⟨k0, k1, k2, k3, k4, k5, k6, k7⟩ := KB.out.p8; obtain ⟨o0, o1, o2, o3, o4, o5, o6, o7⟩ := KO.out.p8; have of := fun j => KO.out.free j; have kf := fun j => KB.out.free j; have HO : Hid (((w3.setCell ⟨w.heap.size + 1 + 1, 5, none⟩ (.slice B5 n5 d5)).alloc (.cells #[] 130)).ownsRow (w3.heap.size) 130 4 (.slice (some ⟨w3.heap.size, 0, none⟩) 0 0) 0 []) := Lib.hid (by simpa [World.setCell] using World.ownsRow_lit (base := w3.heap.size) (e := 130) (size := 4) (w3.setCell ⟨w.heap.size + 1 + 1, 5, none⟩ (.slice B5 n5 d5)) #[] 0 (by simp [World.setCell]) (by unfold maxLen; omega) rfl); have HBx := Lib.hid (show Below w.heap.size w ((w3.setCell ⟨w.heap.size + 1 + 1, 5, none⟩ (.slice B5 n5 d5)).alloc (.cells #[] 130)) from aU1))
  | (at_builtin; refine wp_app rfl _ _ _ rfl (w3.heap.size) 130 (.agg #[.int .i64 0, .int .i64 0, .int .i64 0, .int .i64 0]) 4 32 Tryz.underlying33 icOp rfl (by decide) _ _ _ rfl HO.out lo6 hi6 A6 n6 c6 (cOp l6) rfl (R6.out.new HBx.out) (ocOp l6) (by unfold maxLen; omega) (by omega) (by first | (simp; done) | (simp; omega)) ?_; intro v w4 ho hb _ _; clear HO HBx; clear k0 k1 k2 k3 k4 k5 k6 k7 kf o0 o1 o2 o3 o4 o5 o6 o7 of; obtain ⟨B6, d6, hv, F6⟩ := fr_of_own ho; subst hv; clear ho; rw [Nat.zero_add, List.nil_append] at F6; replace F3 := Lib.hid (show Fr w4 (w.heap.size + 3) (w1.heap.size) 106 7 B3 n3 d3 (cGrant l3) from F3.out.keep (fun b b1 b2 b3 => (hb.block b (by first | omega | (simp; omega))).trans ((Below.heap_alloc _ _ b (by first | omega | (simp; omega))).trans (Below.heap_setCell _ _ _ b (by simp; omega))))); replace F4 := Lib.hid (show Fr w4 (w1.heap.size) (w2.heap.size) 109 3 B4 n4 d4 (cFlow l4) from F4.out.keep (fun b b1 b2 b3 => (hb.block b (by first | omega | (simp; omega))).trans ((Below.heap_alloc _ _ b (by first | omega | (simp; omega))).trans (Below.heap_setCell _ _ _ b (by simp; omega))))); replace F5 := Lib.hid (show Fr w4 (w2.heap.size) (w3.heap.size) 113 8 B5 n5 d5 (cRule l5) from F5.out.keep (fun b b1 b2 b3 => (hb.block b (by first | omega | (simp; omega))).trans ((Below.heap_alloc _ _ b (by first | omega | (simp; omega))).trans (Below.heap_setCell _ _ _ b (by simp; omega))))); replace KR := Lib.hid ((pk_past KR.out (by first | (simp; done) | (simp; omega))).keep ((hb.block _ aV).trans (Below.heap_alloc _ _ _ aV))); replace KB := Lib.hid ((pk_past KB.out (by first | (simp; done) | (simp; omega))).keep ((hb.block _ aV).trans (Below.heap_alloc _ _ _ aV))); replace KO := Lib.hid (show BoxAt w4 (w.heap.size + 1 + 1) 35 #[.int .i64 p0, .int .i64 p1, .int .i64 p2, .slice B3 n3 d3, .slice B4 n4 d4, .slice B5 n5 d5, .slice A6 n6 c6, .int .i64 p7] from (pk_put KO.out 5 (.slice B5 n5 d5)).keep ((hb.block _ aV).trans (Below.heap_alloc _ _ _ aV))); have hs4 := hb.size; (try simp at hs4); replace HB := Lib.hid (show Below w.heap.size w w4 from Below.trans aU1 (hb.mono aW)); have z4_0 : w.heap.size < w4.heap.size := (by omega); have z4_1 : w.heap.size + 1 < w4.heap.size := (by omega); have z4_2 : w.heap.size + 1 + 1 < w4.heap.size := (by omega); clear hb; replace F6 := Lib.hid (F6.mono (lo' := w3.heap.size) aV (Nat.le_refl _)); have k0 := KO.out.at_ (j := 0) rfl; have q0 := KR.out.at_ (j := 0) rfl; have k1 := KO.out.at_ (j := 1) rfl; have q1 := KR.out.at_ (j := 1) rfl; have k2 := KO.out.at_ (j := 2) rfl; have q2 := KR.out.at_ (j := 2) rfl; have k3 := KO.out.at_ (j := 3) rfl; have q3 := KR.out.at_ (j := 3) rfl; have k4 := KO.out.at_ (j := 4) rfl; have q4 := KR.out.at_ (j := 4) rfl; have k5 := KO.out.at_ (j := 5) rfl; have q5 := KR.out.at_ (j := 5) rfl; have k6 := KO.out.at_ (j := 6) rfl; have q6 := KR.out.at_ (j := 6) rfl; have k7 := KO.out.at_ (j := 7) rfl; have q7 := KR.out.at_ (j := 7) rfl; have qf := fun j => KR.out.free j; have kf := fun j => KO.out.free j))
 have Z0 := pk_past (p := ⟨w.heap.size + 1 + 1, 6, none⟩) (v := .slice B6 n6 d6) KR.out (by simp)
 replace Z0 := (show BoxAt _ (w.heap.size + 1) 35 #[.int .i64 p0, .int .i64 0, .int .i64 0, .slice none 0 0, .slice none 0 0, .slice none 0 0, .slice none 0 0, .int .i64 0] from pk_put Z0 0 (.int .i64 p0))
 replace Z0 := (show BoxAt _ (w.heap.size + 1) 35 #[.int .i64 p0, .int .i64 p1, .int .i64 0, .slice none 0 0, .slice none 0 0, .slice none 0 0, .slice none 0 0, .int .i64 0] from pk_put Z0 1 (.int .i64 p1))
 replace Z0 := (show BoxAt _ (w.heap.size + 1) 35 #[.int .i64 p0, .int .i64 p1, .int .i64 p2, .slice none 0 0, .slice none 0 0, .slice none 0 0, .slice none 0 0, .int .i64 0] from pk_put Z0 2 (.int .i64 p2))
 replace Z0 := (show BoxAt _ (w.heap.size + 1) 35 #[.int .i64 p0, .int .i64 p1, .int .i64 p2, .slice B3 n3 d3, .slice none 0 0, .slice none 0 0, .slice none 0 0, .int .i64 0] from pk_put Z0 3 (.slice B3 n3 d3))
 replace Z0 := (show BoxAt _ (w.heap.size + 1) 35 #[.int .i64 p0, .int .i64 p1, .int .i64 p2, .slice B3 n3 d3, .slice B4 n4 d4, .slice none 0 0, .slice none 0 0, .int .i64 0] from pk_put Z0 4 (.slice B4 n4 d4))
 replace Z0 := (show BoxAt _ (w.heap.size + 1) 35 #[.int .i64 p0, .int .i64 p1, .int .i64 p2, .slice B3 n3 d3, .slice B4 n4 d4, .slice B5 n5 d5, .slice none 0 0, .int .i64 0] from pk_put Z0 5 (.slice B5 n5 d5))
 replace Z0 := (show BoxAt _ (w.heap.size + 1) 35 #[.int .i64 p0, .int .i64 p1, .int .i64 p2, .slice B3 n3 d3, .slice B4 n4 d4, .slice B5 n5 d5, .slice B6 n6 d6, .int .i64 0] from pk_put Z0 6 (.slice B6 n6 d6))
 replace Z0 := (show BoxAt _ (w.heap.size + 1) 35 #[.int .i64 p0, .int .i64 p1, .int .i64 p2, .slice B3 n3 d3, .slice B4 n4 d4, .slice B5 n5 d5, .slice B6 n6 d6, .int .i64 p7] from pk_put Z0 7 (.int .i64 p7))
 have KF := Z0
 obtain ⟨f0, f1, f2, f3, f4, f5, f6, f7⟩ := KF.p8
 exact bodyPost_ret (v := .agg #[.int .i64 p0, .int .i64 p1, .int .i64 p2, .slice B3 n3 d3, .slice B4 n4 d4, .slice B5 n5 d5, .slice B6 n6 d6, .int .i64 p7]) (by simp [results, Tryz.results47, go_sem, f0, f1, f2, f3, f4, f5, f6, f7]) rfl
  ⟨B3, B4, B5, B6, d3, w.heap.size + 3, w1.heap.size, d4, w1.heap.size, w2.heap.size, d5, w2.heap.size, w3.heap.size, d6, w3.heap.size, w4.heap.size, rfl, aU5, aU7, aU12, aU14,
   Lib.hid (by unfold SepPackage; simp; omega), aU1⟩
end Go.Proofs.YtkedacmpmancbaaGreatDoor
namespace Go.Proofs.YtkedacmpmancbaaGreatDoor
open Go Go.ChangeShapes Go.WideShapes Go.ChangeAt Go.RowKit Go.Lib
set_option linter.unusedVariables false
set_option linter.unusedSimpArgs false
set_option maxRecDepth 100000
theorem rd_tailOwG {w : World} {lo hi n b off : Nat} {x : TGrant} {l : List TGrant} (h : Rd w lo hi 7 (some ⟨b, off, none⟩) (n + 1) (cGrant (x :: l))) :
  Rd w lo hi 7 (some ⟨b, off + 7, none⟩) n (cGrant l) := by
 have hc : cGrant (x :: l) = TGrant.cells x ++ cGrant l := rfl
 refine ⟨?_, fun hn => ?_⟩
 ·
  have := h.1
  rw [hc, List.length_append, TGrant.len] at this
  omega
 ·
  obtain ⟨b', off', e, h1, h2, h3⟩ := h.2 (by omega)
  cases e
  refine ⟨b, off + 7, rfl, h1, h2, fun j u hu => ?_⟩
  rw [Nat.add_assoc]
  refine h3 (7 + j) u ?_
  rw [hc, List.getElem?_append_right (by rw [TGrant.len]; omega), TGrant.len]
  simpa using hu

set_option maxHeartbeats 4000000 in
theorem any_OwG (p : TGrant → Bool) (lb : Array Value) (l : List TGrant) (A : Option Addr) (n c lo hi : Nat) (w : World) (hn : n ≤ 17592186044416) (hcap : n ≤ c)
  (hr : Rd w lo hi 7 A n (cGrant l)) (hp : PredB Tryz.prog 176 lb (fun x : TGrant => .agg #[.int .i64 x.f0, .int .i64 x.f1, .int .i64 x.f2, .int .i64 x.f3, .int .i64 x.f4, .int .i64 x.f5, .bool x.f6]) p l w) :
  Calls Tryz.prog 154 #[.slice A n c, .func (.func 176) #[] lb] w (Says (.bool (l.any p)) w) := by
 have HR := Lib.hid hr
 have HP := Lib.hid hp
 clear hr hp
 go_enter Tryz.func154, Tryz.ntmps154
 go_wp2_with fail
 go_loopg [0] n (fun gg v wr => ∃ (A' : Option Addr) (n' c' : Nat) (l' : List TGrant), v = .slice A' n' c' ∧ n' ≤ gg ∧ n' ≤ n ∧ n' ≤ c' ∧ Hid (Rd wr lo hi 7 A' n' (cGrant l')) ∧ Hid (∀ x, x ∈ l' → x ∈ l) ∧ Hid (l.any p = l'.any p) ∧ Hid (Below w.heap.size w wr))
 case atStart => exact ⟨_, _, _, l, rfl, Nat.le_refl _, Nat.le_refl _, hcap, HR, Lib.hid (fun _ h => h), Lib.hid rfl, Lib.hid (Below.refl _ _)⟩
 case round =>
  obtain ⟨A', n', c', l', rfl, hg, hn', hcc, HR', HM, HA, HB⟩ := hrel
  cases l' with
  | nil =>
   obtain rfl : n' = 0 := by have := HR'.out.1; simp at this; omega
   have HE := Lib.hid (show l.any p = false from HA.out)
   go_wp2_with fail
   go_ret
   exact ⟨by rw [HE.out]; rfl, HB.out⟩
  | cons x t =>
   have HL := Lib.hid (rd_len TGrant.len HR'.out (by decide))
   obtain ⟨m, rfl⟩ : ∃ m, n' = m + 1 := ⟨t.length, by have := HL.out; simp at this; omega⟩
   obtain ⟨b, off, x', rfl, _, _, hz, hc⟩ := rd_elem (k := 0) TGrant.len HR'.out HL.out (by omega)
   obtain rfl : x = x' := by simpa using hz
   have c0 : wr.cell? ⟨b, off, none⟩ = some (.int .i64 x.f0) := by simpa using hc 0 _ rfl
   have c1 : wr.cell? ⟨b, off + 1, none⟩ = some (.int .i64 x.f1) := by simpa using hc 1 _ rfl
   have c2 : wr.cell? ⟨b, off + 2, none⟩ = some (.int .i64 x.f2) := by simpa using hc 2 _ rfl
   have c3 : wr.cell? ⟨b, off + 3, none⟩ = some (.int .i64 x.f3) := by simpa using hc 3 _ rfl
   have c4 : wr.cell? ⟨b, off + 4, none⟩ = some (.int .i64 x.f4) := by simpa using hc 4 _ rfl
   have c5 : wr.cell? ⟨b, off + 5, none⟩ = some (.int .i64 x.f5) := by simpa using hc 5 _ rfl
   have c6 : wr.cell? ⟨b, off + 6, none⟩ = some (.bool x.f6) := by simpa using hc 6 _ rfl
   have HT := Lib.hid (rd_tailOwG HR'.out)
   have hcall := HP.out wr x (HM.out x (by simp)) HB.out
   have HMt := Lib.hid (fun y (h : y ∈ t) => HM.out y (List.mem_cons_of_mem _ h))
   clear hc hz HR' HM
   cases hq : p x with
   | true =>
    rw [hq] at hcall
    have HE := Lib.hid (show l.any p = true by rw [HA.out, List.any_cons, hq]; rfl)
    clear hq HA
    go_wp2_with (go_at_call 176; refine hcall.mono ?_; rintro e w1 ⟨rfl, hb1⟩; have HB1 := Lib.hid hb1; clear hb1)
    go_ret
    exact ⟨by rw [HE.out]; rfl, below_trans HB.out HB1.out (Nat.le_refl _)⟩
   | false =>
    rw [hq] at hcall
    have HE := Lib.hid (show l.any p = t.any p by rw [HA.out, List.any_cons, hq]; rfl)
    clear hq HA
    rcases Nat.eq_zero_or_pos m with rfl | hm
    ·
     obtain rfl : t = [] := by have := HL.out; simpa using this
     go_wp2_with (go_at_call 176; refine hcall.mono ?_; rintro e w1 ⟨rfl, hb1⟩; have HB1 := Lib.hid hb1; clear hb1)
     go_roundg 0
     case measure => omega
     case rel => exact ⟨_, _, _, [], rfl, Nat.le_refl _, by omega, by omega, Lib.hid Rd.empty, HMt, HE, Lib.hid (below_trans HB.out HB1.out (Nat.le_refl _))⟩
    ·
     go_wp2_with (go_at_call 176; refine hcall.mono ?_; rintro e w1 ⟨rfl, hb1⟩; have HB1 := Lib.hid hb1; clear hb1)
     go_roundg m
     case measure => omega
     case rel => exact ⟨_, _, _, t, rfl, by omega, by omega, by omega, Lib.hid (HT.out.new HB1.out), HMt, HE, Lib.hid (below_trans HB.out HB1.out (Nat.le_refl _))⟩

theorem nots_OwG (p : TGrant → Bool) (lb : Array Value) (l : List TGrant) (B : Nat) (w : World) (hq : w.cell? ⟨B, 0, none⟩ = some (.func (.func 131) #[] lb))
  (hp : PredB Tryz.prog 131 lb (fun x : TGrant => .agg #[.int .i64 x.f0, .int .i64 x.f1, .int .i64 x.f2, .int .i64 x.f3, .int .i64 x.f4, .int .i64 x.f5, .bool x.f6]) p l w) : PredB Tryz.prog 176 #[.pointer (some ⟨B, 0, none⟩)] (fun x : TGrant => .agg #[.int .i64 x.f0, .int .i64 x.f1, .int .i64 x.f2, .int .i64 x.f3, .int .i64 x.f4, .int .i64 x.f5, .bool x.f6]) (fun x => !p x) l w := fun W x hx hb => by
 have c0 := cell_nw hb hq
 have HC := Lib.hid (show Calls Tryz.prog 131 (#[.agg #[.int .i64 x.f0, .int .i64 x.f1, .int .i64 x.f2, .int .i64 x.f3, .int .i64 x.f4, .int .i64 x.f5, .bool x.f6]] ++ lb) (W.alloc (.cells #[.int .i64 x.f0, .int .i64 x.f1, .int .i64 x.f2, .int .i64 x.f3, .int .i64 x.f4, .int .i64 x.f5, .bool x.f6] 106)) _ from hp _ x hx (hb.alloc (by have := hb.size; omega) _))
 have m0 : B < W.heap.size := World.block_lt_of_cell? _ _ c0
 have n0 : B ≠ W.heap.size := Nat.ne_of_lt m0
 clear hb hq hp
 change Calls Tryz.prog _ #[.agg #[.int .i64 x.f0, .int .i64 x.f1, .int .i64 x.f2, .int .i64 x.f3, .int .i64 x.f4, .int .i64 x.f5, .bool x.f6], .pointer (some ⟨B, 0, none⟩)] _ (Says (.bool (!p x)) W)
 generalize p x = q at HC ⊢
 cases q
 all_goals
  go_enter Tryz.func176, Tryz.ntmps176
  go_wp2_with (go_at_call 131; refine HC.out.mono ?_; rintro e w1 ⟨rfl, hb1⟩; have HB1 := Lib.hid (below_trans ((Below.refl _ _).alloc (Nat.le_refl _) _) hb1 (by simp)); clear hb1)
  go_ret
  exact ⟨rfl, HB1.out⟩
set_option maxHeartbeats 4000000 in
theorem all_OwG (p : TGrant → Bool) (lb : Array Value) (l : List TGrant) (A : Option Addr) (n c lo hi : Nat) (w : World) (hn : n ≤ 17592186044416) (hcap : n ≤ c)
  (hr : Rd w lo hi 7 A n (cGrant l)) (hp : PredB Tryz.prog 131 lb (fun x : TGrant => .agg #[.int .i64 x.f0, .int .i64 x.f1, .int .i64 x.f2, .int .i64 x.f3, .int .i64 x.f4, .int .i64 x.f5, .bool x.f6]) p l w) :
  Calls Tryz.prog 130 #[.slice A n c, .func (.func 131) #[] lb] w (Says (.bool (l.all p)) w) := by
 have hmf : ∀ (fn : Fn) (first cap : Array Value) (w : World), (Instr.makeFunc fn first cap).run Tryz.prog w = .ok (.func fn first cap) w := fun _ _ _ _ => rfl
 have HC := any_OwG (fun x => !p x) #[.pointer (some ⟨w.heap.size, 0, none⟩)] l A n c lo hi (w.alloc (.cells #[.func (.func 131) #[] lb] 102)) hn hcap (hr.alloc _)
  (nots_OwG p lb l w.heap.size _ (cell_newest (by simp) rfl) (fun W x hx hb => hp W x hx (below_trans ((Below.refl _ _).alloc (Nat.le_refl _) _) hb (by simp))))
 have hE : l.all p = !(l.any fun x => !p x) := by rw [List.all_eq_not_any_not]
 rw [hE]
 clear hr hp hE
 generalize (l.any fun x => !p x) = q at HC ⊢
 have HC := Lib.hid HC
 cases q
 all_goals
  go_enter Tryz.func130, Tryz.ntmps130
  go_wp2_with fail
  refine HC.out.mono ?_
  rintro e w1 ⟨rfl, hb1⟩
  have HB1 := Lib.hid (below_trans ((Below.refl _ _).alloc (Nat.le_refl _) _) hb1 (by simp))
  clear hb1
  go_wp2_with fail
  go_ret
  exact ⟨rfl, HB1.out⟩

theorem impl_extOfGrant (x : TGrant) (w : World) : Calls Tryz.prog 89 #[.agg #[.int .i64 x.f0, .int .i64 x.f1, .int .i64 x.f2, .int .i64 x.f3, .int .i64 x.f4, .int .i64 x.f5, .bool x.f6]] w (Says (.int .i64 x.f0) w) := by
 go_enter Tryz.func89, Tryz.ntmps89
 go_wp2_with fail
 go_ret
 exact ⟨rfl, (Below.refl _ _).alloc (Nat.le_refl _) _⟩
def pPkG (e : Int) (x : TGrant) : Bool := mIsGrant x && x.f0 == e
def mPkG (l : List TGrant) (e : Int) : Bool := decide (l.length ≤ 6) && l.all (pPkG e)

set_option maxHeartbeats 8000000 in
theorem clo_OwG (e : Int) (B1 B2 B3 : Nat) (l : List TGrant) (w : World) (h1 : BoxAt w B1 102 #[.func (.func 88) #[] #[]]) (h2 : BoxAt w B2 134 #[.func (.func 89) #[] #[]]) (h3 : BoxAt w B3 3 #[.int .i64 e]) :
  PredB Tryz.prog 131 #[.pointer (some ⟨B1, 0, none⟩), .pointer (some ⟨B2, 0, none⟩), .pointer (some ⟨B3, 0, none⟩)] (fun x : TGrant => .agg #[.int .i64 x.f0, .int .i64 x.f1, .int .i64 x.f2, .int .i64 x.f3, .int .i64 x.f4, .int .i64 x.f5, .bool x.f6]) (pPkG e) l w := fun W x _ hb => by
 have K1 := (h1.new hb).alloc_ (.cells #[.int .i64 x.f0, .int .i64 x.f1, .int .i64 x.f2, .int .i64 x.f3, .int .i64 x.f4, .int .i64 x.f5, .bool x.f6] 106)
 have K2 := (h2.new hb).alloc_ (.cells #[.int .i64 x.f0, .int .i64 x.f1, .int .i64 x.f2, .int .i64 x.f3, .int .i64 x.f4, .int .i64 x.f5, .bool x.f6] 106)
 have K3 := (h3.new hb).alloc_ (.cells #[.int .i64 x.f0, .int .i64 x.f1, .int .i64 x.f2, .int .i64 x.f3, .int .i64 x.f4, .int .i64 x.f5, .bool x.f6] 106)
 have m1 : B1 < W.heap.size := (h1.new hb).lt
 have m2 : B2 < W.heap.size := (h2.new hb).lt
 have m3 : B3 < W.heap.size := (h3.new hb).lt
 have KX := box_new W 106 #[.int .i64 x.f0, .int .i64 x.f1, .int .i64 x.f2, .int .i64 x.f3, .int .i64 x.f4, .int .i64 x.f5, .bool x.f6]
 have HBx : Below W.heap.size W (W.alloc (.cells #[.int .i64 x.f0, .int .i64 x.f1, .int .i64 x.f2, .int .i64 x.f3, .int .i64 x.f4, .int .i64 x.f5, .bool x.f6] 106)) := (Below.refl _ _).alloc (Nat.le_refl _) _
 have C0 := Lib.hid (fun V => impl_IsGrant x V)
 have C1 := Lib.hid (fun V => impl_extOfGrant x V)
 clear h1 h2 h3 hb
 change Calls Tryz.prog _ #[.agg #[.int .i64 x.f0, .int .i64 x.f1, .int .i64 x.f2, .int .i64 x.f3, .int .i64 x.f4, .int .i64 x.f5, .bool x.f6], .pointer (some ⟨B1, 0, none⟩), .pointer (some ⟨B2, 0, none⟩), .pointer (some ⟨B3, 0, none⟩)] _ (Says (.bool (mIsGrant x && x.f0 == e)) W)
 generalize mIsGrant x = r at C0 ⊢
 go_enter Tryz.func131, Tryz.ntmps131
 go_wp2_with fail
 refine wp_region_held_drew (S := fun w' => BoxAt w' W.heap.size 106 #[.int .i64 x.f0, .int .i64 x.f1, .int .i64 x.f2, .int .i64 x.f3, .int .i64 x.f4, .int .i64 x.f5, .bool x.f6] ∧ BoxAt w' B1 102 #[.func (.func 88) #[] #[]] ∧ BoxAt w' B2 134 #[.func (.func 89) #[] #[]] ∧ BoxAt w' B3 3 #[.int .i64 e] ∧ Below W.heap.size W w') (by kernel_rfl) ?_ (fun hHeld => ?_)
 ·
  exact ⟨KX.drw, K1.drw, K2.drw, K3.drw, HBx.drew⟩
 refine tl 0 6 hHeld rfl ?_ (by intro W hS; obtain ⟨c0_0, c0_1, c0_2, c0_3, c0_4, c0_5, c0_6⟩ := (hS.1).p7; have c1_0 := (hS.2.1).at_ (j := 0) rfl; have c2_0 := (hS.2.2.1).at_ (j := 0) rfl; have c3_0 := (hS.2.2.2.1).at_ (j := 0) rfl; clear hS; go_simp; try with_reducible rfl); try simp only [ptl]
 refine tl 1 7 hHeld rfl ?_ (by intro W hS; obtain ⟨c0_0, c0_1, c0_2, c0_3, c0_4, c0_5, c0_6⟩ := (hS.1).p7; have c1_0 := (hS.2.1).at_ (j := 0) rfl; have c2_0 := (hS.2.2.1).at_ (j := 0) rfl; have c3_0 := (hS.2.2.2.1).at_ (j := 0) rfl; clear hS; go_simp; try with_reducible rfl); try simp only [ptl]
 refine rd1 (i := 2) (o := ⟨some 8, _, _, _, _, _⟩) rfl (fun K hK => ?_)
 go_simp
 refine Calls.mono (C0.out _) ?_
 rintro e x1 ⟨rfl, hb1⟩
 refine hK.out _ _ ⟨hHeld.1.new hb1, hHeld.2.1.new hb1, hHeld.2.2.1.new hb1, hHeld.2.2.2.1.new hb1, below_trans hHeld.2.2.2.2 hb1 (Nat.le_refl _)⟩ (fun hHeld' => ?_)
 clear hK K hHeld hb1; have hHeld := hHeld'; clear hHeld'
 try simp only [ptl]
 cases r
 ·
  refine tz 3 9 hHeld ?_; try simp only [ptl]
  refine tu (i := 4) (oi := ⟨some 10, _, _, _, _, _⟩) rfl hHeld ?_; try simp only [ptl]
  refine tu (i := 5) (oi := ⟨some 11, _, _, _, _, _⟩) rfl hHeld ?_; try simp only [ptl]
  refine tu (i := 7) (oi := ⟨some 13, _, _, _, _, _⟩) rfl hHeld ?_; try simp only [ptl]
  refine tu (i := 6) (oi := ⟨some 12, _, _, _, _, _⟩) rfl hHeld ?_; try simp only [ptl]
  refine tu (i := 8) (oi := ⟨some 14, _, _, _, _, _⟩) rfl hHeld ?_; try simp only [ptl]
  refine tz 9 15 hHeld ?_; try simp only [ptl]
  refine tz 10 5 hHeld ?_; try simp only [ptl]
  refine wpAnyH_done (by kernel_rfl) ?_ _
  go_wp2_with fail
  go_ret
  exact ⟨by first | rfl | simp [h8], hHeld.2.2.2.2⟩
 ·
  refine tz 3 9 hHeld ?_; try simp only [ptl]
  refine tl 4 10 hHeld rfl ?_ (by intro W hS; obtain ⟨c0_0, c0_1, c0_2, c0_3, c0_4, c0_5, c0_6⟩ := (hS.1).p7; have c1_0 := (hS.2.1).at_ (j := 0) rfl; have c2_0 := (hS.2.2.1).at_ (j := 0) rfl; have c3_0 := (hS.2.2.2.1).at_ (j := 0) rfl; clear hS; go_simp; try with_reducible rfl); try simp only [ptl]
  refine tl 5 11 hHeld rfl ?_ (by intro W hS; obtain ⟨c0_0, c0_1, c0_2, c0_3, c0_4, c0_5, c0_6⟩ := (hS.1).p7; have c1_0 := (hS.2.1).at_ (j := 0) rfl; have c2_0 := (hS.2.2.1).at_ (j := 0) rfl; have c3_0 := (hS.2.2.2.1).at_ (j := 0) rfl; clear hS; go_simp; try with_reducible rfl); try simp only [ptl]
  refine tl 7 13 hHeld rfl ?_ (by intro W hS; obtain ⟨c0_0, c0_1, c0_2, c0_3, c0_4, c0_5, c0_6⟩ := (hS.1).p7; have c1_0 := (hS.2.1).at_ (j := 0) rfl; have c2_0 := (hS.2.2.1).at_ (j := 0) rfl; have c3_0 := (hS.2.2.2.1).at_ (j := 0) rfl; clear hS; go_simp; try with_reducible rfl); try simp only [ptl]
  refine rd1 (i := 6) (o := ⟨some 12, _, _, _, _, _⟩) rfl (fun K hK => ?_)
  go_simp
  refine Calls.mono (C1.out _) ?_
  rintro e x2 ⟨rfl, hb1⟩
  refine hK.out _ _ ⟨hHeld.1.new hb1, hHeld.2.1.new hb1, hHeld.2.2.1.new hb1, hHeld.2.2.2.1.new hb1, below_trans hHeld.2.2.2.2 hb1 (Nat.le_refl _)⟩ (fun hHeld' => ?_)
  clear hK K hHeld hb1; have hHeld := hHeld'; clear hHeld'
  try simp only [ptl]
  by_cases h8 : (x.f0 == e) = true
  ·
   refine tz 8 14 hHeld ?_; try simp only [ptl]
   refine tz 9 15 hHeld ?_; try simp only [ptl]
   refine tz 10 5 hHeld ?_; try simp only [ptl]
   refine wpAnyH_done (by kernel_rfl) ?_ _
   go_wp2_with fail
   go_ret
   exact ⟨by first | rfl | simp [h8], hHeld.2.2.2.2⟩
  ·
   have h8 : (x.f0 == e) = false := by simpa using h8
   refine tz 8 14 hHeld ?_; try simp only [ptl]
   refine tz 9 15 hHeld ?_; try simp only [ptl]
   refine tz 10 5 hHeld ?_; try simp only [ptl]
   refine wpAnyH_done (by kernel_rfl) ?_ _
   go_wp2_with fail
   go_ret
   exact ⟨by first | rfl | simp [h8], hHeld.2.2.2.2⟩

set_option maxHeartbeats 8000000 in
theorem impl_areOwnGrant (l : List TGrant) (A : Option Addr) (n c lo hi : Nat) (e : Int) (w : World) (hn : n ≤ 1048576) (hr : Rd w lo hi 7 A n (cGrant l)) (hcap : n ≤ c) :
  Calls Tryz.prog 87 #[.slice A n c, .int .i64 6, .func (.func 88) #[] #[], .int .i64 e, .func (.func 89) #[] #[]] w (Says (.bool (mPkG l e)) w) := by
 have hmf : ∀ (fn : Fn) (first cap : Array Value) (w : World), (Instr.makeFunc fn first cap).run Tryz.prog w = .ok (.func fn first cap) w := fun _ _ _ _ => rfl
 have HL := Lib.hid (rd_len TGrant.len hr (by decide))
 have k1 : BoxAt (((w.alloc (.cells #[.func (.func 88) #[] #[]] 102)).alloc (.cells #[.int .i64 e] 3)).alloc (.cells #[.func (.func 89) #[] #[]] 134)) w.heap.size 102 #[.func (.func 88) #[] #[]] := ((box_new _ _ _ : BoxAt (w.alloc (.cells #[.func (.func 88) #[] #[]] 102)) _ _ _).alloc_ _).alloc_ _
 have k2 : BoxAt (((w.alloc (.cells #[.func (.func 88) #[] #[]] 102)).alloc (.cells #[.int .i64 e] 3)).alloc (.cells #[.func (.func 89) #[] #[]] 134)) (w.heap.size + 1 + 1) 134 #[.func (.func 89) #[] #[]] := by simpa using box_new ((w.alloc (.cells #[.func (.func 88) #[] #[]] 102)).alloc (.cells #[.int .i64 e] 3)) 134 #[.func (.func 89) #[] #[]]
 have k3 : BoxAt (((w.alloc (.cells #[.func (.func 88) #[] #[]] 102)).alloc (.cells #[.int .i64 e] 3)).alloc (.cells #[.func (.func 89) #[] #[]] 134)) (w.heap.size + 1) 3 #[.int .i64 e] := (show BoxAt ((w.alloc (.cells #[.func (.func 88) #[] #[]] 102)).alloc (.cells #[.int .i64 e] 3)) (w.heap.size + 1) 3 #[.int .i64 e] by simpa using box_new (w.alloc (.cells #[.func (.func 88) #[] #[]] 102)) 3 #[.int .i64 e]).alloc_ _
 have HC := Lib.hid (all_OwG (pPkG e) #[.pointer (some ⟨w.heap.size, 0, none⟩), .pointer (some ⟨w.heap.size + 1 + 1, 0, none⟩), .pointer (some ⟨w.heap.size + 1, 0, none⟩)] l A n c lo hi (((w.alloc (.cells #[.func (.func 88) #[] #[]] 102)).alloc (.cells #[.int .i64 e] 3)).alloc (.cells #[.func (.func 89) #[] #[]] 134)) (by omega) hcap (((hr.alloc _).alloc _).alloc _) (clo_OwG e _ _ _ l _ k1 k2 k3))
 have HB0 := Lib.hid (show Below w.heap.size w (((w.alloc (.cells #[.func (.func 88) #[] #[]] 102)).alloc (.cells #[.int .i64 e] 3)).alloc (.cells #[.func (.func 89) #[] #[]] 134)) from (((Below.refl _ _).alloc (Nat.le_refl _) _).alloc (by simp) _).alloc (by simp <;> omega) _)
 clear k1 k2 k3 hr
 unfold mPkG
 rw [HL.out]
 generalize l.all (pPkG e) = q at HC ⊢
 by_cases h6 : n ≤ 6
 ·
  have g6 : decide ((n : Int) ≤ 6) = true := by simp; omega
  have g7 : decide (n ≤ 6) = true := decide_eq_true h6
  rw [g7]
  clear g7
  go_enter Tryz.func87, Tryz.ntmps87
  go_wp2_with fail
  refine HC.out.mono ?_
  rintro e w1 ⟨rfl, hb1⟩
  have HB1 := Lib.hid (below_trans HB0.out hb1 (by simp <;> omega))
  clear hb1
  go_wp2_with fail
  go_ret
  exact ⟨by cases q <;> rfl, HB1.out⟩
 ·
  have g6 : decide ((n : Int) ≤ 6) = false := by simp; omega
  have g7 : decide (n ≤ 6) = false := decide_eq_false h6
  rw [g7]
  clear g7
  go_enter Tryz.func87, Tryz.ntmps87
  go_wp2_with fail
  go_ret
  exact ⟨rfl, HB0.out⟩

end Go.Proofs.YtkedacmpmancbaaGreatDoor
namespace Go.Proofs.YtkedacmpmancbaaGreatDoor
open Go Go.ChangeShapes Go.WideShapes Go.ChangeAt Go.RowKit Go.Lib
set_option linter.unusedVariables false
set_option linter.unusedSimpArgs false
set_option maxRecDepth 100000
theorem rd_tailOwF {w : World} {lo hi n b off : Nat} {x : TFlow} {l : List TFlow} (h : Rd w lo hi 3 (some ⟨b, off, none⟩) (n + 1) (cFlow (x :: l))) :
  Rd w lo hi 3 (some ⟨b, off + 3, none⟩) n (cFlow l) := by
 have hc : cFlow (x :: l) = TFlow.cells x ++ cFlow l := rfl
 refine ⟨?_, fun hn => ?_⟩
 ·
  have := h.1
  rw [hc, List.length_append, TFlow.len] at this
  omega
 ·
  obtain ⟨b', off', e, h1, h2, h3⟩ := h.2 (by omega)
  cases e
  refine ⟨b, off + 3, rfl, h1, h2, fun j u hu => ?_⟩
  rw [Nat.add_assoc]
  refine h3 (3 + j) u ?_
  rw [hc, List.getElem?_append_right (by rw [TFlow.len]; omega), TFlow.len]
  simpa using hu

set_option maxHeartbeats 4000000 in
theorem any_OwF (p : TFlow → Bool) (lb : Array Value) (l : List TFlow) (A : Option Addr) (n c lo hi : Nat) (w : World) (hn : n ≤ 17592186044416) (hcap : n ≤ c)
  (hr : Rd w lo hi 3 A n (cFlow l)) (hp : PredB Tryz.prog 178 lb (fun x : TFlow => .agg #[.int .i64 x.f0, .int .i64 x.f1, .int .i64 x.f2]) p l w) :
  Calls Tryz.prog 177 #[.slice A n c, .func (.func 178) #[] lb] w (Says (.bool (l.any p)) w) := by
 have HR := Lib.hid hr
 have HP := Lib.hid hp
 clear hr hp
 go_enter Tryz.func177, Tryz.ntmps177
 go_wp2_with fail
 go_loopg [0] n (fun gg v wr => ∃ (A' : Option Addr) (n' c' : Nat) (l' : List TFlow), v = .slice A' n' c' ∧ n' ≤ gg ∧ n' ≤ n ∧ n' ≤ c' ∧ Hid (Rd wr lo hi 3 A' n' (cFlow l')) ∧ Hid (∀ x, x ∈ l' → x ∈ l) ∧ Hid (l.any p = l'.any p) ∧ Hid (Below w.heap.size w wr))
 case atStart => exact ⟨_, _, _, l, rfl, Nat.le_refl _, Nat.le_refl _, hcap, HR, Lib.hid (fun _ h => h), Lib.hid rfl, Lib.hid (Below.refl _ _)⟩
 case round =>
  obtain ⟨A', n', c', l', rfl, hg, hn', hcc, HR', HM, HA, HB⟩ := hrel
  cases l' with
  | nil =>
   obtain rfl : n' = 0 := by have := HR'.out.1; simp at this; omega
   have HE := Lib.hid (show l.any p = false from HA.out)
   go_wp2_with fail
   go_ret
   exact ⟨by rw [HE.out]; rfl, HB.out⟩
  | cons x t =>
   have HL := Lib.hid (rd_len TFlow.len HR'.out (by decide))
   obtain ⟨m, rfl⟩ : ∃ m, n' = m + 1 := ⟨t.length, by have := HL.out; simp at this; omega⟩
   obtain ⟨b, off, x', rfl, _, _, hz, hc⟩ := rd_elem (k := 0) TFlow.len HR'.out HL.out (by omega)
   obtain rfl : x = x' := by simpa using hz
   have c0 : wr.cell? ⟨b, off, none⟩ = some (.int .i64 x.f0) := by simpa using hc 0 _ rfl
   have c1 : wr.cell? ⟨b, off + 1, none⟩ = some (.int .i64 x.f1) := by simpa using hc 1 _ rfl
   have c2 : wr.cell? ⟨b, off + 2, none⟩ = some (.int .i64 x.f2) := by simpa using hc 2 _ rfl
   have HT := Lib.hid (rd_tailOwF HR'.out)
   have hcall := HP.out wr x (HM.out x (by simp)) HB.out
   have HMt := Lib.hid (fun y (h : y ∈ t) => HM.out y (List.mem_cons_of_mem _ h))
   clear hc hz HR' HM
   cases hq : p x with
   | true =>
    rw [hq] at hcall
    have HE := Lib.hid (show l.any p = true by rw [HA.out, List.any_cons, hq]; rfl)
    clear hq HA
    go_wp2_with (go_at_call 178; refine hcall.mono ?_; rintro e w1 ⟨rfl, hb1⟩; have HB1 := Lib.hid hb1; clear hb1)
    go_ret
    exact ⟨by rw [HE.out]; rfl, below_trans HB.out HB1.out (Nat.le_refl _)⟩
   | false =>
    rw [hq] at hcall
    have HE := Lib.hid (show l.any p = t.any p by rw [HA.out, List.any_cons, hq]; rfl)
    clear hq HA
    rcases Nat.eq_zero_or_pos m with rfl | hm
    ·
     obtain rfl : t = [] := by have := HL.out; simpa using this
     go_wp2_with (go_at_call 178; refine hcall.mono ?_; rintro e w1 ⟨rfl, hb1⟩; have HB1 := Lib.hid hb1; clear hb1)
     go_roundg 0
     case measure => omega
     case rel => exact ⟨_, _, _, [], rfl, Nat.le_refl _, by omega, by omega, Lib.hid Rd.empty, HMt, HE, Lib.hid (below_trans HB.out HB1.out (Nat.le_refl _))⟩
    ·
     go_wp2_with (go_at_call 178; refine hcall.mono ?_; rintro e w1 ⟨rfl, hb1⟩; have HB1 := Lib.hid hb1; clear hb1)
     go_roundg m
     case measure => omega
     case rel => exact ⟨_, _, _, t, rfl, by omega, by omega, by omega, Lib.hid (HT.out.new HB1.out), HMt, HE, Lib.hid (below_trans HB.out HB1.out (Nat.le_refl _))⟩

theorem nots_OwF (p : TFlow → Bool) (lb : Array Value) (l : List TFlow) (B : Nat) (w : World) (hq : w.cell? ⟨B, 0, none⟩ = some (.func (.func 134) #[] lb))
  (hp : PredB Tryz.prog 134 lb (fun x : TFlow => .agg #[.int .i64 x.f0, .int .i64 x.f1, .int .i64 x.f2]) p l w) : PredB Tryz.prog 178 #[.pointer (some ⟨B, 0, none⟩)] (fun x : TFlow => .agg #[.int .i64 x.f0, .int .i64 x.f1, .int .i64 x.f2]) (fun x => !p x) l w := fun W x hx hb => by
 have c0 := cell_nw hb hq
 have HC := Lib.hid (show Calls Tryz.prog 134 (#[.agg #[.int .i64 x.f0, .int .i64 x.f1, .int .i64 x.f2]] ++ lb) (W.alloc (.cells #[.int .i64 x.f0, .int .i64 x.f1, .int .i64 x.f2] 109)) _ from hp _ x hx (hb.alloc (by have := hb.size; omega) _))
 have m0 : B < W.heap.size := World.block_lt_of_cell? _ _ c0
 have n0 : B ≠ W.heap.size := Nat.ne_of_lt m0
 clear hb hq hp
 change Calls Tryz.prog _ #[.agg #[.int .i64 x.f0, .int .i64 x.f1, .int .i64 x.f2], .pointer (some ⟨B, 0, none⟩)] _ (Says (.bool (!p x)) W)
 generalize p x = q at HC ⊢
 cases q
 all_goals
  go_enter Tryz.func178, Tryz.ntmps178
  go_wp2_with (go_at_call 134; refine HC.out.mono ?_; rintro e w1 ⟨rfl, hb1⟩; have HB1 := Lib.hid (below_trans ((Below.refl _ _).alloc (Nat.le_refl _) _) hb1 (by simp)); clear hb1)
  go_ret
  exact ⟨rfl, HB1.out⟩
set_option maxHeartbeats 4000000 in
theorem all_OwF (p : TFlow → Bool) (lb : Array Value) (l : List TFlow) (A : Option Addr) (n c lo hi : Nat) (w : World) (hn : n ≤ 17592186044416) (hcap : n ≤ c)
  (hr : Rd w lo hi 3 A n (cFlow l)) (hp : PredB Tryz.prog 134 lb (fun x : TFlow => .agg #[.int .i64 x.f0, .int .i64 x.f1, .int .i64 x.f2]) p l w) :
  Calls Tryz.prog 133 #[.slice A n c, .func (.func 134) #[] lb] w (Says (.bool (l.all p)) w) := by
 have hmf : ∀ (fn : Fn) (first cap : Array Value) (w : World), (Instr.makeFunc fn first cap).run Tryz.prog w = .ok (.func fn first cap) w := fun _ _ _ _ => rfl
 have HC := any_OwF (fun x => !p x) #[.pointer (some ⟨w.heap.size, 0, none⟩)] l A n c lo hi (w.alloc (.cells #[.func (.func 134) #[] lb] 107)) hn hcap (hr.alloc _)
  (nots_OwF p lb l w.heap.size _ (cell_newest (by simp) rfl) (fun W x hx hb => hp W x hx (below_trans ((Below.refl _ _).alloc (Nat.le_refl _) _) hb (by simp))))
 have hE : l.all p = !(l.any fun x => !p x) := by rw [List.all_eq_not_any_not]
 rw [hE]
 clear hr hp hE
 generalize (l.any fun x => !p x) = q at HC ⊢
 have HC := Lib.hid HC
 cases q
 all_goals
  go_enter Tryz.func133, Tryz.ntmps133
  go_wp2_with fail
  refine HC.out.mono ?_
  rintro e w1 ⟨rfl, hb1⟩
  have HB1 := Lib.hid (below_trans ((Below.refl _ _).alloc (Nat.le_refl _) _) hb1 (by simp))
  clear hb1
  go_wp2_with fail
  go_ret
  exact ⟨rfl, HB1.out⟩

theorem impl_extOfFlow (x : TFlow) (w : World) : Calls Tryz.prog 92 #[.agg #[.int .i64 x.f0, .int .i64 x.f1, .int .i64 x.f2]] w (Says (.int .i64 x.f0) w) := by
 go_enter Tryz.func92, Tryz.ntmps92
 go_wp2_with fail
 go_ret
 exact ⟨rfl, (Below.refl _ _).alloc (Nat.le_refl _) _⟩
def pPkF (e : Int) (x : TFlow) : Bool := mIsFlow x && x.f0 == e
def mPkF (l : List TFlow) (e : Int) : Bool := decide (l.length ≤ 6) && l.all (pPkF e)

set_option maxHeartbeats 8000000 in
theorem clo_OwF (e : Int) (B1 B2 B3 : Nat) (l : List TFlow) (w : World) (h1 : BoxAt w B1 107 #[.func (.func 91) #[] #[]]) (h2 : BoxAt w B2 136 #[.func (.func 92) #[] #[]]) (h3 : BoxAt w B3 3 #[.int .i64 e]) :
  PredB Tryz.prog 134 #[.pointer (some ⟨B1, 0, none⟩), .pointer (some ⟨B2, 0, none⟩), .pointer (some ⟨B3, 0, none⟩)] (fun x : TFlow => .agg #[.int .i64 x.f0, .int .i64 x.f1, .int .i64 x.f2]) (pPkF e) l w := fun W x _ hb => by
 have K1 := (h1.new hb).alloc_ (.cells #[.int .i64 x.f0, .int .i64 x.f1, .int .i64 x.f2] 109)
 have K2 := (h2.new hb).alloc_ (.cells #[.int .i64 x.f0, .int .i64 x.f1, .int .i64 x.f2] 109)
 have K3 := (h3.new hb).alloc_ (.cells #[.int .i64 x.f0, .int .i64 x.f1, .int .i64 x.f2] 109)
 have m1 : B1 < W.heap.size := (h1.new hb).lt
 have m2 : B2 < W.heap.size := (h2.new hb).lt
 have m3 : B3 < W.heap.size := (h3.new hb).lt
 have KX := box_new W 109 #[.int .i64 x.f0, .int .i64 x.f1, .int .i64 x.f2]
 have HBx : Below W.heap.size W (W.alloc (.cells #[.int .i64 x.f0, .int .i64 x.f1, .int .i64 x.f2] 109)) := (Below.refl _ _).alloc (Nat.le_refl _) _
 have C0 := Lib.hid (fun V => impl_IsFlow x V)
 have C1 := Lib.hid (fun V => impl_extOfFlow x V)
 clear h1 h2 h3 hb
 change Calls Tryz.prog _ #[.agg #[.int .i64 x.f0, .int .i64 x.f1, .int .i64 x.f2], .pointer (some ⟨B1, 0, none⟩), .pointer (some ⟨B2, 0, none⟩), .pointer (some ⟨B3, 0, none⟩)] _ (Says (.bool (mIsFlow x && x.f0 == e)) W)
 generalize mIsFlow x = r at C0 ⊢
 go_enter Tryz.func134, Tryz.ntmps134
 go_wp2_with fail
 refine wp_region_held_drew (S := fun w' => BoxAt w' W.heap.size 109 #[.int .i64 x.f0, .int .i64 x.f1, .int .i64 x.f2] ∧ BoxAt w' B1 107 #[.func (.func 91) #[] #[]] ∧ BoxAt w' B2 136 #[.func (.func 92) #[] #[]] ∧ BoxAt w' B3 3 #[.int .i64 e] ∧ Below W.heap.size W w') (by kernel_rfl) ?_ (fun hHeld => ?_)
 ·
  exact ⟨KX.drw, K1.drw, K2.drw, K3.drw, HBx.drew⟩
 refine tl 0 6 hHeld rfl ?_ (by intro W hS; obtain ⟨c0_0, c0_1, c0_2⟩ := (hS.1).p3; have c1_0 := (hS.2.1).at_ (j := 0) rfl; have c2_0 := (hS.2.2.1).at_ (j := 0) rfl; have c3_0 := (hS.2.2.2.1).at_ (j := 0) rfl; clear hS; go_simp; try with_reducible rfl); try simp only [ptl]
 refine tl 1 7 hHeld rfl ?_ (by intro W hS; obtain ⟨c0_0, c0_1, c0_2⟩ := (hS.1).p3; have c1_0 := (hS.2.1).at_ (j := 0) rfl; have c2_0 := (hS.2.2.1).at_ (j := 0) rfl; have c3_0 := (hS.2.2.2.1).at_ (j := 0) rfl; clear hS; go_simp; try with_reducible rfl); try simp only [ptl]
 refine rd1 (i := 2) (o := ⟨some 8, _, _, _, _, _⟩) rfl (fun K hK => ?_)
 go_simp
 refine Calls.mono (C0.out _) ?_
 rintro e x1 ⟨rfl, hb1⟩
 refine hK.out _ _ ⟨hHeld.1.new hb1, hHeld.2.1.new hb1, hHeld.2.2.1.new hb1, hHeld.2.2.2.1.new hb1, below_trans hHeld.2.2.2.2 hb1 (Nat.le_refl _)⟩ (fun hHeld' => ?_)
 clear hK K hHeld hb1; have hHeld := hHeld'; clear hHeld'
 try simp only [ptl]
 cases r
 ·
  refine tz 3 9 hHeld ?_; try simp only [ptl]
  refine tu (i := 4) (oi := ⟨some 10, _, _, _, _, _⟩) rfl hHeld ?_; try simp only [ptl]
  refine tu (i := 5) (oi := ⟨some 11, _, _, _, _, _⟩) rfl hHeld ?_; try simp only [ptl]
  refine tu (i := 7) (oi := ⟨some 13, _, _, _, _, _⟩) rfl hHeld ?_; try simp only [ptl]
  refine tu (i := 6) (oi := ⟨some 12, _, _, _, _, _⟩) rfl hHeld ?_; try simp only [ptl]
  refine tu (i := 8) (oi := ⟨some 14, _, _, _, _, _⟩) rfl hHeld ?_; try simp only [ptl]
  refine tz 9 15 hHeld ?_; try simp only [ptl]
  refine tz 10 5 hHeld ?_; try simp only [ptl]
  refine wpAnyH_done (by kernel_rfl) ?_ _
  go_wp2_with fail
  go_ret
  exact ⟨by first | rfl | simp [h8], hHeld.2.2.2.2⟩
 ·
  refine tz 3 9 hHeld ?_; try simp only [ptl]
  refine tl 4 10 hHeld rfl ?_ (by intro W hS; obtain ⟨c0_0, c0_1, c0_2⟩ := (hS.1).p3; have c1_0 := (hS.2.1).at_ (j := 0) rfl; have c2_0 := (hS.2.2.1).at_ (j := 0) rfl; have c3_0 := (hS.2.2.2.1).at_ (j := 0) rfl; clear hS; go_simp; try with_reducible rfl); try simp only [ptl]
  refine tl 5 11 hHeld rfl ?_ (by intro W hS; obtain ⟨c0_0, c0_1, c0_2⟩ := (hS.1).p3; have c1_0 := (hS.2.1).at_ (j := 0) rfl; have c2_0 := (hS.2.2.1).at_ (j := 0) rfl; have c3_0 := (hS.2.2.2.1).at_ (j := 0) rfl; clear hS; go_simp; try with_reducible rfl); try simp only [ptl]
  refine tl 7 13 hHeld rfl ?_ (by intro W hS; obtain ⟨c0_0, c0_1, c0_2⟩ := (hS.1).p3; have c1_0 := (hS.2.1).at_ (j := 0) rfl; have c2_0 := (hS.2.2.1).at_ (j := 0) rfl; have c3_0 := (hS.2.2.2.1).at_ (j := 0) rfl; clear hS; go_simp; try with_reducible rfl); try simp only [ptl]
  refine rd1 (i := 6) (o := ⟨some 12, _, _, _, _, _⟩) rfl (fun K hK => ?_)
  go_simp
  refine Calls.mono (C1.out _) ?_
  rintro e x2 ⟨rfl, hb1⟩
  refine hK.out _ _ ⟨hHeld.1.new hb1, hHeld.2.1.new hb1, hHeld.2.2.1.new hb1, hHeld.2.2.2.1.new hb1, below_trans hHeld.2.2.2.2 hb1 (Nat.le_refl _)⟩ (fun hHeld' => ?_)
  clear hK K hHeld hb1; have hHeld := hHeld'; clear hHeld'
  try simp only [ptl]
  by_cases h8 : (x.f0 == e) = true
  ·
   refine tz 8 14 hHeld ?_; try simp only [ptl]
   refine tz 9 15 hHeld ?_; try simp only [ptl]
   refine tz 10 5 hHeld ?_; try simp only [ptl]
   refine wpAnyH_done (by kernel_rfl) ?_ _
   go_wp2_with fail
   go_ret
   exact ⟨by first | rfl | simp [h8], hHeld.2.2.2.2⟩
  ·
   have h8 : (x.f0 == e) = false := by simpa using h8
   refine tz 8 14 hHeld ?_; try simp only [ptl]
   refine tz 9 15 hHeld ?_; try simp only [ptl]
   refine tz 10 5 hHeld ?_; try simp only [ptl]
   refine wpAnyH_done (by kernel_rfl) ?_ _
   go_wp2_with fail
   go_ret
   exact ⟨by first | rfl | simp [h8], hHeld.2.2.2.2⟩

set_option maxHeartbeats 8000000 in
theorem impl_areOwnFlow (l : List TFlow) (A : Option Addr) (n c lo hi : Nat) (e : Int) (w : World) (hn : n ≤ 1048576) (hr : Rd w lo hi 3 A n (cFlow l)) (hcap : n ≤ c) :
  Calls Tryz.prog 90 #[.slice A n c, .int .i64 6, .func (.func 91) #[] #[], .int .i64 e, .func (.func 92) #[] #[]] w (Says (.bool (mPkF l e)) w) := by
 have hmf : ∀ (fn : Fn) (first cap : Array Value) (w : World), (Instr.makeFunc fn first cap).run Tryz.prog w = .ok (.func fn first cap) w := fun _ _ _ _ => rfl
 have HL := Lib.hid (rd_len TFlow.len hr (by decide))
 have k1 : BoxAt (((w.alloc (.cells #[.func (.func 91) #[] #[]] 107)).alloc (.cells #[.int .i64 e] 3)).alloc (.cells #[.func (.func 92) #[] #[]] 136)) w.heap.size 107 #[.func (.func 91) #[] #[]] := ((box_new _ _ _ : BoxAt (w.alloc (.cells #[.func (.func 91) #[] #[]] 107)) _ _ _).alloc_ _).alloc_ _
 have k2 : BoxAt (((w.alloc (.cells #[.func (.func 91) #[] #[]] 107)).alloc (.cells #[.int .i64 e] 3)).alloc (.cells #[.func (.func 92) #[] #[]] 136)) (w.heap.size + 1 + 1) 136 #[.func (.func 92) #[] #[]] := by simpa using box_new ((w.alloc (.cells #[.func (.func 91) #[] #[]] 107)).alloc (.cells #[.int .i64 e] 3)) 136 #[.func (.func 92) #[] #[]]
 have k3 : BoxAt (((w.alloc (.cells #[.func (.func 91) #[] #[]] 107)).alloc (.cells #[.int .i64 e] 3)).alloc (.cells #[.func (.func 92) #[] #[]] 136)) (w.heap.size + 1) 3 #[.int .i64 e] := (show BoxAt ((w.alloc (.cells #[.func (.func 91) #[] #[]] 107)).alloc (.cells #[.int .i64 e] 3)) (w.heap.size + 1) 3 #[.int .i64 e] by simpa using box_new (w.alloc (.cells #[.func (.func 91) #[] #[]] 107)) 3 #[.int .i64 e]).alloc_ _
 have HC := Lib.hid (all_OwF (pPkF e) #[.pointer (some ⟨w.heap.size, 0, none⟩), .pointer (some ⟨w.heap.size + 1 + 1, 0, none⟩), .pointer (some ⟨w.heap.size + 1, 0, none⟩)] l A n c lo hi (((w.alloc (.cells #[.func (.func 91) #[] #[]] 107)).alloc (.cells #[.int .i64 e] 3)).alloc (.cells #[.func (.func 92) #[] #[]] 136)) (by omega) hcap (((hr.alloc _).alloc _).alloc _) (clo_OwF e _ _ _ l _ k1 k2 k3))
 have HB0 := Lib.hid (show Below w.heap.size w (((w.alloc (.cells #[.func (.func 91) #[] #[]] 107)).alloc (.cells #[.int .i64 e] 3)).alloc (.cells #[.func (.func 92) #[] #[]] 136)) from (((Below.refl _ _).alloc (Nat.le_refl _) _).alloc (by simp) _).alloc (by simp <;> omega) _)
 clear k1 k2 k3 hr
 unfold mPkF
 rw [HL.out]
 generalize l.all (pPkF e) = q at HC ⊢
 by_cases h6 : n ≤ 6
 ·
  have g6 : decide ((n : Int) ≤ 6) = true := by simp; omega
  have g7 : decide (n ≤ 6) = true := decide_eq_true h6
  rw [g7]
  clear g7
  go_enter Tryz.func90, Tryz.ntmps90
  go_wp2_with fail
  refine HC.out.mono ?_
  rintro e w1 ⟨rfl, hb1⟩
  have HB1 := Lib.hid (below_trans HB0.out hb1 (by simp <;> omega))
  clear hb1
  go_wp2_with fail
  go_ret
  exact ⟨by cases q <;> rfl, HB1.out⟩
 ·
  have g6 : decide ((n : Int) ≤ 6) = false := by simp; omega
  have g7 : decide (n ≤ 6) = false := decide_eq_false h6
  rw [g7]
  clear g7
  go_enter Tryz.func90, Tryz.ntmps90
  go_wp2_with fail
  go_ret
  exact ⟨rfl, HB0.out⟩

end Go.Proofs.YtkedacmpmancbaaGreatDoor
namespace Go.Proofs.YtkedacmpmancbaaGreatDoor
open Go Go.ChangeShapes Go.WideShapes Go.ChangeAt Go.RowKit Go.Lib
set_option linter.unusedVariables false
set_option linter.unusedSimpArgs false
set_option maxRecDepth 100000
theorem rd_tailOwR {w : World} {lo hi n b off : Nat} {x : TRule} {l : List TRule} (h : Rd w lo hi 8 (some ⟨b, off, none⟩) (n + 1) (cRule (x :: l))) :
  Rd w lo hi 8 (some ⟨b, off + 8, none⟩) n (cRule l) := by
 have hc : cRule (x :: l) = TRule.cells x ++ cRule l := rfl
 refine ⟨?_, fun hn => ?_⟩
 ·
  have := h.1
  rw [hc, List.length_append, TRule.len] at this
  omega
 ·
  obtain ⟨b', off', e, h1, h2, h3⟩ := h.2 (by omega)
  cases e
  refine ⟨b, off + 8, rfl, h1, h2, fun j u hu => ?_⟩
  rw [Nat.add_assoc]
  refine h3 (8 + j) u ?_
  rw [hc, List.getElem?_append_right (by rw [TRule.len]; omega), TRule.len]
  simpa using hu

set_option maxHeartbeats 4000000 in
theorem any_OwR (p : TRule → Bool) (lb : Array Value) (l : List TRule) (A : Option Addr) (n c lo hi : Nat) (w : World) (hn : n ≤ 17592186044416) (hcap : n ≤ c)
  (hr : Rd w lo hi 8 A n (cRule l)) (hp : PredB Tryz.prog 180 lb (fun x : TRule => .agg #[.int .i64 x.f0, .int .i64 x.f1, .int .i64 x.f2, .int .i64 x.f3, .int .i64 x.f4, .int .i64 x.f5, .int .i64 x.f6, .int .i64 x.f7]) p l w) :
  Calls Tryz.prog 179 #[.slice A n c, .func (.func 180) #[] lb] w (Says (.bool (l.any p)) w) := by
 have HR := Lib.hid hr
 have HP := Lib.hid hp
 clear hr hp
 go_enter Tryz.func179, Tryz.ntmps179
 go_wp2_with fail
 go_loopg [0] n (fun gg v wr => ∃ (A' : Option Addr) (n' c' : Nat) (l' : List TRule), v = .slice A' n' c' ∧ n' ≤ gg ∧ n' ≤ n ∧ n' ≤ c' ∧ Hid (Rd wr lo hi 8 A' n' (cRule l')) ∧ Hid (∀ x, x ∈ l' → x ∈ l) ∧ Hid (l.any p = l'.any p) ∧ Hid (Below w.heap.size w wr))
 case atStart => exact ⟨_, _, _, l, rfl, Nat.le_refl _, Nat.le_refl _, hcap, HR, Lib.hid (fun _ h => h), Lib.hid rfl, Lib.hid (Below.refl _ _)⟩
 case round =>
  obtain ⟨A', n', c', l', rfl, hg, hn', hcc, HR', HM, HA, HB⟩ := hrel
  cases l' with
  | nil =>
   obtain rfl : n' = 0 := by have := HR'.out.1; simp at this; omega
   have HE := Lib.hid (show l.any p = false from HA.out)
   go_wp2_with fail
   go_ret
   exact ⟨by rw [HE.out]; rfl, HB.out⟩
  | cons x t =>
   have HL := Lib.hid (rd_len TRule.len HR'.out (by decide))
   obtain ⟨m, rfl⟩ : ∃ m, n' = m + 1 := ⟨t.length, by have := HL.out; simp at this; omega⟩
   obtain ⟨b, off, x', rfl, _, _, hz, hc⟩ := rd_elem (k := 0) TRule.len HR'.out HL.out (by omega)
   obtain rfl : x = x' := by simpa using hz
   have c0 : wr.cell? ⟨b, off, none⟩ = some (.int .i64 x.f0) := by simpa using hc 0 _ rfl
   have c1 : wr.cell? ⟨b, off + 1, none⟩ = some (.int .i64 x.f1) := by simpa using hc 1 _ rfl
   have c2 : wr.cell? ⟨b, off + 2, none⟩ = some (.int .i64 x.f2) := by simpa using hc 2 _ rfl
   have c3 : wr.cell? ⟨b, off + 3, none⟩ = some (.int .i64 x.f3) := by simpa using hc 3 _ rfl
   have c4 : wr.cell? ⟨b, off + 4, none⟩ = some (.int .i64 x.f4) := by simpa using hc 4 _ rfl
   have c5 : wr.cell? ⟨b, off + 5, none⟩ = some (.int .i64 x.f5) := by simpa using hc 5 _ rfl
   have c6 : wr.cell? ⟨b, off + 6, none⟩ = some (.int .i64 x.f6) := by simpa using hc 6 _ rfl
   have c7 : wr.cell? ⟨b, off + 7, none⟩ = some (.int .i64 x.f7) := by simpa using hc 7 _ rfl
   have HT := Lib.hid (rd_tailOwR HR'.out)
   have hcall := HP.out wr x (HM.out x (by simp)) HB.out
   have HMt := Lib.hid (fun y (h : y ∈ t) => HM.out y (List.mem_cons_of_mem _ h))
   clear hc hz HR' HM
   cases hq : p x with
   | true =>
    rw [hq] at hcall
    have HE := Lib.hid (show l.any p = true by rw [HA.out, List.any_cons, hq]; rfl)
    clear hq HA
    go_wp2_with (go_at_call 180; refine hcall.mono ?_; rintro e w1 ⟨rfl, hb1⟩; have HB1 := Lib.hid hb1; clear hb1)
    go_ret
    exact ⟨by rw [HE.out]; rfl, below_trans HB.out HB1.out (Nat.le_refl _)⟩
   | false =>
    rw [hq] at hcall
    have HE := Lib.hid (show l.any p = t.any p by rw [HA.out, List.any_cons, hq]; rfl)
    clear hq HA
    rcases Nat.eq_zero_or_pos m with rfl | hm
    ·
     obtain rfl : t = [] := by have := HL.out; simpa using this
     go_wp2_with (go_at_call 180; refine hcall.mono ?_; rintro e w1 ⟨rfl, hb1⟩; have HB1 := Lib.hid hb1; clear hb1)
     go_roundg 0
     case measure => omega
     case rel => exact ⟨_, _, _, [], rfl, Nat.le_refl _, by omega, by omega, Lib.hid Rd.empty, HMt, HE, Lib.hid (below_trans HB.out HB1.out (Nat.le_refl _))⟩
    ·
     go_wp2_with (go_at_call 180; refine hcall.mono ?_; rintro e w1 ⟨rfl, hb1⟩; have HB1 := Lib.hid hb1; clear hb1)
     go_roundg m
     case measure => omega
     case rel => exact ⟨_, _, _, t, rfl, by omega, by omega, by omega, Lib.hid (HT.out.new HB1.out), HMt, HE, Lib.hid (below_trans HB.out HB1.out (Nat.le_refl _))⟩

theorem nots_OwR (p : TRule → Bool) (lb : Array Value) (l : List TRule) (B : Nat) (w : World) (hq : w.cell? ⟨B, 0, none⟩ = some (.func (.func 136) #[] lb))
  (hp : PredB Tryz.prog 136 lb (fun x : TRule => .agg #[.int .i64 x.f0, .int .i64 x.f1, .int .i64 x.f2, .int .i64 x.f3, .int .i64 x.f4, .int .i64 x.f5, .int .i64 x.f6, .int .i64 x.f7]) p l w) : PredB Tryz.prog 180 #[.pointer (some ⟨B, 0, none⟩)] (fun x : TRule => .agg #[.int .i64 x.f0, .int .i64 x.f1, .int .i64 x.f2, .int .i64 x.f3, .int .i64 x.f4, .int .i64 x.f5, .int .i64 x.f6, .int .i64 x.f7]) (fun x => !p x) l w := fun W x hx hb => by
 have c0 := cell_nw hb hq
 have HC := Lib.hid (show Calls Tryz.prog 136 (#[.agg #[.int .i64 x.f0, .int .i64 x.f1, .int .i64 x.f2, .int .i64 x.f3, .int .i64 x.f4, .int .i64 x.f5, .int .i64 x.f6, .int .i64 x.f7]] ++ lb) (W.alloc (.cells #[.int .i64 x.f0, .int .i64 x.f1, .int .i64 x.f2, .int .i64 x.f3, .int .i64 x.f4, .int .i64 x.f5, .int .i64 x.f6, .int .i64 x.f7] 113)) _ from hp _ x hx (hb.alloc (by have := hb.size; omega) _))
 have m0 : B < W.heap.size := World.block_lt_of_cell? _ _ c0
 have n0 : B ≠ W.heap.size := Nat.ne_of_lt m0
 clear hb hq hp
 change Calls Tryz.prog _ #[.agg #[.int .i64 x.f0, .int .i64 x.f1, .int .i64 x.f2, .int .i64 x.f3, .int .i64 x.f4, .int .i64 x.f5, .int .i64 x.f6, .int .i64 x.f7], .pointer (some ⟨B, 0, none⟩)] _ (Says (.bool (!p x)) W)
 generalize p x = q at HC ⊢
 cases q
 all_goals
  go_enter Tryz.func180, Tryz.ntmps180
  go_wp2_with (go_at_call 136; refine HC.out.mono ?_; rintro e w1 ⟨rfl, hb1⟩; have HB1 := Lib.hid (below_trans ((Below.refl _ _).alloc (Nat.le_refl _) _) hb1 (by simp)); clear hb1)
  go_ret
  exact ⟨rfl, HB1.out⟩
set_option maxHeartbeats 4000000 in
theorem all_OwR (p : TRule → Bool) (lb : Array Value) (l : List TRule) (A : Option Addr) (n c lo hi : Nat) (w : World) (hn : n ≤ 17592186044416) (hcap : n ≤ c)
  (hr : Rd w lo hi 8 A n (cRule l)) (hp : PredB Tryz.prog 136 lb (fun x : TRule => .agg #[.int .i64 x.f0, .int .i64 x.f1, .int .i64 x.f2, .int .i64 x.f3, .int .i64 x.f4, .int .i64 x.f5, .int .i64 x.f6, .int .i64 x.f7]) p l w) :
  Calls Tryz.prog 135 #[.slice A n c, .func (.func 136) #[] lb] w (Says (.bool (l.all p)) w) := by
 have hmf : ∀ (fn : Fn) (first cap : Array Value) (w : World), (Instr.makeFunc fn first cap).run Tryz.prog w = .ok (.func fn first cap) w := fun _ _ _ _ => rfl
 have HC := any_OwR (fun x => !p x) #[.pointer (some ⟨w.heap.size, 0, none⟩)] l A n c lo hi (w.alloc (.cells #[.func (.func 136) #[] lb] 110)) hn hcap (hr.alloc _)
  (nots_OwR p lb l w.heap.size _ (cell_newest (by simp) rfl) (fun W x hx hb => hp W x hx (below_trans ((Below.refl _ _).alloc (Nat.le_refl _) _) hb (by simp))))
 have hE : l.all p = !(l.any fun x => !p x) := by rw [List.all_eq_not_any_not]
 rw [hE]
 clear hr hp hE
 generalize (l.any fun x => !p x) = q at HC ⊢
 have HC := Lib.hid HC
 cases q
 all_goals
  go_enter Tryz.func135, Tryz.ntmps135
  go_wp2_with fail
  refine HC.out.mono ?_
  rintro e w1 ⟨rfl, hb1⟩
  have HB1 := Lib.hid (below_trans ((Below.refl _ _).alloc (Nat.le_refl _) _) hb1 (by simp))
  clear hb1
  go_wp2_with fail
  go_ret
  exact ⟨rfl, HB1.out⟩

theorem impl_extOfRule (x : TRule) (w : World) : Calls Tryz.prog 95 #[.agg #[.int .i64 x.f0, .int .i64 x.f1, .int .i64 x.f2, .int .i64 x.f3, .int .i64 x.f4, .int .i64 x.f5, .int .i64 x.f6, .int .i64 x.f7]] w (Says (.int .i64 x.f0) w) := by
 go_enter Tryz.func95, Tryz.ntmps95
 go_wp2_with fail
 go_ret
 exact ⟨rfl, (Below.refl _ _).alloc (Nat.le_refl _) _⟩
def pPkR (e : Int) (x : TRule) : Bool := mIsRule x && x.f0 == e
def mPkR (l : List TRule) (e : Int) : Bool := decide (l.length ≤ 6) && l.all (pPkR e)

set_option maxHeartbeats 8000000 in
theorem clo_OwR (e : Int) (B1 B2 B3 : Nat) (l : List TRule) (w : World) (h1 : BoxAt w B1 110 #[.func (.func 94) #[] #[]]) (h2 : BoxAt w B2 138 #[.func (.func 95) #[] #[]]) (h3 : BoxAt w B3 3 #[.int .i64 e]) :
  PredB Tryz.prog 136 #[.pointer (some ⟨B1, 0, none⟩), .pointer (some ⟨B2, 0, none⟩), .pointer (some ⟨B3, 0, none⟩)] (fun x : TRule => .agg #[.int .i64 x.f0, .int .i64 x.f1, .int .i64 x.f2, .int .i64 x.f3, .int .i64 x.f4, .int .i64 x.f5, .int .i64 x.f6, .int .i64 x.f7]) (pPkR e) l w := fun W x _ hb => by
 have K1 := (h1.new hb).alloc_ (.cells #[.int .i64 x.f0, .int .i64 x.f1, .int .i64 x.f2, .int .i64 x.f3, .int .i64 x.f4, .int .i64 x.f5, .int .i64 x.f6, .int .i64 x.f7] 113)
 have K2 := (h2.new hb).alloc_ (.cells #[.int .i64 x.f0, .int .i64 x.f1, .int .i64 x.f2, .int .i64 x.f3, .int .i64 x.f4, .int .i64 x.f5, .int .i64 x.f6, .int .i64 x.f7] 113)
 have K3 := (h3.new hb).alloc_ (.cells #[.int .i64 x.f0, .int .i64 x.f1, .int .i64 x.f2, .int .i64 x.f3, .int .i64 x.f4, .int .i64 x.f5, .int .i64 x.f6, .int .i64 x.f7] 113)
 have m1 : B1 < W.heap.size := (h1.new hb).lt
 have m2 : B2 < W.heap.size := (h2.new hb).lt
 have m3 : B3 < W.heap.size := (h3.new hb).lt
 have KX := box_new W 113 #[.int .i64 x.f0, .int .i64 x.f1, .int .i64 x.f2, .int .i64 x.f3, .int .i64 x.f4, .int .i64 x.f5, .int .i64 x.f6, .int .i64 x.f7]
 have HBx : Below W.heap.size W (W.alloc (.cells #[.int .i64 x.f0, .int .i64 x.f1, .int .i64 x.f2, .int .i64 x.f3, .int .i64 x.f4, .int .i64 x.f5, .int .i64 x.f6, .int .i64 x.f7] 113)) := (Below.refl _ _).alloc (Nat.le_refl _) _
 have C0 := Lib.hid (fun V => impl_IsRule x V)
 have C1 := Lib.hid (fun V => impl_extOfRule x V)
 clear h1 h2 h3 hb
 change Calls Tryz.prog _ #[.agg #[.int .i64 x.f0, .int .i64 x.f1, .int .i64 x.f2, .int .i64 x.f3, .int .i64 x.f4, .int .i64 x.f5, .int .i64 x.f6, .int .i64 x.f7], .pointer (some ⟨B1, 0, none⟩), .pointer (some ⟨B2, 0, none⟩), .pointer (some ⟨B3, 0, none⟩)] _ (Says (.bool (mIsRule x && x.f0 == e)) W)
 generalize mIsRule x = r at C0 ⊢
 go_enter Tryz.func136, Tryz.ntmps136
 go_wp2_with fail
 refine wp_region_held_drew (S := fun w' => BoxAt w' W.heap.size 113 #[.int .i64 x.f0, .int .i64 x.f1, .int .i64 x.f2, .int .i64 x.f3, .int .i64 x.f4, .int .i64 x.f5, .int .i64 x.f6, .int .i64 x.f7] ∧ BoxAt w' B1 110 #[.func (.func 94) #[] #[]] ∧ BoxAt w' B2 138 #[.func (.func 95) #[] #[]] ∧ BoxAt w' B3 3 #[.int .i64 e] ∧ Below W.heap.size W w') (by kernel_rfl) ?_ (fun hHeld => ?_)
 ·
  exact ⟨KX.drw, K1.drw, K2.drw, K3.drw, HBx.drew⟩
 refine tl 0 6 hHeld rfl ?_ (by intro W hS; obtain ⟨c0_0, c0_1, c0_2, c0_3, c0_4, c0_5, c0_6, c0_7⟩ := (hS.1).p8; have c1_0 := (hS.2.1).at_ (j := 0) rfl; have c2_0 := (hS.2.2.1).at_ (j := 0) rfl; have c3_0 := (hS.2.2.2.1).at_ (j := 0) rfl; clear hS; go_simp; try with_reducible rfl); try simp only [ptl]
 refine tl 1 7 hHeld rfl ?_ (by intro W hS; obtain ⟨c0_0, c0_1, c0_2, c0_3, c0_4, c0_5, c0_6, c0_7⟩ := (hS.1).p8; have c1_0 := (hS.2.1).at_ (j := 0) rfl; have c2_0 := (hS.2.2.1).at_ (j := 0) rfl; have c3_0 := (hS.2.2.2.1).at_ (j := 0) rfl; clear hS; go_simp; try with_reducible rfl); try simp only [ptl]
 refine rd1 (i := 2) (o := ⟨some 8, _, _, _, _, _⟩) rfl (fun K hK => ?_)
 go_simp
 refine Calls.mono (C0.out _) ?_
 rintro e x1 ⟨rfl, hb1⟩
 refine hK.out _ _ ⟨hHeld.1.new hb1, hHeld.2.1.new hb1, hHeld.2.2.1.new hb1, hHeld.2.2.2.1.new hb1, below_trans hHeld.2.2.2.2 hb1 (Nat.le_refl _)⟩ (fun hHeld' => ?_)
 clear hK K hHeld hb1; have hHeld := hHeld'; clear hHeld'
 try simp only [ptl]
 cases r
 ·
  refine tz 3 9 hHeld ?_; try simp only [ptl]
  refine tu (i := 4) (oi := ⟨some 10, _, _, _, _, _⟩) rfl hHeld ?_; try simp only [ptl]
  refine tu (i := 5) (oi := ⟨some 11, _, _, _, _, _⟩) rfl hHeld ?_; try simp only [ptl]
  refine tu (i := 7) (oi := ⟨some 13, _, _, _, _, _⟩) rfl hHeld ?_; try simp only [ptl]
  refine tu (i := 6) (oi := ⟨some 12, _, _, _, _, _⟩) rfl hHeld ?_; try simp only [ptl]
  refine tu (i := 8) (oi := ⟨some 14, _, _, _, _, _⟩) rfl hHeld ?_; try simp only [ptl]
  refine tz 9 15 hHeld ?_; try simp only [ptl]
  refine tz 10 5 hHeld ?_; try simp only [ptl]
  refine wpAnyH_done (by kernel_rfl) ?_ _
  go_wp2_with fail
  go_ret
  exact ⟨by first | rfl | simp [h8], hHeld.2.2.2.2⟩
 ·
  refine tz 3 9 hHeld ?_; try simp only [ptl]
  refine tl 4 10 hHeld rfl ?_ (by intro W hS; obtain ⟨c0_0, c0_1, c0_2, c0_3, c0_4, c0_5, c0_6, c0_7⟩ := (hS.1).p8; have c1_0 := (hS.2.1).at_ (j := 0) rfl; have c2_0 := (hS.2.2.1).at_ (j := 0) rfl; have c3_0 := (hS.2.2.2.1).at_ (j := 0) rfl; clear hS; go_simp; try with_reducible rfl); try simp only [ptl]
  refine tl 5 11 hHeld rfl ?_ (by intro W hS; obtain ⟨c0_0, c0_1, c0_2, c0_3, c0_4, c0_5, c0_6, c0_7⟩ := (hS.1).p8; have c1_0 := (hS.2.1).at_ (j := 0) rfl; have c2_0 := (hS.2.2.1).at_ (j := 0) rfl; have c3_0 := (hS.2.2.2.1).at_ (j := 0) rfl; clear hS; go_simp; try with_reducible rfl); try simp only [ptl]
  refine tl 7 13 hHeld rfl ?_ (by intro W hS; obtain ⟨c0_0, c0_1, c0_2, c0_3, c0_4, c0_5, c0_6, c0_7⟩ := (hS.1).p8; have c1_0 := (hS.2.1).at_ (j := 0) rfl; have c2_0 := (hS.2.2.1).at_ (j := 0) rfl; have c3_0 := (hS.2.2.2.1).at_ (j := 0) rfl; clear hS; go_simp; try with_reducible rfl); try simp only [ptl]
  refine rd1 (i := 6) (o := ⟨some 12, _, _, _, _, _⟩) rfl (fun K hK => ?_)
  go_simp
  refine Calls.mono (C1.out _) ?_
  rintro e x2 ⟨rfl, hb1⟩
  refine hK.out _ _ ⟨hHeld.1.new hb1, hHeld.2.1.new hb1, hHeld.2.2.1.new hb1, hHeld.2.2.2.1.new hb1, below_trans hHeld.2.2.2.2 hb1 (Nat.le_refl _)⟩ (fun hHeld' => ?_)
  clear hK K hHeld hb1; have hHeld := hHeld'; clear hHeld'
  try simp only [ptl]
  by_cases h8 : (x.f0 == e) = true
  ·
   refine tz 8 14 hHeld ?_; try simp only [ptl]
   refine tz 9 15 hHeld ?_; try simp only [ptl]
   refine tz 10 5 hHeld ?_; try simp only [ptl]
   refine wpAnyH_done (by kernel_rfl) ?_ _
   go_wp2_with fail
   go_ret
   exact ⟨by first | rfl | simp [h8], hHeld.2.2.2.2⟩
  ·
   have h8 : (x.f0 == e) = false := by simpa using h8
   refine tz 8 14 hHeld ?_; try simp only [ptl]
   refine tz 9 15 hHeld ?_; try simp only [ptl]
   refine tz 10 5 hHeld ?_; try simp only [ptl]
   refine wpAnyH_done (by kernel_rfl) ?_ _
   go_wp2_with fail
   go_ret
   exact ⟨by first | rfl | simp [h8], hHeld.2.2.2.2⟩

set_option maxHeartbeats 8000000 in
theorem impl_areOwnRule (l : List TRule) (A : Option Addr) (n c lo hi : Nat) (e : Int) (w : World) (hn : n ≤ 1048576) (hr : Rd w lo hi 8 A n (cRule l)) (hcap : n ≤ c) :
  Calls Tryz.prog 93 #[.slice A n c, .int .i64 6, .func (.func 94) #[] #[], .int .i64 e, .func (.func 95) #[] #[]] w (Says (.bool (mPkR l e)) w) := by
 have hmf : ∀ (fn : Fn) (first cap : Array Value) (w : World), (Instr.makeFunc fn first cap).run Tryz.prog w = .ok (.func fn first cap) w := fun _ _ _ _ => rfl
 have HL := Lib.hid (rd_len TRule.len hr (by decide))
 have k1 : BoxAt (((w.alloc (.cells #[.func (.func 94) #[] #[]] 110)).alloc (.cells #[.int .i64 e] 3)).alloc (.cells #[.func (.func 95) #[] #[]] 138)) w.heap.size 110 #[.func (.func 94) #[] #[]] := ((box_new _ _ _ : BoxAt (w.alloc (.cells #[.func (.func 94) #[] #[]] 110)) _ _ _).alloc_ _).alloc_ _
 have k2 : BoxAt (((w.alloc (.cells #[.func (.func 94) #[] #[]] 110)).alloc (.cells #[.int .i64 e] 3)).alloc (.cells #[.func (.func 95) #[] #[]] 138)) (w.heap.size + 1 + 1) 138 #[.func (.func 95) #[] #[]] := by simpa using box_new ((w.alloc (.cells #[.func (.func 94) #[] #[]] 110)).alloc (.cells #[.int .i64 e] 3)) 138 #[.func (.func 95) #[] #[]]
 have k3 : BoxAt (((w.alloc (.cells #[.func (.func 94) #[] #[]] 110)).alloc (.cells #[.int .i64 e] 3)).alloc (.cells #[.func (.func 95) #[] #[]] 138)) (w.heap.size + 1) 3 #[.int .i64 e] := (show BoxAt ((w.alloc (.cells #[.func (.func 94) #[] #[]] 110)).alloc (.cells #[.int .i64 e] 3)) (w.heap.size + 1) 3 #[.int .i64 e] by simpa using box_new (w.alloc (.cells #[.func (.func 94) #[] #[]] 110)) 3 #[.int .i64 e]).alloc_ _
 have HC := Lib.hid (all_OwR (pPkR e) #[.pointer (some ⟨w.heap.size, 0, none⟩), .pointer (some ⟨w.heap.size + 1 + 1, 0, none⟩), .pointer (some ⟨w.heap.size + 1, 0, none⟩)] l A n c lo hi (((w.alloc (.cells #[.func (.func 94) #[] #[]] 110)).alloc (.cells #[.int .i64 e] 3)).alloc (.cells #[.func (.func 95) #[] #[]] 138)) (by omega) hcap (((hr.alloc _).alloc _).alloc _) (clo_OwR e _ _ _ l _ k1 k2 k3))
 have HB0 := Lib.hid (show Below w.heap.size w (((w.alloc (.cells #[.func (.func 94) #[] #[]] 110)).alloc (.cells #[.int .i64 e] 3)).alloc (.cells #[.func (.func 95) #[] #[]] 138)) from (((Below.refl _ _).alloc (Nat.le_refl _) _).alloc (by simp) _).alloc (by simp <;> omega) _)
 clear k1 k2 k3 hr
 unfold mPkR
 rw [HL.out]
 generalize l.all (pPkR e) = q at HC ⊢
 by_cases h6 : n ≤ 6
 ·
  have g6 : decide ((n : Int) ≤ 6) = true := by simp; omega
  have g7 : decide (n ≤ 6) = true := decide_eq_true h6
  rw [g7]
  clear g7
  go_enter Tryz.func93, Tryz.ntmps93
  go_wp2_with fail
  refine HC.out.mono ?_
  rintro e w1 ⟨rfl, hb1⟩
  have HB1 := Lib.hid (below_trans HB0.out hb1 (by simp <;> omega))
  clear hb1
  go_wp2_with fail
  go_ret
  exact ⟨by cases q <;> rfl, HB1.out⟩
 ·
  have g6 : decide ((n : Int) ≤ 6) = false := by simp; omega
  have g7 : decide (n ≤ 6) = false := decide_eq_false h6
  rw [g7]
  clear g7
  go_enter Tryz.func93, Tryz.ntmps93
  go_wp2_with fail
  go_ret
  exact ⟨rfl, HB0.out⟩

end Go.Proofs.YtkedacmpmancbaaGreatDoor
namespace Go.Proofs.YtkedacmpmancbaaGreatDoor
open Go Go.ChangeShapes Go.WideShapes Go.ChangeAt Go.RowKit Go.Lib
set_option linter.unusedVariables false
set_option linter.unusedSimpArgs false
set_option maxRecDepth 100000
def mIsPack (p0 p1 p2 : Int) (l3 : List TGrant) (l4 : List TFlow) (l5 : List TRule) (l6 : List TOp) : Bool :=
 inR p0 1 5 && inR p1 1 9 && inR p2 1 999 && mPkG l3 p0 && mPkF l4 p0 && mPkR l5 p0 && mAreOps l6

set_option maxHeartbeats 16000000 in
theorem impl_IsPackageC (p0_0 : Int) (p0_1 : Int) (p0_2 : Int) (l0_3 : List TGrant) (A0_3 : Option Addr) (n0_3 c0_3 lo0_3 hi0_3 : Nat) (l0_4 : List TFlow) (A0_4 : Option Addr) (n0_4 c0_4 lo0_4 hi0_4 : Nat) (l0_5 : List TRule) (A0_5 : Option Addr) (n0_5 c0_5 lo0_5 hi0_5 : Nat) (l0_6 : List TOp) (A0_6 : Option Addr) (n0_6 c0_6 lo0_6 hi0_6 : Nat) (p0_7 : Int) (w : World) (h0_3 : n0_3 ≤ 1048576) (r0_3 : Rd w lo0_3 hi0_3 7 A0_3 n0_3 (cGrant l0_3)) (k0_3 : n0_3 ≤ c0_3) (b0_3 : Hid (cGrantOk l0_3)) (h0_4 : n0_4 ≤ 1048576) (r0_4 : Rd w lo0_4 hi0_4 3 A0_4 n0_4 (cFlow l0_4)) (k0_4 : n0_4 ≤ c0_4) (b0_4 : Hid (cFlowOk l0_4)) (h0_5 : n0_5 ≤ 1048576) (r0_5 : Rd w lo0_5 hi0_5 8 A0_5 n0_5 (cRule l0_5)) (k0_5 : n0_5 ≤ c0_5) (b0_5 : Hid (cRuleOk l0_5)) (h0_6 : n0_6 ≤ 1048576) (r0_6 : Rd w lo0_6 hi0_6 4 A0_6 n0_6 (cOp l0_6)) (k0_6 : n0_6 ≤ c0_6) (b0_6 : Hid (cOpOk l0_6)) :
  Calls Tryz.prog 37 #[.agg #[.int .i64 p0_0, .int .i64 p0_1, .int .i64 p0_2, .slice A0_3 n0_3 c0_3, .slice A0_4 n0_4 c0_4, .slice A0_5 n0_5 c0_5, .slice A0_6 n0_6 c0_6, .int .i64 p0_7]] w (Says (.bool (mIsPack p0_0 p0_1 p0_2 l0_3 l0_4 l0_5 l0_6)) w) := by
 have R0_3 := Lib.hid r0_3
 clear r0_3
 have R0_4 := Lib.hid r0_4
 clear r0_4
 have R0_5 := Lib.hid r0_5
 clear r0_5
 have R0_6 := Lib.hid r0_6
 clear r0_6
 have KB0 := Lib.hid (show BoxAt (w.alloc (.cells #[.int .i64 p0_0, .int .i64 p0_1, .int .i64 p0_2, .slice A0_3 n0_3 c0_3, .slice A0_4 n0_4 c0_4, .slice A0_5 n0_5 c0_5, .slice A0_6 n0_6 c0_6, .int .i64 p0_7] 35)) w.heap.size 35 #[.int .i64 p0_0, .int .i64 p0_1, .int .i64 p0_2, .slice A0_3 n0_3 c0_3, .slice A0_4 n0_4 c0_4, .slice A0_5 n0_5 c0_5, .slice A0_6 n0_6 c0_6, .int .i64 p0_7] from (box_new _ _ _ : BoxAt (w.alloc (.cells #[.int .i64 p0_0, .int .i64 p0_1, .int .i64 p0_2, .slice A0_3 n0_3 c0_3, .slice A0_4 n0_4 c0_4, .slice A0_5 n0_5 c0_5, .slice A0_6 n0_6 c0_6, .int .i64 p0_7] 35)) w.heap.size 35 #[.int .i64 p0_0, .int .i64 p0_1, .int .i64 p0_2, .slice A0_3 n0_3 c0_3, .slice A0_4 n0_4 c0_4, .slice A0_5 n0_5 c0_5, .slice A0_6 n0_6 c0_6, .int .i64 p0_7]))
 have HB := Lib.hid (show Below w.heap.size w (w.alloc (.cells #[.int .i64 p0_0, .int .i64 p0_1, .int .i64 p0_2, .slice A0_3 n0_3 c0_3, .slice A0_4 n0_4 c0_4, .slice A0_5 n0_5 c0_5, .slice A0_6 n0_6 c0_6, .int .i64 p0_7] 35)) from (Below.refl _ _).alloc (by first | exact Nat.le_refl _ | (simp; done) | (simp; omega)) _)
 by_cases h_0 : (inR p0_0 1 5) = true
 ·
  by_cases h_1 : (inR p0_1 1 9) = true
  ·
   by_cases h_2 : (inR p0_2 1 999) = true
   ·
    by_cases h_3 : (mPkG l0_3 p0_0) = true
    ·
     by_cases h_4 : (mPkF l0_4 p0_0) = true
     ·
      by_cases h_5 : (mPkR l0_5 p0_0) = true
      ·
       by_cases h_6 : (mAreOps l0_6) = true
       ·
        have HE := Lib.hid (show mIsPack p0_0 p0_1 p0_2 l0_3 l0_4 l0_5 l0_6 = true by first | (unfold mIsPack; simp only [h_0, h_1, h_2, h_3, h_4, h_5, h_6, Bool.not_true, Bool.not_false, Bool.true_and, Bool.false_and, Bool.and_true, Bool.and_false, Bool.true_or, Bool.false_or, Bool.or_true, Bool.or_false]) | simp [mIsPack, h_0, h_1, h_2, h_3, h_4, h_5, h_6])
        have D0 := Lib.hid (show (inR p0_0 1 5) = true from h_0)
        have D1 := Lib.hid (show (inR p0_1 1 9) = true from h_1)
        have D2 := Lib.hid (show (inR p0_2 1 999) = true from h_2)
        have D3 := Lib.hid (show (mPkG l0_3 p0_0) = true from h_3)
        have D4 := Lib.hid (show (mPkF l0_4 p0_0) = true from h_4)
        have D5 := Lib.hid (show (mPkR l0_5 p0_0) = true from h_5)
        have D6 := Lib.hid (show (mAreOps l0_6) = true from h_6)
        clear h_0 h_1 h_2 h_3 h_4 h_5 h_6
        go_enter Tryz.func37, Tryz.ntmps37
        go_wp2_with fail
        refine Calls.mono (impl_in _ _ _ _) ?_
        rw [D0.out]
        rintro e w1 ⟨rfl, rfl⟩
        go_wp2_with fail
        refine Calls.mono (impl_in _ _ _ _) ?_
        rw [D1.out]
        rintro e w1 ⟨rfl, rfl⟩
        go_wp2_with fail
        refine Calls.mono (impl_in _ _ _ _) ?_
        rw [D2.out]
        rintro e w1 ⟨rfl, rfl⟩
        go_wp2_with fail
        refine Calls.mono (impl_areOwnGrant l0_3 A0_3 n0_3 c0_3 lo0_3 hi0_3 p0_0 _ h0_3 (R0_3.out.new HB.out) k0_3) ?_
        rw [D3.out]
        rintro e w1 ⟨rfl, hb⟩
        replace KB0 := Lib.hid (KB0.out.new hb)
        replace HB := Lib.hid (below_trans HB.out hb (Nat.le_refl _))
        clear hb
        obtain ⟨eb0_0, eb0_1, eb0_2, eb0_3, eb0_4, eb0_5, eb0_6, eb0_7⟩ := KB0.out.p8
        go_wp2_with fail
        clear eb0_0 eb0_1 eb0_2 eb0_3 eb0_4 eb0_5 eb0_6 eb0_7
        refine Calls.mono (impl_areOwnFlow l0_4 A0_4 n0_4 c0_4 lo0_4 hi0_4 p0_0 _ h0_4 (R0_4.out.new HB.out) k0_4) ?_
        rw [D4.out]
        rintro e w2 ⟨rfl, hb⟩
        replace KB0 := Lib.hid (KB0.out.new hb)
        replace HB := Lib.hid (below_trans HB.out hb (Nat.le_refl _))
        clear hb
        obtain ⟨eb0_0, eb0_1, eb0_2, eb0_3, eb0_4, eb0_5, eb0_6, eb0_7⟩ := KB0.out.p8
        go_wp2_with fail
        clear eb0_0 eb0_1 eb0_2 eb0_3 eb0_4 eb0_5 eb0_6 eb0_7
        refine Calls.mono (impl_areOwnRule l0_5 A0_5 n0_5 c0_5 lo0_5 hi0_5 p0_0 _ h0_5 (R0_5.out.new HB.out) k0_5) ?_
        rw [D5.out]
        rintro e w3 ⟨rfl, hb⟩
        replace KB0 := Lib.hid (KB0.out.new hb)
        replace HB := Lib.hid (below_trans HB.out hb (Nat.le_refl _))
        clear hb
        obtain ⟨eb0_0, eb0_1, eb0_2, eb0_3, eb0_4, eb0_5, eb0_6, eb0_7⟩ := KB0.out.p8
        go_wp2_with fail
        clear eb0_0 eb0_1 eb0_2 eb0_3 eb0_4 eb0_5 eb0_6 eb0_7
        refine Calls.mono (impl_AreOpsC l0_6 A0_6 n0_6 c0_6 lo0_6 hi0_6 _ h0_6 (R0_6.out.new HB.out) k0_6 b0_6) ?_
        rw [D6.out]
        rintro e w4 ⟨rfl, hb⟩
        replace KB0 := Lib.hid (KB0.out.new hb)
        replace HB := Lib.hid (below_trans HB.out hb (Nat.le_refl _))
        clear hb
        obtain ⟨eb0_0, eb0_1, eb0_2, eb0_3, eb0_4, eb0_5, eb0_6, eb0_7⟩ := KB0.out.p8
        go_wp2_with fail
        go_ret
        exact ⟨by rw [HE.out]; rfl, HB.out⟩
       ·
        have h_6 : (mAreOps l0_6) = false := by simpa using h_6
        have HE := Lib.hid (show mIsPack p0_0 p0_1 p0_2 l0_3 l0_4 l0_5 l0_6 = false by first | (unfold mIsPack; simp only [h_0, h_1, h_2, h_3, h_4, h_5, h_6, Bool.not_true, Bool.not_false, Bool.true_and, Bool.false_and, Bool.and_true, Bool.and_false, Bool.true_or, Bool.false_or, Bool.or_true, Bool.or_false]) | simp [mIsPack, h_0, h_1, h_2, h_3, h_4, h_5, h_6])
        have D0 := Lib.hid (show (inR p0_0 1 5) = true from h_0)
        have D1 := Lib.hid (show (inR p0_1 1 9) = true from h_1)
        have D2 := Lib.hid (show (inR p0_2 1 999) = true from h_2)
        have D3 := Lib.hid (show (mPkG l0_3 p0_0) = true from h_3)
        have D4 := Lib.hid (show (mPkF l0_4 p0_0) = true from h_4)
        have D5 := Lib.hid (show (mPkR l0_5 p0_0) = true from h_5)
        have D6 := Lib.hid (show (mAreOps l0_6) = false from h_6)
        clear h_0 h_1 h_2 h_3 h_4 h_5 h_6
        go_enter Tryz.func37, Tryz.ntmps37
        go_wp2_with fail
        refine Calls.mono (impl_in _ _ _ _) ?_
        rw [D0.out]
        rintro e w1 ⟨rfl, rfl⟩
        go_wp2_with fail
        refine Calls.mono (impl_in _ _ _ _) ?_
        rw [D1.out]
        rintro e w1 ⟨rfl, rfl⟩
        go_wp2_with fail
        refine Calls.mono (impl_in _ _ _ _) ?_
        rw [D2.out]
        rintro e w1 ⟨rfl, rfl⟩
        go_wp2_with fail
        refine Calls.mono (impl_areOwnGrant l0_3 A0_3 n0_3 c0_3 lo0_3 hi0_3 p0_0 _ h0_3 (R0_3.out.new HB.out) k0_3) ?_
        rw [D3.out]
        rintro e w1 ⟨rfl, hb⟩
        replace KB0 := Lib.hid (KB0.out.new hb)
        replace HB := Lib.hid (below_trans HB.out hb (Nat.le_refl _))
        clear hb
        obtain ⟨eb0_0, eb0_1, eb0_2, eb0_3, eb0_4, eb0_5, eb0_6, eb0_7⟩ := KB0.out.p8
        go_wp2_with fail
        clear eb0_0 eb0_1 eb0_2 eb0_3 eb0_4 eb0_5 eb0_6 eb0_7
        refine Calls.mono (impl_areOwnFlow l0_4 A0_4 n0_4 c0_4 lo0_4 hi0_4 p0_0 _ h0_4 (R0_4.out.new HB.out) k0_4) ?_
        rw [D4.out]
        rintro e w2 ⟨rfl, hb⟩
        replace KB0 := Lib.hid (KB0.out.new hb)
        replace HB := Lib.hid (below_trans HB.out hb (Nat.le_refl _))
        clear hb
        obtain ⟨eb0_0, eb0_1, eb0_2, eb0_3, eb0_4, eb0_5, eb0_6, eb0_7⟩ := KB0.out.p8
        go_wp2_with fail
        clear eb0_0 eb0_1 eb0_2 eb0_3 eb0_4 eb0_5 eb0_6 eb0_7
        refine Calls.mono (impl_areOwnRule l0_5 A0_5 n0_5 c0_5 lo0_5 hi0_5 p0_0 _ h0_5 (R0_5.out.new HB.out) k0_5) ?_
        rw [D5.out]
        rintro e w3 ⟨rfl, hb⟩
        replace KB0 := Lib.hid (KB0.out.new hb)
        replace HB := Lib.hid (below_trans HB.out hb (Nat.le_refl _))
        clear hb
        obtain ⟨eb0_0, eb0_1, eb0_2, eb0_3, eb0_4, eb0_5, eb0_6, eb0_7⟩ := KB0.out.p8
        go_wp2_with fail
        clear eb0_0 eb0_1 eb0_2 eb0_3 eb0_4 eb0_5 eb0_6 eb0_7
        refine Calls.mono (impl_AreOpsC l0_6 A0_6 n0_6 c0_6 lo0_6 hi0_6 _ h0_6 (R0_6.out.new HB.out) k0_6 b0_6) ?_
        rw [D6.out]
        rintro e w4 ⟨rfl, hb⟩
        replace KB0 := Lib.hid (KB0.out.new hb)
        replace HB := Lib.hid (below_trans HB.out hb (Nat.le_refl _))
        clear hb
        obtain ⟨eb0_0, eb0_1, eb0_2, eb0_3, eb0_4, eb0_5, eb0_6, eb0_7⟩ := KB0.out.p8
        go_wp2_with fail
        go_ret
        exact ⟨by rw [HE.out]; rfl, HB.out⟩
      ·
       have h_5 : (mPkR l0_5 p0_0) = false := by simpa using h_5
       have HE := Lib.hid (show mIsPack p0_0 p0_1 p0_2 l0_3 l0_4 l0_5 l0_6 = false by first | (unfold mIsPack; simp only [h_0, h_1, h_2, h_3, h_4, h_5, Bool.not_true, Bool.not_false, Bool.true_and, Bool.false_and, Bool.and_true, Bool.and_false, Bool.true_or, Bool.false_or, Bool.or_true, Bool.or_false]) | simp [mIsPack, h_0, h_1, h_2, h_3, h_4, h_5])
       have D0 := Lib.hid (show (inR p0_0 1 5) = true from h_0)
       have D1 := Lib.hid (show (inR p0_1 1 9) = true from h_1)
       have D2 := Lib.hid (show (inR p0_2 1 999) = true from h_2)
       have D3 := Lib.hid (show (mPkG l0_3 p0_0) = true from h_3)
       have D4 := Lib.hid (show (mPkF l0_4 p0_0) = true from h_4)
       have D5 := Lib.hid (show (mPkR l0_5 p0_0) = false from h_5)
       clear h_0 h_1 h_2 h_3 h_4 h_5
       go_enter Tryz.func37, Tryz.ntmps37
       go_wp2_with fail
       refine Calls.mono (impl_in _ _ _ _) ?_
       rw [D0.out]
       rintro e w1 ⟨rfl, rfl⟩
       go_wp2_with fail
       refine Calls.mono (impl_in _ _ _ _) ?_
       rw [D1.out]
       rintro e w1 ⟨rfl, rfl⟩
       go_wp2_with fail
       refine Calls.mono (impl_in _ _ _ _) ?_
       rw [D2.out]
       rintro e w1 ⟨rfl, rfl⟩
       go_wp2_with fail
       refine Calls.mono (impl_areOwnGrant l0_3 A0_3 n0_3 c0_3 lo0_3 hi0_3 p0_0 _ h0_3 (R0_3.out.new HB.out) k0_3) ?_
       rw [D3.out]
       rintro e w1 ⟨rfl, hb⟩
       replace KB0 := Lib.hid (KB0.out.new hb)
       replace HB := Lib.hid (below_trans HB.out hb (Nat.le_refl _))
       clear hb
       obtain ⟨eb0_0, eb0_1, eb0_2, eb0_3, eb0_4, eb0_5, eb0_6, eb0_7⟩ := KB0.out.p8
       go_wp2_with fail
       clear eb0_0 eb0_1 eb0_2 eb0_3 eb0_4 eb0_5 eb0_6 eb0_7
       refine Calls.mono (impl_areOwnFlow l0_4 A0_4 n0_4 c0_4 lo0_4 hi0_4 p0_0 _ h0_4 (R0_4.out.new HB.out) k0_4) ?_
       rw [D4.out]
       rintro e w2 ⟨rfl, hb⟩
       replace KB0 := Lib.hid (KB0.out.new hb)
       replace HB := Lib.hid (below_trans HB.out hb (Nat.le_refl _))
       clear hb
       obtain ⟨eb0_0, eb0_1, eb0_2, eb0_3, eb0_4, eb0_5, eb0_6, eb0_7⟩ := KB0.out.p8
       go_wp2_with fail
       clear eb0_0 eb0_1 eb0_2 eb0_3 eb0_4 eb0_5 eb0_6 eb0_7
       refine Calls.mono (impl_areOwnRule l0_5 A0_5 n0_5 c0_5 lo0_5 hi0_5 p0_0 _ h0_5 (R0_5.out.new HB.out) k0_5) ?_
       rw [D5.out]
       rintro e w3 ⟨rfl, hb⟩
       replace KB0 := Lib.hid (KB0.out.new hb)
       replace HB := Lib.hid (below_trans HB.out hb (Nat.le_refl _))
       clear hb
       obtain ⟨eb0_0, eb0_1, eb0_2, eb0_3, eb0_4, eb0_5, eb0_6, eb0_7⟩ := KB0.out.p8
       go_wp2_with fail
       go_ret
       exact ⟨by rw [HE.out]; rfl, HB.out⟩
     ·
      have h_4 : (mPkF l0_4 p0_0) = false := by simpa using h_4
      have HE := Lib.hid (show mIsPack p0_0 p0_1 p0_2 l0_3 l0_4 l0_5 l0_6 = false by first | (unfold mIsPack; simp only [h_0, h_1, h_2, h_3, h_4, Bool.not_true, Bool.not_false, Bool.true_and, Bool.false_and, Bool.and_true, Bool.and_false, Bool.true_or, Bool.false_or, Bool.or_true, Bool.or_false]) | simp [mIsPack, h_0, h_1, h_2, h_3, h_4])
      have D0 := Lib.hid (show (inR p0_0 1 5) = true from h_0)
      have D1 := Lib.hid (show (inR p0_1 1 9) = true from h_1)
      have D2 := Lib.hid (show (inR p0_2 1 999) = true from h_2)
      have D3 := Lib.hid (show (mPkG l0_3 p0_0) = true from h_3)
      have D4 := Lib.hid (show (mPkF l0_4 p0_0) = false from h_4)
      clear h_0 h_1 h_2 h_3 h_4
      go_enter Tryz.func37, Tryz.ntmps37
      go_wp2_with fail
      refine Calls.mono (impl_in _ _ _ _) ?_
      rw [D0.out]
      rintro e w1 ⟨rfl, rfl⟩
      go_wp2_with fail
      refine Calls.mono (impl_in _ _ _ _) ?_
      rw [D1.out]
      rintro e w1 ⟨rfl, rfl⟩
      go_wp2_with fail
      refine Calls.mono (impl_in _ _ _ _) ?_
      rw [D2.out]
      rintro e w1 ⟨rfl, rfl⟩
      go_wp2_with fail
      refine Calls.mono (impl_areOwnGrant l0_3 A0_3 n0_3 c0_3 lo0_3 hi0_3 p0_0 _ h0_3 (R0_3.out.new HB.out) k0_3) ?_
      rw [D3.out]
      rintro e w1 ⟨rfl, hb⟩
      replace KB0 := Lib.hid (KB0.out.new hb)
      replace HB := Lib.hid (below_trans HB.out hb (Nat.le_refl _))
      clear hb
      obtain ⟨eb0_0, eb0_1, eb0_2, eb0_3, eb0_4, eb0_5, eb0_6, eb0_7⟩ := KB0.out.p8
      go_wp2_with fail
      clear eb0_0 eb0_1 eb0_2 eb0_3 eb0_4 eb0_5 eb0_6 eb0_7
      refine Calls.mono (impl_areOwnFlow l0_4 A0_4 n0_4 c0_4 lo0_4 hi0_4 p0_0 _ h0_4 (R0_4.out.new HB.out) k0_4) ?_
      rw [D4.out]
      rintro e w2 ⟨rfl, hb⟩
      replace KB0 := Lib.hid (KB0.out.new hb)
      replace HB := Lib.hid (below_trans HB.out hb (Nat.le_refl _))
      clear hb
      obtain ⟨eb0_0, eb0_1, eb0_2, eb0_3, eb0_4, eb0_5, eb0_6, eb0_7⟩ := KB0.out.p8
      go_wp2_with fail
      go_ret
      exact ⟨by rw [HE.out]; rfl, HB.out⟩
    ·
     have h_3 : (mPkG l0_3 p0_0) = false := by simpa using h_3
     have HE := Lib.hid (show mIsPack p0_0 p0_1 p0_2 l0_3 l0_4 l0_5 l0_6 = false by first | (unfold mIsPack; simp only [h_0, h_1, h_2, h_3, Bool.not_true, Bool.not_false, Bool.true_and, Bool.false_and, Bool.and_true, Bool.and_false, Bool.true_or, Bool.false_or, Bool.or_true, Bool.or_false]) | simp [mIsPack, h_0, h_1, h_2, h_3])
     have D0 := Lib.hid (show (inR p0_0 1 5) = true from h_0)
     have D1 := Lib.hid (show (inR p0_1 1 9) = true from h_1)
     have D2 := Lib.hid (show (inR p0_2 1 999) = true from h_2)
     have D3 := Lib.hid (show (mPkG l0_3 p0_0) = false from h_3)
     clear h_0 h_1 h_2 h_3
     go_enter Tryz.func37, Tryz.ntmps37
     go_wp2_with fail
     refine Calls.mono (impl_in _ _ _ _) ?_
     rw [D0.out]
     rintro e w1 ⟨rfl, rfl⟩
     go_wp2_with fail
     refine Calls.mono (impl_in _ _ _ _) ?_
     rw [D1.out]
     rintro e w1 ⟨rfl, rfl⟩
     go_wp2_with fail
     refine Calls.mono (impl_in _ _ _ _) ?_
     rw [D2.out]
     rintro e w1 ⟨rfl, rfl⟩
     go_wp2_with fail
     refine Calls.mono (impl_areOwnGrant l0_3 A0_3 n0_3 c0_3 lo0_3 hi0_3 p0_0 _ h0_3 (R0_3.out.new HB.out) k0_3) ?_
     rw [D3.out]
     rintro e w1 ⟨rfl, hb⟩
     replace KB0 := Lib.hid (KB0.out.new hb)
     replace HB := Lib.hid (below_trans HB.out hb (Nat.le_refl _))
     clear hb
     obtain ⟨eb0_0, eb0_1, eb0_2, eb0_3, eb0_4, eb0_5, eb0_6, eb0_7⟩ := KB0.out.p8
     go_wp2_with fail
     go_ret
     exact ⟨by rw [HE.out]; rfl, HB.out⟩
   ·
    have h_2 : (inR p0_2 1 999) = false := by simpa using h_2
    have HE := Lib.hid (show mIsPack p0_0 p0_1 p0_2 l0_3 l0_4 l0_5 l0_6 = false by first | (unfold mIsPack; simp only [h_0, h_1, h_2, Bool.not_true, Bool.not_false, Bool.true_and, Bool.false_and, Bool.and_true, Bool.and_false, Bool.true_or, Bool.false_or, Bool.or_true, Bool.or_false]) | simp [mIsPack, h_0, h_1, h_2])
    have D0 := Lib.hid (show (inR p0_0 1 5) = true from h_0)
    have D1 := Lib.hid (show (inR p0_1 1 9) = true from h_1)
    have D2 := Lib.hid (show (inR p0_2 1 999) = false from h_2)
    clear h_0 h_1 h_2
    go_enter Tryz.func37, Tryz.ntmps37
    go_wp2_with fail
    refine Calls.mono (impl_in _ _ _ _) ?_
    rw [D0.out]
    rintro e w1 ⟨rfl, rfl⟩
    go_wp2_with fail
    refine Calls.mono (impl_in _ _ _ _) ?_
    rw [D1.out]
    rintro e w1 ⟨rfl, rfl⟩
    go_wp2_with fail
    refine Calls.mono (impl_in _ _ _ _) ?_
    rw [D2.out]
    rintro e w1 ⟨rfl, rfl⟩
    go_wp2_with fail
    go_ret
    exact ⟨by rw [HE.out]; rfl, HB.out⟩
  ·
   have h_1 : (inR p0_1 1 9) = false := by simpa using h_1
   have HE := Lib.hid (show mIsPack p0_0 p0_1 p0_2 l0_3 l0_4 l0_5 l0_6 = false by first | (unfold mIsPack; simp only [h_0, h_1, Bool.not_true, Bool.not_false, Bool.true_and, Bool.false_and, Bool.and_true, Bool.and_false, Bool.true_or, Bool.false_or, Bool.or_true, Bool.or_false]) | simp [mIsPack, h_0, h_1])
   have D0 := Lib.hid (show (inR p0_0 1 5) = true from h_0)
   have D1 := Lib.hid (show (inR p0_1 1 9) = false from h_1)
   clear h_0 h_1
   go_enter Tryz.func37, Tryz.ntmps37
   go_wp2_with fail
   refine Calls.mono (impl_in _ _ _ _) ?_
   rw [D0.out]
   rintro e w1 ⟨rfl, rfl⟩
   go_wp2_with fail
   refine Calls.mono (impl_in _ _ _ _) ?_
   rw [D1.out]
   rintro e w1 ⟨rfl, rfl⟩
   go_wp2_with fail
   go_ret
   exact ⟨by rw [HE.out]; rfl, HB.out⟩
 ·
  have h_0 : (inR p0_0 1 5) = false := by simpa using h_0
  have HE := Lib.hid (show mIsPack p0_0 p0_1 p0_2 l0_3 l0_4 l0_5 l0_6 = false by first | (unfold mIsPack; simp only [h_0, Bool.not_true, Bool.not_false, Bool.true_and, Bool.false_and, Bool.and_true, Bool.and_false, Bool.true_or, Bool.false_or, Bool.or_true, Bool.or_false]) | simp [mIsPack, h_0])
  have D0 := Lib.hid (show (inR p0_0 1 5) = false from h_0)
  clear h_0
  go_enter Tryz.func37, Tryz.ntmps37
  go_wp2_with fail
  refine Calls.mono (impl_in _ _ _ _) ?_
  rw [D0.out]
  rintro e w1 ⟨rfl, rfl⟩
  go_wp2_with fail
  go_ret
  exact ⟨by rw [HE.out]; rfl, HB.out⟩

end Go.Proofs.YtkedacmpmancbaaGreatDoor
namespace Go.Proofs.YtkedacmpmancbaaGreatDoor
open Go Go.ChangeShapes Go.WideShapes Go.ChangeAt Go.RowKit Go.Lib
set_option linter.unusedVariables false
set_option linter.unusedSimpArgs false
set_option maxRecDepth 100000
def cnt {α : Type} (f : α → List Int) (l : List α) : List Int := (l.length : Int) :: l.flatMap f
theorem flat_one_more {α : Type} {f : α → List Int} {l : List α} {k : Nat} {x : α} (h : l[k]? = some x) : (l.take (k + 1)).flatMap f = (l.take k).flatMap f ++ f x := by
 rw [List.take_add_one, h, List.flatMap_append]; simp
theorem i64s_app (a b : List Int) : i64s (a ++ b) = i64s a ++ i64s b := by simp [i64s]
def iG (x : TGrant) : List Int := [x.f1, x.f2, x.f3, x.f4, x.f5, (if x.f6 = true then 1 else 0)]
theorem iG_len (x : TGrant) : (iG x).length = 6 := rfl
theorem flatG_len (l : List TGrant) : (l.flatMap iG).length = l.length * 6 := by
 induction l with
 | nil => rfl
 | cons x l ih => rw [List.flatMap_cons, List.length_append, ih, iG_len, List.length_cons]; omega
set_option maxHeartbeats 4000000 in
theorem ints_Grant (x : TGrant) (w : World) : Calls Tryz.prog 237 #[.agg #[.int .i64 x.f0, .int .i64 x.f1, .int .i64 x.f2, .int .i64 x.f3, .int .i64 x.f4, .int .i64 x.f5, .bool x.f6]] w (Makes 3 1 6 (i64s (iG x)) w) := by
 obtain ⟨f0, f1, f2, f3, f4, f5, f6⟩ := x
 cases f6
 ·
  have HO : Hid (((w.alloc (.cells #[.int .i64 f0, .int .i64 f1, .int .i64 f2, .int .i64 f3, .int .i64 f4, .int .i64 f5, .bool false] 106)).alloc (.cells #[.int .i64 f1, .int .i64 f2, .int .i64 f3, .int .i64 f4, .int .i64 f5, .int .i64 0] 3)).ownsRow w.heap.size 3 1 (.slice (some ⟨w.heap.size + 1, 0, none⟩) 6 6) 6 (#[.int .i64 f1, .int .i64 f2, .int .i64 f3, .int .i64 f4, .int .i64 f5, .int .i64 0] : Array Value).toList) := Lib.hid (by simpa using World.ownsRow_lit (base := w.heap.size) (e := 3) (size := 1) (w.alloc (.cells #[.int .i64 f0, .int .i64 f1, .int .i64 f2, .int .i64 f3, .int .i64 f4, .int .i64 f5, .bool false] 106)) #[.int .i64 f1, .int .i64 f2, .int .i64 f3, .int .i64 f4, .int .i64 f5, .int .i64 0] 6 (by simp) (by unfold maxLen; omega) rfl)
  go_enter Tryz.func237, Tryz.ntmps237
  go_wp2_with fail
  go_ret
  exact makes_of_own HO.out (((Below.refl _ _).alloc (Nat.le_refl _) _).alloc (by simp) _)
 ·
  have HO : Hid (((w.alloc (.cells #[.int .i64 f0, .int .i64 f1, .int .i64 f2, .int .i64 f3, .int .i64 f4, .int .i64 f5, .bool true] 106)).alloc (.cells #[.int .i64 f1, .int .i64 f2, .int .i64 f3, .int .i64 f4, .int .i64 f5, .int .i64 1] 3)).ownsRow w.heap.size 3 1 (.slice (some ⟨w.heap.size + 1, 0, none⟩) 6 6) 6 (#[.int .i64 f1, .int .i64 f2, .int .i64 f3, .int .i64 f4, .int .i64 f5, .int .i64 1] : Array Value).toList) := Lib.hid (by simpa using World.ownsRow_lit (base := w.heap.size) (e := 3) (size := 1) (w.alloc (.cells #[.int .i64 f0, .int .i64 f1, .int .i64 f2, .int .i64 f3, .int .i64 f4, .int .i64 f5, .bool true] 106)) #[.int .i64 f1, .int .i64 f2, .int .i64 f3, .int .i64 f4, .int .i64 f5, .int .i64 1] 6 (by simp) (by unfold maxLen; omega) rfl)
  go_enter Tryz.func237, Tryz.ntmps237
  go_wp2_with fail
  go_ret
  exact makes_of_own HO.out (((Below.refl _ _).alloc (Nat.le_refl _) _).alloc (by simp) _)
set_option maxHeartbeats 8000000 in
theorem counted_Grant (l : List TGrant) (A : Option Addr) (n c lo hi : Nat) (w : World) (hn : n ≤ 1048576) (hr : Rd w lo hi 7 A n (cGrant l)) :
  Calls Tryz.prog 236 #[.slice A n c, .func (.func 237) #[] #[]] w (Makes 3 1 (cnt iG l).length (i64s (cnt iG l)) w) := by
 have HL := Lib.hid (rd_len TGrant.len hr (by decide))
 have HR := Lib.hid hr
 have HO0 := Lib.hid (show (w.alloc (.cells #[.int .i64 n] 3)).ownsRow w.heap.size 3 1 (.slice (some ⟨w.heap.size, 0, none⟩) 1 1) 1 (i64s [(n : Int)]) from World.ownsRow_lit w #[.int .i64 n] 1 (Nat.le_refl _) (by unfold maxLen; omega) rfl)
 clear hr
 go_enter Tryz.func236, Tryz.ntmps236
 go_wp2_with fail
 go_loopg [5, 13] n (fun gg v i wr => ∃ (k nn : Nat) (X : List Int), k ≤ n ∧ n - k ≤ gg ∧ i = .int .i64 k ∧ nn ≤ 1 + k * 6 ∧ Hid ((n : Int) :: (l.take k).flatMap iG = X ∧ nn = X.length) ∧ Hid (wr.ownsRow w.heap.size 3 1 v nn (i64s X)) ∧ Hid (Below w.heap.size w wr))
 case atStart => exact ⟨0, 1, [(n : Int)], Nat.zero_le _, by omega, rfl, by omega, Lib.hid ⟨rfl, rfl⟩, HO0, Lib.hid ((Below.refl _ _).alloc (Nat.le_refl _) _)⟩
 case round =>
  clear HO0
  obtain ⟨k, nn, X, hk, hg, rfl, hnn, HX, HO, HB⟩ := hrel
  by_cases hlt : k < n
  ·
   obtain ⟨b, off, x, rfl, _, _, hz, hc⟩ := rd_elem TGrant.len (HR.out.new HB.out) HL.out hlt
   have c0 : wr.cell? ⟨b, off + k * 7, none⟩ = _ := hc 0 _ rfl
   have c1 := hc 1 _ rfl
   have c2 := hc 2 _ rfl
   have c3 := hc 3 _ rfl
   have c4 := hc 4 _ rfl
   have c5 := hc 5 _ rfl
   have c6 := hc 6 _ rfl
   have HS := Lib.hid HB.out.size
   have HB1 := Lib.hid (HB.out.alloc HS.out (.cells #[.int .i64 x.f0, .int .i64 x.f1, .int .i64 x.f2, .int .i64 x.f3, .int .i64 x.f4, .int .i64 x.f5, .bool x.f6] 106))
   have HO1 := Lib.hid (HO.out.alloc (.cells #[.int .i64 x.f0, .int .i64 x.f1, .int .i64 x.f2, .int .i64 x.f3, .int .i64 x.f4, .int .i64 x.f5, .bool x.f6] 106))
   have HX1 := Lib.hid (show (n : Int) :: (l.take (k + 1)).flatMap iG = X ++ iG x by rw [flat_one_more hz, ← HX.out.1]; rfl)
   have CI := Lib.hid (ints_Grant x (wr.alloc (.cells #[.int .i64 x.f0, .int .i64 x.f1, .int .i64 x.f2, .int .i64 x.f3, .int .i64 x.f4, .int .i64 x.f5, .bool x.f6] 106)))
   clear hz hc
   go_wp2_with fail
   refine CI.out.mono ?_
   rintro e w2 ⟨A2, c2, rfl, hF2, hb2⟩
   have HB2 := Lib.hid (below_trans HB1.out hb2 (Nat.le_refl _))
   have HO2 := Lib.hid (own_newer HO1.out hb2)
   have HF2 := Lib.hid hF2
   have HS2 := Lib.hid HB2.out.size
   clear hb2 hF2 CI
   go_wp2_with (at_builtin; refine wp_app rfl _ _ _ rfl w.heap.size 3 (.int .i64 0) 1 8 Tryz.underlying116 info_int rfl (by decide) _ _ _ rfl HO2.out _ _ A2 6 c2 (i64s (iG x)) rfl (HF2.out.rd) (ints_oneCell _ _) (by unfold maxLen; omega) (by omega) HS2.out ?_; intro v3 w3 ho3 hb3 _ _)
   have HO3 := Lib.hid (show w3.ownsRow w.heap.size 3 1 v3 (nn + 6) (i64s (X ++ iG x)) by rw [i64s_app]; exact ho3)
   have HB3 := Lib.hid (HB2.out.trans hb3)
   clear ho3 hb3
   go_wp2_with fail
   go_roundg (n - (k + 1))
   case measure => omega
   case rel => exact ⟨k + 1, nn + 6, X ++ iG x, by omega, by omega, by go_num, by omega, Lib.hid ⟨HX1.out, by rw [List.length_append, iG_len, HX.out.2]⟩, HO3, HB3⟩
  ·
   obtain rfl : k = n := by omega
   have HE := Lib.hid (show cnt iG l = X by rw [← HX.out.1, List.take_of_length_le (by rw [HL.out]; omega)]; unfold cnt; rw [HL.out])
   go_wp2_with fail
   go_ret
   rw [HE.out, ← HX.out.2]
   exact makes_of_own HO.out HB.out
def iF (x : TFlow) : List Int := [x.f1, x.f2]
theorem iF_len (x : TFlow) : (iF x).length = 2 := rfl
theorem flatF_len (l : List TFlow) : (l.flatMap iF).length = l.length * 2 := by
 induction l with
 | nil => rfl
 | cons x l ih => rw [List.flatMap_cons, List.length_append, ih, iF_len, List.length_cons]; omega
set_option maxHeartbeats 4000000 in
theorem ints_Flow (x : TFlow) (w : World) : Calls Tryz.prog 239 #[.agg #[.int .i64 x.f0, .int .i64 x.f1, .int .i64 x.f2]] w (Makes 3 1 2 (i64s (iF x)) w) := by
 have HO : Hid (((w.alloc (.cells #[.int .i64 x.f0, .int .i64 x.f1, .int .i64 x.f2] 109)).alloc (.cells #[.int .i64 x.f1, .int .i64 x.f2] 3)).ownsRow w.heap.size 3 1 (.slice (some ⟨w.heap.size + 1, 0, none⟩) 2 2) 2 (#[.int .i64 x.f1, .int .i64 x.f2] : Array Value).toList) := Lib.hid (by simpa using World.ownsRow_lit (base := w.heap.size) (e := 3) (size := 1) (w.alloc (.cells #[.int .i64 x.f0, .int .i64 x.f1, .int .i64 x.f2] 109)) #[.int .i64 x.f1, .int .i64 x.f2] 2 (by simp) (by unfold maxLen; omega) rfl)
 go_enter Tryz.func239, Tryz.ntmps239
 go_wp2_with fail
 go_ret
 exact makes_of_own HO.out (((Below.refl _ _).alloc (Nat.le_refl _) _).alloc (by simp) _)
set_option maxHeartbeats 8000000 in
theorem counted_Flow (l : List TFlow) (A : Option Addr) (n c lo hi : Nat) (w : World) (hn : n ≤ 1048576) (hr : Rd w lo hi 3 A n (cFlow l)) :
  Calls Tryz.prog 238 #[.slice A n c, .func (.func 239) #[] #[]] w (Makes 3 1 (cnt iF l).length (i64s (cnt iF l)) w) := by
 have HL := Lib.hid (rd_len TFlow.len hr (by decide))
 have HR := Lib.hid hr
 have HO0 := Lib.hid (show (w.alloc (.cells #[.int .i64 n] 3)).ownsRow w.heap.size 3 1 (.slice (some ⟨w.heap.size, 0, none⟩) 1 1) 1 (i64s [(n : Int)]) from World.ownsRow_lit w #[.int .i64 n] 1 (Nat.le_refl _) (by unfold maxLen; omega) rfl)
 clear hr
 go_enter Tryz.func238, Tryz.ntmps238
 go_wp2_with fail
 go_loopg [5, 13] n (fun gg v i wr => ∃ (k nn : Nat) (X : List Int), k ≤ n ∧ n - k ≤ gg ∧ i = .int .i64 k ∧ nn ≤ 1 + k * 2 ∧ Hid ((n : Int) :: (l.take k).flatMap iF = X ∧ nn = X.length) ∧ Hid (wr.ownsRow w.heap.size 3 1 v nn (i64s X)) ∧ Hid (Below w.heap.size w wr))
 case atStart => exact ⟨0, 1, [(n : Int)], Nat.zero_le _, by omega, rfl, by omega, Lib.hid ⟨rfl, rfl⟩, HO0, Lib.hid ((Below.refl _ _).alloc (Nat.le_refl _) _)⟩
 case round =>
  clear HO0
  obtain ⟨k, nn, X, hk, hg, rfl, hnn, HX, HO, HB⟩ := hrel
  by_cases hlt : k < n
  ·
   obtain ⟨b, off, x, rfl, _, _, hz, hc⟩ := rd_elem TFlow.len (HR.out.new HB.out) HL.out hlt
   have c0 : wr.cell? ⟨b, off + k * 3, none⟩ = _ := hc 0 _ rfl
   have c1 := hc 1 _ rfl
   have c2 := hc 2 _ rfl
   have HS := Lib.hid HB.out.size
   have HB1 := Lib.hid (HB.out.alloc HS.out (.cells #[.int .i64 x.f0, .int .i64 x.f1, .int .i64 x.f2] 109))
   have HO1 := Lib.hid (HO.out.alloc (.cells #[.int .i64 x.f0, .int .i64 x.f1, .int .i64 x.f2] 109))
   have HX1 := Lib.hid (show (n : Int) :: (l.take (k + 1)).flatMap iF = X ++ iF x by rw [flat_one_more hz, ← HX.out.1]; rfl)
   have CI := Lib.hid (ints_Flow x (wr.alloc (.cells #[.int .i64 x.f0, .int .i64 x.f1, .int .i64 x.f2] 109)))
   clear hz hc
   go_wp2_with fail
   refine CI.out.mono ?_
   rintro e w2 ⟨A2, c2, rfl, hF2, hb2⟩
   have HB2 := Lib.hid (below_trans HB1.out hb2 (Nat.le_refl _))
   have HO2 := Lib.hid (own_newer HO1.out hb2)
   have HF2 := Lib.hid hF2
   have HS2 := Lib.hid HB2.out.size
   clear hb2 hF2 CI
   go_wp2_with (at_builtin; refine wp_app rfl _ _ _ rfl w.heap.size 3 (.int .i64 0) 1 8 Tryz.underlying116 info_int rfl (by decide) _ _ _ rfl HO2.out _ _ A2 2 c2 (i64s (iF x)) rfl (HF2.out.rd) (ints_oneCell _ _) (by unfold maxLen; omega) (by omega) HS2.out ?_; intro v3 w3 ho3 hb3 _ _)
   have HO3 := Lib.hid (show w3.ownsRow w.heap.size 3 1 v3 (nn + 2) (i64s (X ++ iF x)) by rw [i64s_app]; exact ho3)
   have HB3 := Lib.hid (HB2.out.trans hb3)
   clear ho3 hb3
   go_wp2_with fail
   go_roundg (n - (k + 1))
   case measure => omega
   case rel => exact ⟨k + 1, nn + 2, X ++ iF x, by omega, by omega, by go_num, by omega, Lib.hid ⟨HX1.out, by rw [List.length_append, iF_len, HX.out.2]⟩, HO3, HB3⟩
  ·
   obtain rfl : k = n := by omega
   have HE := Lib.hid (show cnt iF l = X by rw [← HX.out.1, List.take_of_length_le (by rw [HL.out]; omega)]; unfold cnt; rw [HL.out])
   go_wp2_with fail
   go_ret
   rw [HE.out, ← HX.out.2]
   exact makes_of_own HO.out HB.out
def iR (x : TRule) : List Int := [x.f1, x.f2, x.f3, x.f4, x.f5, x.f6, x.f7]
theorem iR_len (x : TRule) : (iR x).length = 7 := rfl
theorem flatR_len (l : List TRule) : (l.flatMap iR).length = l.length * 7 := by
 induction l with
 | nil => rfl
 | cons x l ih => rw [List.flatMap_cons, List.length_append, ih, iR_len, List.length_cons]; omega
set_option maxHeartbeats 4000000 in
theorem ints_Rule (x : TRule) (w : World) : Calls Tryz.prog 241 #[.agg #[.int .i64 x.f0, .int .i64 x.f1, .int .i64 x.f2, .int .i64 x.f3, .int .i64 x.f4, .int .i64 x.f5, .int .i64 x.f6, .int .i64 x.f7]] w (Makes 3 1 7 (i64s (iR x)) w) := by
 have HO : Hid (((w.alloc (.cells #[.int .i64 x.f0, .int .i64 x.f1, .int .i64 x.f2, .int .i64 x.f3, .int .i64 x.f4, .int .i64 x.f5, .int .i64 x.f6, .int .i64 x.f7] 113)).alloc (.cells #[.int .i64 x.f1, .int .i64 x.f2, .int .i64 x.f3, .int .i64 x.f4, .int .i64 x.f5, .int .i64 x.f6, .int .i64 x.f7] 3)).ownsRow w.heap.size 3 1 (.slice (some ⟨w.heap.size + 1, 0, none⟩) 7 7) 7 (#[.int .i64 x.f1, .int .i64 x.f2, .int .i64 x.f3, .int .i64 x.f4, .int .i64 x.f5, .int .i64 x.f6, .int .i64 x.f7] : Array Value).toList) := Lib.hid (by simpa using World.ownsRow_lit (base := w.heap.size) (e := 3) (size := 1) (w.alloc (.cells #[.int .i64 x.f0, .int .i64 x.f1, .int .i64 x.f2, .int .i64 x.f3, .int .i64 x.f4, .int .i64 x.f5, .int .i64 x.f6, .int .i64 x.f7] 113)) #[.int .i64 x.f1, .int .i64 x.f2, .int .i64 x.f3, .int .i64 x.f4, .int .i64 x.f5, .int .i64 x.f6, .int .i64 x.f7] 7 (by simp) (by unfold maxLen; omega) rfl)
 go_enter Tryz.func241, Tryz.ntmps241
 go_wp2_with fail
 go_ret
 exact makes_of_own HO.out (((Below.refl _ _).alloc (Nat.le_refl _) _).alloc (by simp) _)
set_option maxHeartbeats 8000000 in
theorem counted_Rule (l : List TRule) (A : Option Addr) (n c lo hi : Nat) (w : World) (hn : n ≤ 1048576) (hr : Rd w lo hi 8 A n (cRule l)) :
  Calls Tryz.prog 240 #[.slice A n c, .func (.func 241) #[] #[]] w (Makes 3 1 (cnt iR l).length (i64s (cnt iR l)) w) := by
 have HL := Lib.hid (rd_len TRule.len hr (by decide))
 have HR := Lib.hid hr
 have HO0 := Lib.hid (show (w.alloc (.cells #[.int .i64 n] 3)).ownsRow w.heap.size 3 1 (.slice (some ⟨w.heap.size, 0, none⟩) 1 1) 1 (i64s [(n : Int)]) from World.ownsRow_lit w #[.int .i64 n] 1 (Nat.le_refl _) (by unfold maxLen; omega) rfl)
 clear hr
 go_enter Tryz.func240, Tryz.ntmps240
 go_wp2_with fail
 go_loopg [5, 13] n (fun gg v i wr => ∃ (k nn : Nat) (X : List Int), k ≤ n ∧ n - k ≤ gg ∧ i = .int .i64 k ∧ nn ≤ 1 + k * 7 ∧ Hid ((n : Int) :: (l.take k).flatMap iR = X ∧ nn = X.length) ∧ Hid (wr.ownsRow w.heap.size 3 1 v nn (i64s X)) ∧ Hid (Below w.heap.size w wr))
 case atStart => exact ⟨0, 1, [(n : Int)], Nat.zero_le _, by omega, rfl, by omega, Lib.hid ⟨rfl, rfl⟩, HO0, Lib.hid ((Below.refl _ _).alloc (Nat.le_refl _) _)⟩
 case round =>
  clear HO0
  obtain ⟨k, nn, X, hk, hg, rfl, hnn, HX, HO, HB⟩ := hrel
  by_cases hlt : k < n
  ·
   obtain ⟨b, off, x, rfl, _, _, hz, hc⟩ := rd_elem TRule.len (HR.out.new HB.out) HL.out hlt
   have c0 : wr.cell? ⟨b, off + k * 8, none⟩ = _ := hc 0 _ rfl
   have c1 := hc 1 _ rfl
   have c2 := hc 2 _ rfl
   have c3 := hc 3 _ rfl
   have c4 := hc 4 _ rfl
   have c5 := hc 5 _ rfl
   have c6 := hc 6 _ rfl
   have c7 := hc 7 _ rfl
   have HS := Lib.hid HB.out.size
   have HB1 := Lib.hid (HB.out.alloc HS.out (.cells #[.int .i64 x.f0, .int .i64 x.f1, .int .i64 x.f2, .int .i64 x.f3, .int .i64 x.f4, .int .i64 x.f5, .int .i64 x.f6, .int .i64 x.f7] 113))
   have HO1 := Lib.hid (HO.out.alloc (.cells #[.int .i64 x.f0, .int .i64 x.f1, .int .i64 x.f2, .int .i64 x.f3, .int .i64 x.f4, .int .i64 x.f5, .int .i64 x.f6, .int .i64 x.f7] 113))
   have HX1 := Lib.hid (show (n : Int) :: (l.take (k + 1)).flatMap iR = X ++ iR x by rw [flat_one_more hz, ← HX.out.1]; rfl)
   have CI := Lib.hid (ints_Rule x (wr.alloc (.cells #[.int .i64 x.f0, .int .i64 x.f1, .int .i64 x.f2, .int .i64 x.f3, .int .i64 x.f4, .int .i64 x.f5, .int .i64 x.f6, .int .i64 x.f7] 113)))
   clear hz hc
   go_wp2_with fail
   refine CI.out.mono ?_
   rintro e w2 ⟨A2, c2, rfl, hF2, hb2⟩
   have HB2 := Lib.hid (below_trans HB1.out hb2 (Nat.le_refl _))
   have HO2 := Lib.hid (own_newer HO1.out hb2)
   have HF2 := Lib.hid hF2
   have HS2 := Lib.hid HB2.out.size
   clear hb2 hF2 CI
   go_wp2_with (at_builtin; refine wp_app rfl _ _ _ rfl w.heap.size 3 (.int .i64 0) 1 8 Tryz.underlying116 info_int rfl (by decide) _ _ _ rfl HO2.out _ _ A2 7 c2 (i64s (iR x)) rfl (HF2.out.rd) (ints_oneCell _ _) (by unfold maxLen; omega) (by omega) HS2.out ?_; intro v3 w3 ho3 hb3 _ _)
   have HO3 := Lib.hid (show w3.ownsRow w.heap.size 3 1 v3 (nn + 7) (i64s (X ++ iR x)) by rw [i64s_app]; exact ho3)
   have HB3 := Lib.hid (HB2.out.trans hb3)
   clear ho3 hb3
   go_wp2_with fail
   go_roundg (n - (k + 1))
   case measure => omega
   case rel => exact ⟨k + 1, nn + 7, X ++ iR x, by omega, by omega, by go_num, by omega, Lib.hid ⟨HX1.out, by rw [List.length_append, iR_len, HX.out.2]⟩, HO3, HB3⟩
  ·
   obtain rfl : k = n := by omega
   have HE := Lib.hid (show cnt iR l = X by rw [← HX.out.1, List.take_of_length_le (by rw [HL.out]; omega)]; unfold cnt; rw [HL.out])
   go_wp2_with fail
   go_ret
   rw [HE.out, ← HX.out.2]
   exact makes_of_own HO.out HB.out
def iO (x : TOp) : List Int := [x.f0, x.f1, x.f2, x.f3]
theorem iO_len (x : TOp) : (iO x).length = 4 := rfl
theorem flatO_len (l : List TOp) : (l.flatMap iO).length = l.length * 4 := by
 induction l with
 | nil => rfl
 | cons x l ih => rw [List.flatMap_cons, List.length_append, ih, iO_len, List.length_cons]; omega
set_option maxHeartbeats 4000000 in
theorem ints_Op (x : TOp) (w : World) : Calls Tryz.prog 243 #[.agg #[.int .i64 x.f0, .int .i64 x.f1, .int .i64 x.f2, .int .i64 x.f3]] w (Makes 3 1 4 (i64s (iO x)) w) := by
 have HO : Hid (((w.alloc (.cells #[.int .i64 x.f0, .int .i64 x.f1, .int .i64 x.f2, .int .i64 x.f3] 130)).alloc (.cells #[.int .i64 x.f0, .int .i64 x.f1, .int .i64 x.f2, .int .i64 x.f3] 3)).ownsRow w.heap.size 3 1 (.slice (some ⟨w.heap.size + 1, 0, none⟩) 4 4) 4 (#[.int .i64 x.f0, .int .i64 x.f1, .int .i64 x.f2, .int .i64 x.f3] : Array Value).toList) := Lib.hid (by simpa using World.ownsRow_lit (base := w.heap.size) (e := 3) (size := 1) (w.alloc (.cells #[.int .i64 x.f0, .int .i64 x.f1, .int .i64 x.f2, .int .i64 x.f3] 130)) #[.int .i64 x.f0, .int .i64 x.f1, .int .i64 x.f2, .int .i64 x.f3] 4 (by simp) (by unfold maxLen; omega) rfl)
 go_enter Tryz.func243, Tryz.ntmps243
 go_wp2_with fail
 go_ret
 exact makes_of_own HO.out (((Below.refl _ _).alloc (Nat.le_refl _) _).alloc (by simp) _)
set_option maxHeartbeats 8000000 in
theorem counted_Op (l : List TOp) (A : Option Addr) (n c lo hi : Nat) (w : World) (hn : n ≤ 1048576) (hr : Rd w lo hi 4 A n (cOp l)) :
  Calls Tryz.prog 242 #[.slice A n c, .func (.func 243) #[] #[]] w (Makes 3 1 (cnt iO l).length (i64s (cnt iO l)) w) := by
 have HL := Lib.hid (rd_len TOp.len hr (by decide))
 have HR := Lib.hid hr
 have HO0 := Lib.hid (show (w.alloc (.cells #[.int .i64 n] 3)).ownsRow w.heap.size 3 1 (.slice (some ⟨w.heap.size, 0, none⟩) 1 1) 1 (i64s [(n : Int)]) from World.ownsRow_lit w #[.int .i64 n] 1 (Nat.le_refl _) (by unfold maxLen; omega) rfl)
 clear hr
 go_enter Tryz.func242, Tryz.ntmps242
 go_wp2_with fail
 go_loopg [5, 13] n (fun gg v i wr => ∃ (k nn : Nat) (X : List Int), k ≤ n ∧ n - k ≤ gg ∧ i = .int .i64 k ∧ nn ≤ 1 + k * 4 ∧ Hid ((n : Int) :: (l.take k).flatMap iO = X ∧ nn = X.length) ∧ Hid (wr.ownsRow w.heap.size 3 1 v nn (i64s X)) ∧ Hid (Below w.heap.size w wr))
 case atStart => exact ⟨0, 1, [(n : Int)], Nat.zero_le _, by omega, rfl, by omega, Lib.hid ⟨rfl, rfl⟩, HO0, Lib.hid ((Below.refl _ _).alloc (Nat.le_refl _) _)⟩
 case round =>
  clear HO0
  obtain ⟨k, nn, X, hk, hg, rfl, hnn, HX, HO, HB⟩ := hrel
  by_cases hlt : k < n
  ·
   obtain ⟨b, off, x, rfl, _, _, hz, hc⟩ := rd_elem TOp.len (HR.out.new HB.out) HL.out hlt
   have c0 : wr.cell? ⟨b, off + k * 4, none⟩ = _ := hc 0 _ rfl
   have c1 := hc 1 _ rfl
   have c2 := hc 2 _ rfl
   have c3 := hc 3 _ rfl
   have HS := Lib.hid HB.out.size
   have HB1 := Lib.hid (HB.out.alloc HS.out (.cells #[.int .i64 x.f0, .int .i64 x.f1, .int .i64 x.f2, .int .i64 x.f3] 130))
   have HO1 := Lib.hid (HO.out.alloc (.cells #[.int .i64 x.f0, .int .i64 x.f1, .int .i64 x.f2, .int .i64 x.f3] 130))
   have HX1 := Lib.hid (show (n : Int) :: (l.take (k + 1)).flatMap iO = X ++ iO x by rw [flat_one_more hz, ← HX.out.1]; rfl)
   have CI := Lib.hid (ints_Op x (wr.alloc (.cells #[.int .i64 x.f0, .int .i64 x.f1, .int .i64 x.f2, .int .i64 x.f3] 130)))
   clear hz hc
   go_wp2_with fail
   refine CI.out.mono ?_
   rintro e w2 ⟨A2, c2, rfl, hF2, hb2⟩
   have HB2 := Lib.hid (below_trans HB1.out hb2 (Nat.le_refl _))
   have HO2 := Lib.hid (own_newer HO1.out hb2)
   have HF2 := Lib.hid hF2
   have HS2 := Lib.hid HB2.out.size
   clear hb2 hF2 CI
   go_wp2_with (at_builtin; refine wp_app rfl _ _ _ rfl w.heap.size 3 (.int .i64 0) 1 8 Tryz.underlying116 info_int rfl (by decide) _ _ _ rfl HO2.out _ _ A2 4 c2 (i64s (iO x)) rfl (HF2.out.rd) (ints_oneCell _ _) (by unfold maxLen; omega) (by omega) HS2.out ?_; intro v3 w3 ho3 hb3 _ _)
   have HO3 := Lib.hid (show w3.ownsRow w.heap.size 3 1 v3 (nn + 4) (i64s (X ++ iO x)) by rw [i64s_app]; exact ho3)
   have HB3 := Lib.hid (HB2.out.trans hb3)
   clear ho3 hb3
   go_wp2_with fail
   go_roundg (n - (k + 1))
   case measure => omega
   case rel => exact ⟨k + 1, nn + 4, X ++ iO x, by omega, by omega, by go_num, by omega, Lib.hid ⟨HX1.out, by rw [List.length_append, iO_len, HX.out.2]⟩, HO3, HB3⟩
  ·
   obtain rfl : k = n := by omega
   have HE := Lib.hid (show cnt iO l = X by rw [← HX.out.1, List.take_of_length_le (by rw [HL.out]; omega)]; unfold cnt; rw [HL.out])
   go_wp2_with fail
   go_ret
   rw [HE.out, ← HX.out.2]
   exact makes_of_own HO.out HB.out
end Go.Proofs.YtkedacmpmancbaaGreatDoor
namespace Go.Proofs.YtkedacmpmancbaaGreatDoor
open Go Go.ChangeShapes Go.WideShapes Go.ChangeAt Go.RowKit Go.Lib
set_option linter.unusedVariables false
set_option linter.unusedSimpArgs false
set_option maxRecDepth 100000
def mAll (p0 p1 p2 : Int) (l3 : List TGrant) (l4 : List TFlow) (l5 : List TRule) (l6 : List TOp) : List Int := [p0, p1, p2] ++ cnt iG l3 ++ cnt iF l4 ++ cnt iR l5 ++ cnt iO l6
def mPInts (p0 p1 p2 : Int) (l3 : List TGrant) (l4 : List TFlow) (l5 : List TRule) (l6 : List TOp) : List Int := if mIsPack p0 p1 p2 l3 l4 l5 l6 = true then mAll p0 p1 p2 l3 l4 l5 l6 else []
theorem mAll_len (p0 p1 p2 : Int) (l3 : List TGrant) (l4 : List TFlow) (l5 : List TRule) (l6 : List TOp) : (mAll p0 p1 p2 l3 l4 l5 l6).length = 7 + l3.length * 6 + l4.length * 2 + l5.length * 7 + l6.length * 4 := by
 unfold mAll cnt
 simp only [List.length_append, List.length_cons, List.length_nil, flatG_len, flatF_len, flatR_len, flatO_len]
 omega
theorem mPInts_len (p0 p1 p2 : Int) (l3 : List TGrant) (l4 : List TFlow) (l5 : List TRule) (l6 : List TOp) : (mPInts p0 p1 p2 l3 l4 l5 l6).length ≤ 7 + l3.length * 6 + l4.length * 2 + l5.length * 7 + l6.length * 4 := by
 unfold mPInts
 split
 ·
  rw [mAll_len]; omega
 ·
  simp
set_option maxHeartbeats 4000000 in
theorem part_0 (p0 p1 p2 : Int) (l3 : List TGrant) (A3 : Option Addr) (n3 c3 lo3 hi3 : Nat) (l4 : List TFlow) (A4 : Option Addr) (n4 c4 lo4 hi4 : Nat) (l5 : List TRule) (A5 : Option Addr) (n5 c5 lo5 hi5 : Nat) (l6 : List TOp) (A6 : Option Addr) (n6 c6 lo6 hi6 : Nat) (p7 : Int) (w : World) (h3 : n3 ≤ 1048576) (r3 : Rd w lo3 hi3 7 A3 n3 (cGrant l3)) (h4 : n4 ≤ 1048576) (r4 : Rd w lo4 hi4 3 A4 n4 (cFlow l4)) (h5 : n5 ≤ 1048576) (r5 : Rd w lo5 hi5 8 A5 n5 (cRule l5)) (h6 : n6 ≤ 1048576) (r6 : Rd w lo6 hi6 4 A6 n6 (cOp l6)) :
  Calls Tryz.prog 222 #[.agg #[.int .i64 p0, .int .i64 p1, .int .i64 p2, .slice A3 n3 c3, .slice A4 n4 c4, .slice A5 n5 c5, .slice A6 n6 c6, .int .i64 p7], .int .i64 0] w (Makes 3 1 3 (i64s [p0, p1, p2]) w) := by
 have HO : Hid (((w.alloc (.cells #[.int .i64 p0, .int .i64 p1, .int .i64 p2, .slice A3 n3 c3, .slice A4 n4 c4, .slice A5 n5 c5, .slice A6 n6 c6, .int .i64 p7] 35)).alloc (.cells #[.int .i64 p0, .int .i64 p1, .int .i64 p2] 3)).ownsRow w.heap.size 3 1 (.slice (some ⟨w.heap.size + 1, 0, none⟩) 3 3) 3 (#[.int .i64 p0, .int .i64 p1, .int .i64 p2] : Array Value).toList) := Lib.hid (by simpa using World.ownsRow_lit (base := w.heap.size) (e := 3) (size := 1) (w.alloc (.cells #[.int .i64 p0, .int .i64 p1, .int .i64 p2, .slice A3 n3 c3, .slice A4 n4 c4, .slice A5 n5 c5, .slice A6 n6 c6, .int .i64 p7] 35)) #[.int .i64 p0, .int .i64 p1, .int .i64 p2] 3 (by simp) (by unfold maxLen; omega) rfl)
 clear r3 r4 r5 r6
 go_enter Tryz.func222, Tryz.ntmps222
 go_wp2_with fail
 go_ret
 exact makes_of_own HO.out (((Below.refl _ _).alloc (Nat.le_refl _) _).alloc (by simp) _)
set_option maxHeartbeats 4000000 in
theorem part_1 (p0 p1 p2 : Int) (l3 : List TGrant) (A3 : Option Addr) (n3 c3 lo3 hi3 : Nat) (l4 : List TFlow) (A4 : Option Addr) (n4 c4 lo4 hi4 : Nat) (l5 : List TRule) (A5 : Option Addr) (n5 c5 lo5 hi5 : Nat) (l6 : List TOp) (A6 : Option Addr) (n6 c6 lo6 hi6 : Nat) (p7 : Int) (w : World) (h3 : n3 ≤ 1048576) (r3 : Rd w lo3 hi3 7 A3 n3 (cGrant l3)) (h4 : n4 ≤ 1048576) (r4 : Rd w lo4 hi4 3 A4 n4 (cFlow l4)) (h5 : n5 ≤ 1048576) (r5 : Rd w lo5 hi5 8 A5 n5 (cRule l5)) (h6 : n6 ≤ 1048576) (r6 : Rd w lo6 hi6 4 A6 n6 (cOp l6)) :
  Calls Tryz.prog 222 #[.agg #[.int .i64 p0, .int .i64 p1, .int .i64 p2, .slice A3 n3 c3, .slice A4 n4 c4, .slice A5 n5 c5, .slice A6 n6 c6, .int .i64 p7], .int .i64 1] w (Makes 3 1 (cnt iG l3).length (i64s (cnt iG l3)) w) := by
 have HB0 := Lib.hid ((Below.refl w.heap.size w).alloc (Nat.le_refl _) (.cells #[.int .i64 p0, .int .i64 p1, .int .i64 p2, .slice A3 n3 c3, .slice A4 n4 c4, .slice A5 n5 c5, .slice A6 n6 c6, .int .i64 p7] 35))
 have CC := Lib.hid (counted_Grant l3 A3 n3 c3 lo3 hi3 (w.alloc (.cells #[.int .i64 p0, .int .i64 p1, .int .i64 p2, .slice A3 n3 c3, .slice A4 n4 c4, .slice A5 n5 c5, .slice A6 n6 c6, .int .i64 p7] 35)) h3 (r3.alloc _))
 generalize cnt iG l3 = X at CC ⊢
 generalize X.length = nn at CC ⊢
 clear r3 r4 r5 r6
 go_enter Tryz.func222, Tryz.ntmps222
 go_wp2_with fail
 refine CC.out.mono ?_
 rintro e w1 ⟨A', c', rfl, hF, hb⟩
 have HF := Lib.hid (hF.mono (lo' := w.heap.size) (by simp) (Nat.le_refl _))
 have HB := Lib.hid (below_trans HB0.out hb (by simp))
 clear hF hb CC
 go_wp2_with fail
 go_ret
 exact ⟨A', c', rfl, HF.out, HB.out⟩
set_option maxHeartbeats 4000000 in
theorem part_2 (p0 p1 p2 : Int) (l3 : List TGrant) (A3 : Option Addr) (n3 c3 lo3 hi3 : Nat) (l4 : List TFlow) (A4 : Option Addr) (n4 c4 lo4 hi4 : Nat) (l5 : List TRule) (A5 : Option Addr) (n5 c5 lo5 hi5 : Nat) (l6 : List TOp) (A6 : Option Addr) (n6 c6 lo6 hi6 : Nat) (p7 : Int) (w : World) (h3 : n3 ≤ 1048576) (r3 : Rd w lo3 hi3 7 A3 n3 (cGrant l3)) (h4 : n4 ≤ 1048576) (r4 : Rd w lo4 hi4 3 A4 n4 (cFlow l4)) (h5 : n5 ≤ 1048576) (r5 : Rd w lo5 hi5 8 A5 n5 (cRule l5)) (h6 : n6 ≤ 1048576) (r6 : Rd w lo6 hi6 4 A6 n6 (cOp l6)) :
  Calls Tryz.prog 222 #[.agg #[.int .i64 p0, .int .i64 p1, .int .i64 p2, .slice A3 n3 c3, .slice A4 n4 c4, .slice A5 n5 c5, .slice A6 n6 c6, .int .i64 p7], .int .i64 2] w (Makes 3 1 (cnt iF l4).length (i64s (cnt iF l4)) w) := by
 have HB0 := Lib.hid ((Below.refl w.heap.size w).alloc (Nat.le_refl _) (.cells #[.int .i64 p0, .int .i64 p1, .int .i64 p2, .slice A3 n3 c3, .slice A4 n4 c4, .slice A5 n5 c5, .slice A6 n6 c6, .int .i64 p7] 35))
 have CC := Lib.hid (counted_Flow l4 A4 n4 c4 lo4 hi4 (w.alloc (.cells #[.int .i64 p0, .int .i64 p1, .int .i64 p2, .slice A3 n3 c3, .slice A4 n4 c4, .slice A5 n5 c5, .slice A6 n6 c6, .int .i64 p7] 35)) h4 (r4.alloc _))
 generalize cnt iF l4 = X at CC ⊢
 generalize X.length = nn at CC ⊢
 clear r3 r4 r5 r6
 go_enter Tryz.func222, Tryz.ntmps222
 go_wp2_with fail
 refine CC.out.mono ?_
 rintro e w1 ⟨A', c', rfl, hF, hb⟩
 have HF := Lib.hid (hF.mono (lo' := w.heap.size) (by simp) (Nat.le_refl _))
 have HB := Lib.hid (below_trans HB0.out hb (by simp))
 clear hF hb CC
 go_wp2_with fail
 go_ret
 exact ⟨A', c', rfl, HF.out, HB.out⟩
set_option maxHeartbeats 4000000 in
theorem part_3 (p0 p1 p2 : Int) (l3 : List TGrant) (A3 : Option Addr) (n3 c3 lo3 hi3 : Nat) (l4 : List TFlow) (A4 : Option Addr) (n4 c4 lo4 hi4 : Nat) (l5 : List TRule) (A5 : Option Addr) (n5 c5 lo5 hi5 : Nat) (l6 : List TOp) (A6 : Option Addr) (n6 c6 lo6 hi6 : Nat) (p7 : Int) (w : World) (h3 : n3 ≤ 1048576) (r3 : Rd w lo3 hi3 7 A3 n3 (cGrant l3)) (h4 : n4 ≤ 1048576) (r4 : Rd w lo4 hi4 3 A4 n4 (cFlow l4)) (h5 : n5 ≤ 1048576) (r5 : Rd w lo5 hi5 8 A5 n5 (cRule l5)) (h6 : n6 ≤ 1048576) (r6 : Rd w lo6 hi6 4 A6 n6 (cOp l6)) :
  Calls Tryz.prog 222 #[.agg #[.int .i64 p0, .int .i64 p1, .int .i64 p2, .slice A3 n3 c3, .slice A4 n4 c4, .slice A5 n5 c5, .slice A6 n6 c6, .int .i64 p7], .int .i64 3] w (Makes 3 1 (cnt iR l5).length (i64s (cnt iR l5)) w) := by
 have HB0 := Lib.hid ((Below.refl w.heap.size w).alloc (Nat.le_refl _) (.cells #[.int .i64 p0, .int .i64 p1, .int .i64 p2, .slice A3 n3 c3, .slice A4 n4 c4, .slice A5 n5 c5, .slice A6 n6 c6, .int .i64 p7] 35))
 have CC := Lib.hid (counted_Rule l5 A5 n5 c5 lo5 hi5 (w.alloc (.cells #[.int .i64 p0, .int .i64 p1, .int .i64 p2, .slice A3 n3 c3, .slice A4 n4 c4, .slice A5 n5 c5, .slice A6 n6 c6, .int .i64 p7] 35)) h5 (r5.alloc _))
 generalize cnt iR l5 = X at CC ⊢
 generalize X.length = nn at CC ⊢
 clear r3 r4 r5 r6
 go_enter Tryz.func222, Tryz.ntmps222
 go_wp2_with fail
 refine CC.out.mono ?_
 rintro e w1 ⟨A', c', rfl, hF, hb⟩
 have HF := Lib.hid (hF.mono (lo' := w.heap.size) (by simp) (Nat.le_refl _))
 have HB := Lib.hid (below_trans HB0.out hb (by simp))
 clear hF hb CC
 go_wp2_with fail
 go_ret
 exact ⟨A', c', rfl, HF.out, HB.out⟩
set_option maxHeartbeats 4000000 in
theorem part_4 (p0 p1 p2 : Int) (l3 : List TGrant) (A3 : Option Addr) (n3 c3 lo3 hi3 : Nat) (l4 : List TFlow) (A4 : Option Addr) (n4 c4 lo4 hi4 : Nat) (l5 : List TRule) (A5 : Option Addr) (n5 c5 lo5 hi5 : Nat) (l6 : List TOp) (A6 : Option Addr) (n6 c6 lo6 hi6 : Nat) (p7 : Int) (w : World) (h3 : n3 ≤ 1048576) (r3 : Rd w lo3 hi3 7 A3 n3 (cGrant l3)) (h4 : n4 ≤ 1048576) (r4 : Rd w lo4 hi4 3 A4 n4 (cFlow l4)) (h5 : n5 ≤ 1048576) (r5 : Rd w lo5 hi5 8 A5 n5 (cRule l5)) (h6 : n6 ≤ 1048576) (r6 : Rd w lo6 hi6 4 A6 n6 (cOp l6)) :
  Calls Tryz.prog 222 #[.agg #[.int .i64 p0, .int .i64 p1, .int .i64 p2, .slice A3 n3 c3, .slice A4 n4 c4, .slice A5 n5 c5, .slice A6 n6 c6, .int .i64 p7], .int .i64 4] w (Makes 3 1 (cnt iO l6).length (i64s (cnt iO l6)) w) := by
 have HB0 := Lib.hid ((Below.refl w.heap.size w).alloc (Nat.le_refl _) (.cells #[.int .i64 p0, .int .i64 p1, .int .i64 p2, .slice A3 n3 c3, .slice A4 n4 c4, .slice A5 n5 c5, .slice A6 n6 c6, .int .i64 p7] 35))
 have CC := Lib.hid (counted_Op l6 A6 n6 c6 lo6 hi6 (w.alloc (.cells #[.int .i64 p0, .int .i64 p1, .int .i64 p2, .slice A3 n3 c3, .slice A4 n4 c4, .slice A5 n5 c5, .slice A6 n6 c6, .int .i64 p7] 35)) h6 (r6.alloc _))
 generalize cnt iO l6 = X at CC ⊢
 generalize X.length = nn at CC ⊢
 clear r3 r4 r5 r6
 go_enter Tryz.func222, Tryz.ntmps222
 go_wp2_with fail
 refine CC.out.mono ?_
 rintro e w1 ⟨A', c', rfl, hF, hb⟩
 have HF := Lib.hid (hF.mono (lo' := w.heap.size) (by simp) (Nat.le_refl _))
 have HB := Lib.hid (below_trans HB0.out hb (by simp))
 clear hF hb CC
 go_wp2_with fail
 go_ret
 exact ⟨A', c', rfl, HF.out, HB.out⟩
theorem pk_newer {w w' : World} {base size n : Nat} {e : TypeId} {v : Value} {xs : List Value} (h : OwnZ w base e size v n xs) (hb : Below w.heap.size w w') : OwnZ w' base e size v n xs := h.imp (fun h => own_newer h hb) id
/-- What is written behind so many parts. -/
def upTo (p0 p1 p2 : Int) (l3 : List TGrant) (l4 : List TFlow) (l5 : List TRule) (l6 : List TOp) : Nat → List Int
 | 0 => []
 | 1 => [] ++ [p0, p1, p2]
 | 2 => [] ++ [p0, p1, p2] ++ cnt iG l3
 | 3 => [] ++ [p0, p1, p2] ++ cnt iG l3 ++ cnt iF l4
 | 4 => [] ++ [p0, p1, p2] ++ cnt iG l3 ++ cnt iF l4 ++ cnt iR l5
 | _ => [] ++ [p0, p1, p2] ++ cnt iG l3 ++ cnt iF l4 ++ cnt iR l5 ++ cnt iO l6
set_option maxHeartbeats 16000000 in
theorem impl_PackageIntsC (p0 p1 p2 : Int) (l3 : List TGrant) (A3 : Option Addr) (n3 c3 lo3 hi3 : Nat) (l4 : List TFlow) (A4 : Option Addr) (n4 c4 lo4 hi4 : Nat) (l5 : List TRule) (A5 : Option Addr) (n5 c5 lo5 hi5 : Nat) (l6 : List TOp) (A6 : Option Addr) (n6 c6 lo6 hi6 : Nat) (p7 : Int) (w : World) (h3 : n3 ≤ 1048576) (r3 : Rd w lo3 hi3 7 A3 n3 (cGrant l3)) (k3 : n3 ≤ c3) (b3 : Hid (cGrantOk l3)) (h4 : n4 ≤ 1048576) (r4 : Rd w lo4 hi4 3 A4 n4 (cFlow l4)) (k4 : n4 ≤ c4) (b4 : Hid (cFlowOk l4)) (h5 : n5 ≤ 1048576) (r5 : Rd w lo5 hi5 8 A5 n5 (cRule l5)) (k5 : n5 ≤ c5) (b5 : Hid (cRuleOk l5)) (h6 : n6 ≤ 1048576) (r6 : Rd w lo6 hi6 4 A6 n6 (cOp l6)) (k6 : n6 ≤ c6) (b6 : Hid (cOpOk l6)) :
  Calls Tryz.prog 206 #[.agg #[.int .i64 p0, .int .i64 p1, .int .i64 p2, .slice A3 n3 c3, .slice A4 n4 c4, .slice A5 n5 c5, .slice A6 n6 c6, .int .i64 p7]] w (Makes 3 1 (mPInts p0 p1 p2 l3 l4 l5 l6).length (i64s (mPInts p0 p1 p2 l3 l4 l5 l6)) w) := by
 have KB0 := Lib.hid ((box_new w 35 #[.int .i64 p0, .int .i64 p1, .int .i64 p2, .slice A3 n3 c3, .slice A4 n4 c4, .slice A5 n5 c5, .slice A6 n6 c6, .int .i64 p7]).alloc_ (.cells #[] 3))
 have HB0 := Lib.hid (((Below.refl w.heap.size w).alloc (Nat.le_refl _) (.cells #[.int .i64 p0, .int .i64 p1, .int .i64 p2, .slice A3 n3 c3, .slice A4 n4 c4, .slice A5 n5 c5, .slice A6 n6 c6, .int .i64 p7] 35)).alloc (by simp) (.cells #[] 3))
 have HO0 : Hid (((w.alloc (.cells #[.int .i64 p0, .int .i64 p1, .int .i64 p2, .slice A3 n3 c3, .slice A4 n4 c4, .slice A5 n5 c5, .slice A6 n6 c6, .int .i64 p7] 35)).alloc (.cells #[] 3)).ownsRow w.heap.size 3 1 (.slice (some ⟨w.heap.size + 1, 0, none⟩) 0 0) 0 (i64s [])) := Lib.hid (by simpa using World.ownsRow_lit (base := w.heap.size) (e := 3) (size := 1) (w.alloc (.cells #[.int .i64 p0, .int .i64 p1, .int .i64 p2, .slice A3 n3 c3, .slice A4 n4 c4, .slice A5 n5 c5, .slice A6 n6 c6, .int .i64 p7] 35)) #[] 0 (by simp) (by unfold maxLen; omega) rfl)
 have CQ := Lib.hid (impl_IsPackageC p0 p1 p2 l3 A3 n3 c3 lo3 hi3 l4 A4 n4 c4 lo4 hi4 l5 A5 n5 c5 lo5 hi5 l6 A6 n6 c6 lo6 hi6 p7 ((w.alloc (.cells #[.int .i64 p0, .int .i64 p1, .int .i64 p2, .slice A3 n3 c3, .slice A4 n4 c4, .slice A5 n5 c5, .slice A6 n6 c6, .int .i64 p7] 35)).alloc (.cells #[] 3)) h3 ((r3.alloc _).alloc _) k3 b3 h4 ((r4.alloc _).alloc _) k4 b4 h5 ((r5.alloc _).alloc _) k5 b5 h6 ((r6.alloc _).alloc _) k6 b6)
 have R3 := Lib.hid (((r3.alloc (.cells #[.int .i64 p0, .int .i64 p1, .int .i64 p2, .slice A3 n3 c3, .slice A4 n4 c4, .slice A5 n5 c5, .slice A6 n6 c6, .int .i64 p7] 35))).alloc (.cells #[] 3))
 have R4 := Lib.hid (((r4.alloc (.cells #[.int .i64 p0, .int .i64 p1, .int .i64 p2, .slice A3 n3 c3, .slice A4 n4 c4, .slice A5 n5 c5, .slice A6 n6 c6, .int .i64 p7] 35))).alloc (.cells #[] 3))
 have R5 := Lib.hid (((r5.alloc (.cells #[.int .i64 p0, .int .i64 p1, .int .i64 p2, .slice A3 n3 c3, .slice A4 n4 c4, .slice A5 n5 c5, .slice A6 n6 c6, .int .i64 p7] 35))).alloc (.cells #[] 3))
 have R6 := Lib.hid (((r6.alloc (.cells #[.int .i64 p0, .int .i64 p1, .int .i64 p2, .slice A3 n3 c3, .slice A4 n4 c4, .slice A5 n5 c5, .slice A6 n6 c6, .int .i64 p7] 35))).alloc (.cells #[] 3))
 clear r3 r4 r5 r6
 cases hq : mIsPack p0 p1 p2 l3 l4 l5 l6 with
 | false =>
  rw [hq] at CQ
  have HE := Lib.hid (show mPInts p0 p1 p2 l3 l4 l5 l6 = [] by unfold mPInts; rw [if_neg (by rw [hq]; decide)])
  clear hq
  go_enter Tryz.func206, Tryz.ntmps206
  go_wp2_with fail
  refine CQ.out.mono ?_
  rintro e w1 ⟨rfl, hb⟩
  have HB1 := Lib.hid (below_trans HB0.out hb (by simp))
  have HO1 := Lib.hid (own_newer HO0.out hb)
  clear hb CQ
  go_wp2_with fail
  go_ret
  rw [HE.out]
  exact makes_of_own HO1.out HB1.out
 | true =>
  rw [hq] at CQ
  have HE := Lib.hid (show mPInts p0 p1 p2 l3 l4 l5 l6 = upTo p0 p1 p2 l3 l4 l5 l6 5 by unfold mPInts; rw [if_pos hq]; rfl)
  have hl3 := rd_len TGrant.len R3.out (by decide)
  obtain ⟨m3, M3⟩ : ∃ m, Hid ((cnt iG l3).length = m) := ⟨_, Lib.hid rfl⟩
  have hm3 : m3 ≤ 1 + 1048576 * 6 := by have h := M3.out; unfold cnt at h; rw [List.length_cons, flatG_len] at h; omega
  have hl4 := rd_len TFlow.len R4.out (by decide)
  obtain ⟨m4, M4⟩ : ∃ m, Hid ((cnt iF l4).length = m) := ⟨_, Lib.hid rfl⟩
  have hm4 : m4 ≤ 1 + 1048576 * 2 := by have h := M4.out; unfold cnt at h; rw [List.length_cons, flatF_len] at h; omega
  have hl5 := rd_len TRule.len R5.out (by decide)
  obtain ⟨m5, M5⟩ : ∃ m, Hid ((cnt iR l5).length = m) := ⟨_, Lib.hid rfl⟩
  have hm5 : m5 ≤ 1 + 1048576 * 7 := by have h := M5.out; unfold cnt at h; rw [List.length_cons, flatR_len] at h; omega
  have hl6 := rd_len TOp.len R6.out (by decide)
  obtain ⟨m6, M6⟩ : ∃ m, Hid ((cnt iO l6).length = m) := ⟨_, Lib.hid rfl⟩
  have hm6 : m6 ≤ 1 + 1048576 * 4 := by have h := M6.out; unfold cnt at h; rw [List.length_cons, flatO_len] at h; omega
  clear hq
  go_enter Tryz.func206, Tryz.ntmps206
  go_wp2_with fail
  refine CQ.out.mono ?_
  rintro e w1 ⟨rfl, hb⟩
  have HB1 := Lib.hid (below_trans HB0.out hb (by simp))
  have KB1 := Lib.hid (KB0.out.new hb)
  have hs1 : w.heap.size + 2 ≤ w1.heap.size := by have := hb.size; simpa using this
  have Q3 := Lib.hid (R3.out.new hb)
  have Q4 := Lib.hid (R4.out.new hb)
  have Q5 := Lib.hid (R5.out.new hb)
  have Q6 := Lib.hid (R6.out.new hb)
  clear hb CQ HO0 KB0 HB0
  go_wp2_with fail
  go_loopg [3, 10] 5 (fun gg v i wr => ∃ (k nn : Nat) (X : List Int), k ≤ 5 ∧ 5 - k ≤ gg ∧ i = .int .i64 k ∧ nn ≤ k * 8000000 ∧ Hid (X = upTo p0 p1 p2 l3 l4 l5 l6 k ∧ nn = X.length) ∧ Hid (OwnZ wr w1.heap.size 3 1 v nn (i64s X)) ∧ Hid (BoxAt wr w.heap.size 35 #[.int .i64 p0, .int .i64 p1, .int .i64 p2, .slice A3 n3 c3, .slice A4 n4 c4, .slice A5 n5 c5, .slice A6 n6 c6, .int .i64 p7]) ∧ Hid (Below w1.heap.size w1 wr))
  case atStart => exact ⟨0, 0, [], by omega, by omega, rfl, by omega, Lib.hid ⟨rfl, rfl⟩, Lib.hid (.inr ⟨rfl, rfl, _, rfl⟩), KB1, Lib.hid (Below.refl _ _)⟩
  case round =>
   clear KB1
   obtain ⟨k, nn, X, hk, hg, rfl, hnn, HX, HO, KB, HB⟩ := hrel
   obtain ⟨k0, k1, k2, k3, k4, k5, k6, k7⟩ := KB.out.p8
   have hkl := KB.out.lt
   have hk6 : k = 0 ∨ k = 1 ∨ k = 2 ∨ k = 3 ∨ k = 4 ∨ k = 5 := by omega
   rcases hk6 with rfl | rfl | rfl | rfl | rfl | rfl
   ·
    have CP := Lib.hid (part_0 p0 p1 p2 l3 A3 n3 c3 lo3 hi3 l4 A4 n4 c4 lo4 hi4 l5 A5 n5 c5 lo5 hi5 l6 A6 n6 c6 lo6 hi6 p7 wr h3 (Q3.out.new HB.out) h4 (Q4.out.new HB.out) h5 (Q5.out.new HB.out) h6 (Q6.out.new HB.out))
    have HS := Lib.hid HB.out.size
    go_wp2_with fail
    refine CP.out.mono ?_
    rintro e w2 ⟨A2, c2, rfl, hF2, hb2⟩
    have HB2 := Lib.hid (below_trans HB.out hb2 (Nat.le_refl _))
    have KB2 := Lib.hid (KB.out.new hb2)
    have HO2 := Lib.hid (pk_newer HO.out hb2)
    have HF2 := Lib.hid hF2
    have HS2 := Lib.hid HB2.out.size
    clear hb2 hF2 CP k0 k1 k2 k3 k4 k5 k6 k7
    go_wp2_with (at_builtin; refine wp_appz rfl _ _ _ rfl w1.heap.size 3 (.int .i64 0) 1 8 Tryz.underlying116 info_int rfl (by decide) _ _ _ rfl HO2.out _ _ A2 3 c2 (i64s [p0, p1, p2]) rfl (HF2.out.rd) (ints_oneCell _ _) (by unfold maxLen; omega) (by omega) HS2.out ?_; intro v3 w3 ho3 hb3)
    have HO3 := Lib.hid (show OwnZ w3 w1.heap.size 3 1 v3 (nn + 3) (i64s (X ++ [p0, p1, p2])) by rw [i64s_app]; exact ho3)
    have HB3 := Lib.hid (HB2.out.trans hb3)
    have KB3 := Lib.hid ((hb3.block w.heap.size (by have := hs1; omega)).trans KB2.out)
    clear ho3 hb3
    go_wp2_with fail
    go_roundg (5 - (0 + 1))
    case measure => omega
    case rel => exact ⟨0 + 1, nn + 3, X ++ [p0, p1, p2], by omega, by omega, by go_num, by omega, Lib.hid ⟨by rw [HX.out.1]; rfl, by rw [List.length_append, HX.out.2]; rfl⟩, HO3, KB3, HB3⟩
   ·
    have CP := Lib.hid (part_1 p0 p1 p2 l3 A3 n3 c3 lo3 hi3 l4 A4 n4 c4 lo4 hi4 l5 A5 n5 c5 lo5 hi5 l6 A6 n6 c6 lo6 hi6 p7 wr h3 (Q3.out.new HB.out) h4 (Q4.out.new HB.out) h5 (Q5.out.new HB.out) h6 (Q6.out.new HB.out))
    generalize hY : cnt iG l3 = Y at CP
    have HYl := Lib.hid (show Y.length = m3 by rw [← hY]; exact M3.out)
    rw [HYl.out] at CP
    have HY := Lib.hid hY
    clear hY
    have HS := Lib.hid HB.out.size
    go_wp2_with fail
    refine CP.out.mono ?_
    rintro e w2 ⟨A2, c2, rfl, hF2, hb2⟩
    have HB2 := Lib.hid (below_trans HB.out hb2 (Nat.le_refl _))
    have KB2 := Lib.hid (KB.out.new hb2)
    have HO2 := Lib.hid (pk_newer HO.out hb2)
    have HF2 := Lib.hid hF2
    have HS2 := Lib.hid HB2.out.size
    clear hb2 hF2 CP k0 k1 k2 k3 k4 k5 k6 k7
    go_wp2_with (at_builtin; refine wp_appz rfl _ _ _ rfl w1.heap.size 3 (.int .i64 0) 1 8 Tryz.underlying116 info_int rfl (by decide) _ _ _ rfl HO2.out _ _ A2 m3 c2 (i64s Y) rfl (HF2.out.rd) (ints_oneCell _ _) (by unfold maxLen; omega) (by omega) HS2.out ?_; intro v3 w3 ho3 hb3)
    have HO3 := Lib.hid (show OwnZ w3 w1.heap.size 3 1 v3 (nn + m3) (i64s (X ++ Y)) by rw [i64s_app]; exact ho3)
    have HB3 := Lib.hid (HB2.out.trans hb3)
    have KB3 := Lib.hid ((hb3.block w.heap.size (by have := hs1; omega)).trans KB2.out)
    clear ho3 hb3
    go_wp2_with fail
    go_roundg (5 - (1 + 1))
    case measure => omega
    case rel => exact ⟨1 + 1, nn + m3, X ++ Y, by omega, by omega, by go_num, by omega, Lib.hid ⟨by rw [HX.out.1, ← HY.out]; rfl, by rw [List.length_append, HX.out.2]; rw [HYl.out]⟩, HO3, KB3, HB3⟩
   ·
    have CP := Lib.hid (part_2 p0 p1 p2 l3 A3 n3 c3 lo3 hi3 l4 A4 n4 c4 lo4 hi4 l5 A5 n5 c5 lo5 hi5 l6 A6 n6 c6 lo6 hi6 p7 wr h3 (Q3.out.new HB.out) h4 (Q4.out.new HB.out) h5 (Q5.out.new HB.out) h6 (Q6.out.new HB.out))
    generalize hY : cnt iF l4 = Y at CP
    have HYl := Lib.hid (show Y.length = m4 by rw [← hY]; exact M4.out)
    rw [HYl.out] at CP
    have HY := Lib.hid hY
    clear hY
    have HS := Lib.hid HB.out.size
    go_wp2_with fail
    refine CP.out.mono ?_
    rintro e w2 ⟨A2, c2, rfl, hF2, hb2⟩
    have HB2 := Lib.hid (below_trans HB.out hb2 (Nat.le_refl _))
    have KB2 := Lib.hid (KB.out.new hb2)
    have HO2 := Lib.hid (pk_newer HO.out hb2)
    have HF2 := Lib.hid hF2
    have HS2 := Lib.hid HB2.out.size
    clear hb2 hF2 CP k0 k1 k2 k3 k4 k5 k6 k7
    go_wp2_with (at_builtin; refine wp_appz rfl _ _ _ rfl w1.heap.size 3 (.int .i64 0) 1 8 Tryz.underlying116 info_int rfl (by decide) _ _ _ rfl HO2.out _ _ A2 m4 c2 (i64s Y) rfl (HF2.out.rd) (ints_oneCell _ _) (by unfold maxLen; omega) (by omega) HS2.out ?_; intro v3 w3 ho3 hb3)
    have HO3 := Lib.hid (show OwnZ w3 w1.heap.size 3 1 v3 (nn + m4) (i64s (X ++ Y)) by rw [i64s_app]; exact ho3)
    have HB3 := Lib.hid (HB2.out.trans hb3)
    have KB3 := Lib.hid ((hb3.block w.heap.size (by have := hs1; omega)).trans KB2.out)
    clear ho3 hb3
    go_wp2_with fail
    go_roundg (5 - (2 + 1))
    case measure => omega
    case rel => exact ⟨2 + 1, nn + m4, X ++ Y, by omega, by omega, by go_num, by omega, Lib.hid ⟨by rw [HX.out.1, ← HY.out]; rfl, by rw [List.length_append, HX.out.2]; rw [HYl.out]⟩, HO3, KB3, HB3⟩
   ·
    have CP := Lib.hid (part_3 p0 p1 p2 l3 A3 n3 c3 lo3 hi3 l4 A4 n4 c4 lo4 hi4 l5 A5 n5 c5 lo5 hi5 l6 A6 n6 c6 lo6 hi6 p7 wr h3 (Q3.out.new HB.out) h4 (Q4.out.new HB.out) h5 (Q5.out.new HB.out) h6 (Q6.out.new HB.out))
    generalize hY : cnt iR l5 = Y at CP
    have HYl := Lib.hid (show Y.length = m5 by rw [← hY]; exact M5.out)
    rw [HYl.out] at CP
    have HY := Lib.hid hY
    clear hY
    have HS := Lib.hid HB.out.size
    go_wp2_with fail
    refine CP.out.mono ?_
    rintro e w2 ⟨A2, c2, rfl, hF2, hb2⟩
    have HB2 := Lib.hid (below_trans HB.out hb2 (Nat.le_refl _))
    have KB2 := Lib.hid (KB.out.new hb2)
    have HO2 := Lib.hid (pk_newer HO.out hb2)
    have HF2 := Lib.hid hF2
    have HS2 := Lib.hid HB2.out.size
    clear hb2 hF2 CP k0 k1 k2 k3 k4 k5 k6 k7
    go_wp2_with (at_builtin; refine wp_appz rfl _ _ _ rfl w1.heap.size 3 (.int .i64 0) 1 8 Tryz.underlying116 info_int rfl (by decide) _ _ _ rfl HO2.out _ _ A2 m5 c2 (i64s Y) rfl (HF2.out.rd) (ints_oneCell _ _) (by unfold maxLen; omega) (by omega) HS2.out ?_; intro v3 w3 ho3 hb3)
    have HO3 := Lib.hid (show OwnZ w3 w1.heap.size 3 1 v3 (nn + m5) (i64s (X ++ Y)) by rw [i64s_app]; exact ho3)
    have HB3 := Lib.hid (HB2.out.trans hb3)
    have KB3 := Lib.hid ((hb3.block w.heap.size (by have := hs1; omega)).trans KB2.out)
    clear ho3 hb3
    go_wp2_with fail
    go_roundg (5 - (3 + 1))
    case measure => omega
    case rel => exact ⟨3 + 1, nn + m5, X ++ Y, by omega, by omega, by go_num, by omega, Lib.hid ⟨by rw [HX.out.1, ← HY.out]; rfl, by rw [List.length_append, HX.out.2]; rw [HYl.out]⟩, HO3, KB3, HB3⟩
   ·
    have CP := Lib.hid (part_4 p0 p1 p2 l3 A3 n3 c3 lo3 hi3 l4 A4 n4 c4 lo4 hi4 l5 A5 n5 c5 lo5 hi5 l6 A6 n6 c6 lo6 hi6 p7 wr h3 (Q3.out.new HB.out) h4 (Q4.out.new HB.out) h5 (Q5.out.new HB.out) h6 (Q6.out.new HB.out))
    generalize hY : cnt iO l6 = Y at CP
    have HYl := Lib.hid (show Y.length = m6 by rw [← hY]; exact M6.out)
    rw [HYl.out] at CP
    have HY := Lib.hid hY
    clear hY
    have HS := Lib.hid HB.out.size
    go_wp2_with fail
    refine CP.out.mono ?_
    rintro e w2 ⟨A2, c2, rfl, hF2, hb2⟩
    have HB2 := Lib.hid (below_trans HB.out hb2 (Nat.le_refl _))
    have KB2 := Lib.hid (KB.out.new hb2)
    have HO2 := Lib.hid (pk_newer HO.out hb2)
    have HF2 := Lib.hid hF2
    have HS2 := Lib.hid HB2.out.size
    clear hb2 hF2 CP k0 k1 k2 k3 k4 k5 k6 k7
    go_wp2_with (at_builtin; refine wp_appz rfl _ _ _ rfl w1.heap.size 3 (.int .i64 0) 1 8 Tryz.underlying116 info_int rfl (by decide) _ _ _ rfl HO2.out _ _ A2 m6 c2 (i64s Y) rfl (HF2.out.rd) (ints_oneCell _ _) (by unfold maxLen; omega) (by omega) HS2.out ?_; intro v3 w3 ho3 hb3)
    have HO3 := Lib.hid (show OwnZ w3 w1.heap.size 3 1 v3 (nn + m6) (i64s (X ++ Y)) by rw [i64s_app]; exact ho3)
    have HB3 := Lib.hid (HB2.out.trans hb3)
    have KB3 := Lib.hid ((hb3.block w.heap.size (by have := hs1; omega)).trans KB2.out)
    clear ho3 hb3
    go_wp2_with fail
    go_roundg (5 - (4 + 1))
    case measure => omega
    case rel => exact ⟨4 + 1, nn + m6, X ++ Y, by omega, by omega, by go_num, by omega, Lib.hid ⟨by rw [HX.out.1, ← HY.out]; rfl, by rw [List.length_append, HX.out.2]; rw [HYl.out]⟩, HO3, KB3, HB3⟩
   ·
    have HE2 := Lib.hid (HE.out.trans HX.out.1.symm)
    obtain ⟨Aq, cq, rfl, hF⟩ := fr_of_ownz HO.out
    have HF := Lib.hid (hF.mono (lo' := w.heap.size) (by omega) (Nat.le_refl _))
    have HBf := Lib.hid (HB1.out.trans (HB.out.mono (by omega)))
    clear hF
    go_wp2_with fail
    go_ret
    rw [HE2.out, ← HX.out.2]
    exact ⟨_, _, rfl, HF.out, HBf.out⟩
end Go.Proofs.YtkedacmpmancbaaGreatDoor
