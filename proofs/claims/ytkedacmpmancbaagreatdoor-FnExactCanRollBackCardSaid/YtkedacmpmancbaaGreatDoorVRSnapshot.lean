/- RSnapshot, what is needed of it. -/
import Derived.Test.YtkedacmpmancbaaGreatDoorVFrame
import Derived.Test.YtkedacmpmancbaaGreatDoorVRPackage
import Derived.Test.YtkedacmpmancbaaGreatDoorVTz
namespace Go.Proofs.YtkedacmpmancbaaGreatDoor
open Go Go.ChangeShapes Go.WideShapes Go.ChangeAt Go.RowKit Go.Lib
set_option linter.unusedVariables false
set_option linter.unusedSimpArgs false
set_option maxRecDepth 100000
set_option maxHeartbeats 4000000
/-- Where the slices lie: the package's in blocks of their own, the entries apart from them, all from lo on and below hi. -/
def SepSnapshot (lo hi lo3 hi3 lo4 hi4 lo5 hi5 lo6 hi6 lo8 hi8 : Nat) : Prop := ∃ a b, lo ≤ a ∧ a ≤ b ∧ b ≤ hi ∧ SepPackage a b lo3 hi3 lo4 hi4 lo5 hi5 lo6 hi6 ∧ lo ≤ lo8 ∧ lo8 ≤ hi8 ∧ hi8 ≤ hi ∧ (b ≤ lo8 ∨ hi8 ≤ a)
theorem SepSnapshot_bd {lo hi lo3 hi3 lo4 hi4 lo5 hi5 lo6 hi6 lo8 hi8 : Nat} (h : SepSnapshot lo hi lo3 hi3 lo4 hi4 lo5 hi5 lo6 hi6 lo8 hi8) : lo ≤ lo3 ∧ lo3 ≤ hi3 ∧ hi3 ≤ hi ∧ lo ≤ lo4 ∧ lo4 ≤ hi4 ∧ hi4 ≤ hi ∧ lo ≤ lo5 ∧ lo5 ≤ hi5 ∧ hi5 ≤ hi ∧ lo ≤ lo6 ∧ lo6 ≤ hi6 ∧ hi6 ≤ hi ∧ lo ≤ lo8 ∧ lo8 ≤ hi8 ∧ hi8 ≤ hi := by
  obtain ⟨a, b, h1, h2, h3, h4, h5, h6, h7, h8⟩ := h
  have := SepPackage_bd h4
  omega
/-- A call that answers a new Snapshot of these parts and leaves what was there. -/
def MakesSnapshot (p0 p1 p2 : Int) (n3 : Nat) (l3 : List TGrant) (n4 : Nat) (l4 : List TFlow) (n5 : Nat) (l5 : List TRule) (n6 : Nat) (l6 : List TOp) (p7 : Int) (n8 : Nat) (l8 : List TStored) (w : World) (e : Ending) (w' : World) : Prop :=
  ∃ (A3 A4 A5 A6 A8 : Option Addr) (c3 lo3 hi3 c4 lo4 hi4 c5 lo5 hi5 c6 lo6 hi6 c8 lo8 hi8 : Nat), e = .returned (.agg #[.int .i64 p0, .int .i64 p1, .int .i64 p2, .slice A3 n3 c3, .slice A4 n4 c4, .slice A5 n5 c5, .slice A6 n6 c6, .int .i64 p7, .slice A8 n8 c8]) ∧ Fr w' lo3 hi3 106 7 A3 n3 c3 (cGrant l3) ∧ Fr w' lo4 hi4 109 3 A4 n4 c4 (cFlow l4) ∧ Fr w' lo5 hi5 113 8 A5 n5 c5 (cRule l5) ∧ Fr w' lo6 hi6 130 4 A6 n6 c6 (cOp l6) ∧ Fr w' lo8 hi8 148 4 A8 n8 c8 (cStored l8) ∧ Hid (SepSnapshot w.heap.size w'.heap.size lo3 hi3 lo4 hi4 lo5 hi5 lo6 hi6 lo8 hi8) ∧ Below w.heap.size w w'
theorem eq_snapshot_same (p0 p1 p2 : Int) (l3 : List TGrant) (n3 : Nat) (A3 A3' : Option Addr) (c3 c3' lo3 hi3 lo3' hi3' : Nat) (l4 : List TFlow) (n4 : Nat) (A4 A4' : Option Addr) (c4 c4' lo4 hi4 lo4' hi4' : Nat) (l5 : List TRule) (n5 : Nat) (A5 A5' : Option Addr) (c5 c5' lo5 hi5 lo5' hi5' : Nat) (l6 : List TOp) (n6 : Nat) (A6 A6' : Option Addr) (c6 c6' lo6 hi6 lo6' hi6' : Nat) (p7 : Int) (l8 : List TStored) (n8 : Nat) (A8 A8' : Option Addr) (c8 c8' lo8 hi8 lo8' hi8' : Nat) (w : World) (hn3 : n3 ≤ 17179869184) (hn4 : n4 ≤ 17179869184) (hn5 : n5 ≤ 17179869184) (hn6 : n6 ≤ 17179869184) (hn8 : n8 ≤ 17179869184) (r3 : Rd w lo3 hi3 7 A3 n3 (cGrant l3)) (r4 : Rd w lo4 hi4 3 A4 n4 (cFlow l4)) (r5 : Rd w lo5 hi5 8 A5 n5 (cRule l5)) (r6 : Rd w lo6 hi6 4 A6 n6 (cOp l6)) (r8 : Rd w lo8 hi8 4 A8 n8 (cStored l8)) (r3' : Rd w lo3' hi3' 7 A3' n3 (cGrant l3)) (r4' : Rd w lo4' hi4' 3 A4' n4 (cFlow l4)) (r5' : Rd w lo5' hi5' 8 A5' n5 (cRule l5)) (r6' : Rd w lo6' hi6' 4 A6' n6 (cOp l6)) (r8' : Rd w lo8' hi8' 4 A8' n8 (cStored l8)) :
    Calls Tryz.prog 16 #[.agg #[.int .i64 p0, .int .i64 p1, .int .i64 p2, .slice A3 n3 c3, .slice A4 n4 c4, .slice A5 n5 c5, .slice A6 n6 c6, .int .i64 p7, .slice A8 n8 c8], .agg #[.int .i64 p0, .int .i64 p1, .int .i64 p2, .slice A3' n3 c3', .slice A4' n4 c4', .slice A5' n5 c5', .slice A6' n6 c6', .int .i64 p7, .slice A8' n8 c8']] w (Says (.bool true) w) := by
  have R3 := Lib.hid r3
  have R3' := Lib.hid r3'
  clear r3 r3'
  have R4 := Lib.hid r4
  have R4' := Lib.hid r4'
  clear r4 r4'
  have R5 := Lib.hid r5
  have R5' := Lib.hid r5'
  clear r5 r5'
  have R6 := Lib.hid r6
  have R6' := Lib.hid r6'
  clear r6 r6'
  have R8 := Lib.hid r8
  have R8' := Lib.hid r8'
  clear r8 r8'
  have HB := Lib.hid (Below.refl w.heap.size w)
  go_enter Tryz.func16, Tryz.ntmps16
  go_wp2_with fail
  refine Calls.mono (eq_package_same p0 p1 p2 l3 n3 A3 A3' c3 c3' lo3 hi3 lo3' hi3' l4 n4 A4 A4' c4 c4' lo4 hi4 lo4' hi4' l5 n5 A5 A5' c5 c5' lo5 hi5 lo5' hi5' l6 n6 A6 A6' c6 c6' lo6 hi6 lo6' hi6' p7 _ hn3 hn4 hn5 hn6 (R3.out.new aU2) (R4.out.new aU2) (R5.out.new aU2) (R6.out.new aU2) (R3'.out.new aU2) (R4'.out.new aU2) (R5'.out.new aU2) (R6'.out.new aU2)) ?_
  rintro e w1 ⟨rfl, hb⟩
  obtain ⟨hc1, hf1⟩ := bcell hb
  have hs1 := hb.size
  (try simp at hs1)
  replace HB := Lib.hid (show Below w.heap.size w w1 from Below.trans aU2 (hb.mono (by first | omega | (simp; done) | (simp <;> omega))))
  have z1_0 : w.heap.size < w1.heap.size := by omega
  have z1_1 : w.heap.size + 1 < w1.heap.size := by omega
  clear hb
  go_wp2_with fail
  refine Calls.mono (eq_stored_same l8 A8 A8' n8 n8 c8 c8' lo8 hi8 lo8' hi8' _ (by omega) (by omega) (R8.out.new aU2) (R8'.out.new aU2)) ?_
  rintro e w2 ⟨rfl, hb⟩
  obtain ⟨hc2, hf2⟩ := bcell hb
  have hs2 := hb.size
  (try simp at hs2)
  replace HB := Lib.hid (show Below w.heap.size w w2 from Below.trans aU2 (hb.mono (by first | omega | (simp; done) | (simp <;> omega))))
  have z2_0 : w.heap.size < w2.heap.size := by omega
  have z2_1 : w.heap.size + 1 < w2.heap.size := by omega
  clear hb
  go_wp2_with fail
  go_ret
  exact ⟨rfl, aU2⟩
end Go.Proofs.YtkedacmpmancbaaGreatDoor
