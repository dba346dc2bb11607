/- The laws' own helpers on Snapshot: compared, marked, and the marks looked for. -/
import Derived.Test.YtejcioenoofjlaaRPackage
import Derived.Test.YtejcioenoofjlaaTStored
namespace Go.Proofs.Ytejcioenoofjlaa
open Go Go.ChangeShapes Go.WideShapes Go.ChangeAt Go.RowKit Go.Lib
set_option linter.unusedVariables false
set_option linter.unusedSimpArgs false
set_option maxRecDepth 100000
set_option maxHeartbeats 4000000
/-- Where the slices lie: the package's in blocks of their own, the entries apart from them, all from lo on and below hi. -/
def SepSnapshot (lo hi lo3 hi3 lo4 hi4 lo5 hi5 lo6 hi6 lo8 hi8 : Nat) : Prop := ∃ a b, lo ≤ a ∧ a ≤ b ∧ b ≤ hi ∧ SepPackage a b lo3 hi3 lo4 hi4 lo5 hi5 lo6 hi6 ∧ lo ≤ lo8 ∧ lo8 ≤ hi8 ∧ hi8 ≤ hi ∧ (b ≤ lo8 ∨ hi8 ≤ a)
theorem SepSnapshot_bd {lo hi lo3 hi3 lo4 hi4 lo5 hi5 lo6 hi6 lo8 hi8 : Nat} (h : SepSnapshot lo hi lo3 hi3 lo4 hi4 lo5 hi5 lo6 hi6 lo8 hi8) : lo ≤ lo3 ∧ lo3 ≤ hi3 ∧ hi3 ≤ hi ∧ lo ≤ lo4 ∧ lo4 ≤ hi4 ∧ hi4 ≤ hi ∧ lo ≤ lo5 ∧ lo5 ≤ hi5 ∧ hi5 ≤ hi ∧ lo ≤ lo6 ∧ lo6 ≤ hi6 ∧ hi6 ≤ hi ∧ lo ≤ lo8 ∧ lo8 ≤ hi8 ∧ hi8 ≤ hi := by
  obtain ⟨a, b, h1, h2, h3, h4, h5, h6, h7, h8⟩ := h
  have := SepPackage_bd h4
  omega
/-- A call that answers a new Snapshot of these parts and leaves what was there. -/
def MakesSnapshot (p0 p1 p2 : Int) (n3 : Nat) (l3 : List TGrant) (n4 : Nat) (l4 : List TFlow) (n5 : Nat) (l5 : List TRule) (n6 : Nat) (l6 : List TOp) (p7 : Int) (n8 : Nat) (l8 : List TStored) (w : World) (e : Ending) (w' : World) : Prop :=
  ∃ (A3 A4 A5 A6 A8 : Option Addr) (c3 lo3 hi3 c4 lo4 hi4 c5 lo5 hi5 c6 lo6 hi6 c8 lo8 hi8 : Nat), e = .returned (.agg #[.int .i64 p0, .int .i64 p1, .int .i64 p2, .slice A3 n3 c3, .slice A4 n4 c4, .slice A5 n5 c5, .slice A6 n6 c6, .int .i64 p7, .slice A8 n8 c8]) ∧ Fr w' lo3 hi3 140 7 A3 n3 c3 (cGrant l3) ∧ Fr w' lo4 hi4 117 3 A4 n4 c4 (cFlow l4) ∧ Fr w' lo5 hi5 142 8 A5 n5 c5 (cRule l5) ∧ Fr w' lo6 hi6 144 4 A6 n6 c6 (cOp l6) ∧ Fr w' lo8 hi8 164 4 A8 n8 c8 (cStored l8) ∧ Hid (SepSnapshot w.heap.size w'.heap.size lo3 hi3 lo4 hi4 lo5 hi5 lo6 hi6 lo8 hi8) ∧ Below w.heap.size w w'
theorem eq_snapshot_same (p0 p1 p2 : Int) (l3 : List TGrant) (n3 : Nat) (A3 A3' : Option Addr) (c3 c3' lo3 hi3 lo3' hi3' : Nat) (l4 : List TFlow) (n4 : Nat) (A4 A4' : Option Addr) (c4 c4' lo4 hi4 lo4' hi4' : Nat) (l5 : List TRule) (n5 : Nat) (A5 A5' : Option Addr) (c5 c5' lo5 hi5 lo5' hi5' : Nat) (l6 : List TOp) (n6 : Nat) (A6 A6' : Option Addr) (c6 c6' lo6 hi6 lo6' hi6' : Nat) (p7 : Int) (l8 : List TStored) (n8 : Nat) (A8 A8' : Option Addr) (c8 c8' lo8 hi8 lo8' hi8' : Nat) (w : World) (hn3 : n3 ≤ 17179869184) (hn4 : n4 ≤ 17179869184) (hn5 : n5 ≤ 17179869184) (hn6 : n6 ≤ 17179869184) (hn8 : n8 ≤ 17179869184) (r3 : Rd w lo3 hi3 7 A3 n3 (cGrant l3)) (r4 : Rd w lo4 hi4 3 A4 n4 (cFlow l4)) (r5 : Rd w lo5 hi5 8 A5 n5 (cRule l5)) (r6 : Rd w lo6 hi6 4 A6 n6 (cOp l6)) (r8 : Rd w lo8 hi8 4 A8 n8 (cStored l8)) (r3' : Rd w lo3' hi3' 7 A3' n3 (cGrant l3)) (r4' : Rd w lo4' hi4' 3 A4' n4 (cFlow l4)) (r5' : Rd w lo5' hi5' 8 A5' n5 (cRule l5)) (r6' : Rd w lo6' hi6' 4 A6' n6 (cOp l6)) (r8' : Rd w lo8' hi8' 4 A8' n8 (cStored l8)) :
    Calls Try.prog 40 #[.agg #[.int .i64 p0, .int .i64 p1, .int .i64 p2, .slice A3 n3 c3, .slice A4 n4 c4, .slice A5 n5 c5, .slice A6 n6 c6, .int .i64 p7, .slice A8 n8 c8], .agg #[.int .i64 p0, .int .i64 p1, .int .i64 p2, .slice A3' n3 c3', .slice A4' n4 c4', .slice A5' n5 c5', .slice A6' n6 c6', .int .i64 p7, .slice A8' n8 c8']] w (Says (.bool true) w) := by
  have R3 := Lib.hid r3
  have R3' := Lib.hid r3'
  clear r3 r3'
  have R4 := Lib.hid r4
  have R4' := Lib.hid r4'
  clear r4 r4'
  have R5 := Lib.hid r5
  have R5' := Lib.hid r5'
  clear r5 r5'
  have R6 := Lib.hid r6
  have R6' := Lib.hid r6'
  clear r6 r6'
  have R8 := Lib.hid r8
  have R8' := Lib.hid r8'
  clear r8 r8'
  have HB := Lib.hid (Below.refl w.heap.size w)
  go_enter Try.func40, Try.ntmps40
  go_wp2_with fail
  refine Calls.mono (eq_package_same p0 p1 p2 l3 n3 A3 A3' c3 c3' lo3 hi3 lo3' hi3' l4 n4 A4 A4' c4 c4' lo4 hi4 lo4' hi4' l5 n5 A5 A5' c5 c5' lo5 hi5 lo5' hi5' l6 n6 A6 A6' c6 c6' lo6 hi6 lo6' hi6' p7 _ hn3 hn4 hn5 hn6 (R3.out.new (by repeat (first | with_reducible exact Below.refl _ _ | (with_reducible exact HB.out) | (with_reducible refine Below.setCell ?_ (by first | omega | (simp; done) | (simp <;> omega)) _) | (with_reducible refine Below.alloc ?_ (by first | omega | (simp; done) | (simp <;> omega)) _) | (refine Below.alloc ?_ (by first | omega | (simp; done) | (simp <;> omega)) _) | (refine Below.setCell ?_ (by first | omega | (simp; done) | (simp <;> omega)) _)))) (R4.out.new (by repeat (first | with_reducible exact Below.refl _ _ | (with_reducible exact HB.out) | (with_reducible refine Below.setCell ?_ (by first | omega | (simp; done) | (simp <;> omega)) _) | (with_reducible refine Below.alloc ?_ (by first | omega | (simp; done) | (simp <;> omega)) _) | (refine Below.alloc ?_ (by first | omega | (simp; done) | (simp <;> omega)) _) | (refine Below.setCell ?_ (by first | omega | (simp; done) | (simp <;> omega)) _)))) (R5.out.new (by repeat (first | with_reducible exact Below.refl _ _ | (with_reducible exact HB.out) | (with_reducible refine Below.setCell ?_ (by first | omega | (simp; done) | (simp <;> omega)) _) | (with_reducible refine Below.alloc ?_ (by first | omega | (simp; done) | (simp <;> omega)) _) | (refine Below.alloc ?_ (by first | omega | (simp; done) | (simp <;> omega)) _) | (refine Below.setCell ?_ (by first | omega | (simp; done) | (simp <;> omega)) _)))) (R6.out.new (by repeat (first | with_reducible exact Below.refl _ _ | (with_reducible exact HB.out) | (with_reducible refine Below.setCell ?_ (by first | omega | (simp; done) | (simp <;> omega)) _) | (with_reducible refine Below.alloc ?_ (by first | omega | (simp; done) | (simp <;> omega)) _) | (refine Below.alloc ?_ (by first | omega | (simp; done) | (simp <;> omega)) _) | (refine Below.setCell ?_ (by first | omega | (simp; done) | (simp <;> omega)) _)))) (R3'.out.new (by repeat (first | with_reducible exact Below.refl _ _ | (with_reducible exact HB.out) | (with_reducible refine Below.setCell ?_ (by first | omega | (simp; done) | (simp <;> omega)) _) | (with_reducible refine Below.alloc ?_ (by first | omega | (simp; done) | (simp <;> omega)) _) | (refine Below.alloc ?_ (by first | omega | (simp; done) | (simp <;> omega)) _) | (refine Below.setCell ?_ (by first | omega | (simp; done) | (simp <;> omega)) _)))) (R4'.out.new (by repeat (first | with_reducible exact Below.refl _ _ | (with_reducible exact HB.out) | (with_reducible refine Below.setCell ?_ (by first | omega | (simp; done) | (simp <;> omega)) _) | (with_reducible refine Below.alloc ?_ (by first | omega | (simp; done) | (simp <;> omega)) _) | (refine Below.alloc ?_ (by first | omega | (simp; done) | (simp <;> omega)) _) | (refine Below.setCell ?_ (by first | omega | (simp; done) | (simp <;> omega)) _)))) (R5'.out.new (by repeat (first | with_reducible exact Below.refl _ _ | (with_reducible exact HB.out) | (with_reducible refine Below.setCell ?_ (by first | omega | (simp; done) | (simp <;> omega)) _) | (with_reducible refine Below.alloc ?_ (by first | omega | (simp; done) | (simp <;> omega)) _) | (refine Below.alloc ?_ (by first | omega | (simp; done) | (simp <;> omega)) _) | (refine Below.setCell ?_ (by first | omega | (simp; done) | (simp <;> omega)) _)))) (R6'.out.new (by repeat (first | with_reducible exact Below.refl _ _ | (with_reducible exact HB.out) | (with_reducible refine Below.setCell ?_ (by first | omega | (simp; done) | (simp <;> omega)) _) | (with_reducible refine Below.alloc ?_ (by first | omega | (simp; done) | (simp <;> omega)) _) | (refine Below.alloc ?_ (by first | omega | (simp; done) | (simp <;> omega)) _) | (refine Below.setCell ?_ (by first | omega | (simp; done) | (simp <;> omega)) _))))) ?_
  rintro e w1 ⟨rfl, hb⟩
  obtain ⟨hc1, hf1⟩ := bcell hb
  have hs1 := hb.size
  (try simp at hs1)
  replace HB := Lib.hid (show Below w.heap.size w w1 from Below.trans (by repeat (first | with_reducible exact Below.refl _ _ | (with_reducible exact HB.out) | (with_reducible refine Below.setCell ?_ (by first | omega | (simp; done) | (simp <;> omega)) _) | (with_reducible refine Below.alloc ?_ (by first | omega | (simp; done) | (simp <;> omega)) _) | (refine Below.alloc ?_ (by first | omega | (simp; done) | (simp <;> omega)) _) | (refine Below.setCell ?_ (by first | omega | (simp; done) | (simp <;> omega)) _))) (hb.mono (by first | omega | (simp; done) | (simp <;> omega))))
  have z1_0 : w.heap.size < w1.heap.size := by omega
  have z1_1 : w.heap.size + 1 < w1.heap.size := by omega
  clear hb
  go_wp2_with fail
  refine Calls.mono (eq_stored_same l8 A8 A8' n8 n8 c8 c8' lo8 hi8 lo8' hi8' _ (by omega) (by omega) (R8.out.new (by repeat (first | with_reducible exact Below.refl _ _ | (with_reducible exact HB.out) | (with_reducible refine Below.setCell ?_ (by first | omega | (simp; done) | (simp <;> omega)) _) | (with_reducible refine Below.alloc ?_ (by first | omega | (simp; done) | (simp <;> omega)) _) | (refine Below.alloc ?_ (by first | omega | (simp; done) | (simp <;> omega)) _) | (refine Below.setCell ?_ (by first | omega | (simp; done) | (simp <;> omega)) _)))) (R8'.out.new (by repeat (first | with_reducible exact Below.refl _ _ | (with_reducible exact HB.out) | (with_reducible refine Below.setCell ?_ (by first | omega | (simp; done) | (simp <;> omega)) _) | (with_reducible refine Below.alloc ?_ (by first | omega | (simp; done) | (simp <;> omega)) _) | (refine Below.alloc ?_ (by first | omega | (simp; done) | (simp <;> omega)) _) | (refine Below.setCell ?_ (by first | omega | (simp; done) | (simp <;> omega)) _))))) ?_
  rintro e w2 ⟨rfl, hb⟩
  obtain ⟨hc2, hf2⟩ := bcell hb
  have hs2 := hb.size
  (try simp at hs2)
  replace HB := Lib.hid (show Below w.heap.size w w2 from Below.trans (by repeat (first | with_reducible exact Below.refl _ _ | (with_reducible exact HB.out) | (with_reducible refine Below.setCell ?_ (by first | omega | (simp; done) | (simp <;> omega)) _) | (with_reducible refine Below.alloc ?_ (by first | omega | (simp; done) | (simp <;> omega)) _) | (refine Below.alloc ?_ (by first | omega | (simp; done) | (simp <;> omega)) _) | (refine Below.setCell ?_ (by first | omega | (simp; done) | (simp <;> omega)) _))) (hb.mono (by first | omega | (simp; done) | (simp <;> omega))))
  have z2_0 : w.heap.size < w2.heap.size := by omega
  have z2_1 : w.heap.size + 1 < w2.heap.size := by omega
  clear hb
  go_wp2_with fail
  go_ret
  exact ⟨rfl, by repeat (first | with_reducible exact Below.refl _ _ | (with_reducible exact HB.out) | (with_reducible refine Below.setCell ?_ (by first | omega | (simp; done) | (simp <;> omega)) _) | (with_reducible refine Below.alloc ?_ (by first | omega | (simp; done) | (simp <;> omega)) _) | (refine Below.alloc ?_ (by first | omega | (simp; done) | (simp <;> omega)) _) | (refine Below.setCell ?_ (by first | omega | (simp; done) | (simp <;> omega)) _))⟩
def MarkedSnapshot (A3 : Option Addr) (n3 c3 lo3 hi3 : Nat) (A4 : Option Addr) (n4 c4 lo4 hi4 : Nat) (A5 : Option Addr) (n5 c5 lo5 hi5 : Nat) (A6 : Option Addr) (n6 c6 lo6 hi6 : Nat) (A8 : Option Addr) (n8 c8 lo8 hi8 : Nat) (k0 lo hi : Nat) (w : World) (e : Ending) (w' : World) : Prop :=
  e = .returned (.int .i64 ((k0 + n3 * 7 + n4 * 3 + n5 * 8 + n6 * 4 + n8 * 4 : Nat) : Int)) ∧ Fr w' lo3 hi3 140 7 A3 n3 c3 (cGrant (TGrant.marks (k0) n3)) ∧ Fr w' lo4 hi4 117 3 A4 n4 c4 (cFlow (TFlow.marks (k0 + n3 * 7) n4)) ∧ Fr w' lo5 hi5 142 8 A5 n5 c5 (cRule (TRule.marks (k0 + n3 * 7 + n4 * 3) n5)) ∧ Fr w' lo6 hi6 144 4 A6 n6 c6 (cOp (TOp.marks (k0 + n3 * 7 + n4 * 3 + n5 * 8) n6)) ∧ Fr w' lo8 hi8 164 4 A8 n8 c8 (cStored (TStored.marks (k0 + n3 * 7 + n4 * 3 + n5 * 8 + n6 * 4) n8)) ∧ Chg lo hi w w'
theorem mark_snapshot (p0 p1 p2 : Int) (xs3 : List Value) (A3 : Option Addr) (n3 c3 lo3 hi3 : Nat) (xs4 : List Value) (A4 : Option Addr) (n4 c4 lo4 hi4 : Nat) (xs5 : List Value) (A5 : Option Addr) (n5 c5 lo5 hi5 : Nat) (xs6 : List Value) (A6 : Option Addr) (n6 c6 lo6 hi6 : Nat) (p7 : Int) (xs8 : List Value) (A8 : Option Addr) (n8 c8 lo8 hi8 : Nat) (k0 lo hi : Nat) (w : World) (hn3 : n3 ≤ 1073741824) (hn4 : n4 ≤ 1073741824) (hn5 : n5 ≤ 1073741824) (hn6 : n6 ≤ 1073741824) (hn8 : n8 ≤ 1073741824) (hk0 : k0 ≤ 8589934592) (hw : hi ≤ w.heap.size) (hs : Hid (SepSnapshot lo hi lo3 hi3 lo4 hi4 lo5 hi5 lo6 hi6 lo8 hi8)) (r3 : Fr w lo3 hi3 140 7 A3 n3 c3 xs3) (r4 : Fr w lo4 hi4 117 3 A4 n4 c4 xs4) (r5 : Fr w lo5 hi5 142 8 A5 n5 c5 xs5) (r6 : Fr w lo6 hi6 144 4 A6 n6 c6 xs6) (r8 : Fr w lo8 hi8 164 4 A8 n8 c8 xs8) :
    Calls Try.prog 43 #[.agg #[.int .i64 p0, .int .i64 p1, .int .i64 p2, .slice A3 n3 c3, .slice A4 n4 c4, .slice A5 n5 c5, .slice A6 n6 c6, .int .i64 p7, .slice A8 n8 c8], .int .i64 (k0 : Int)] w (MarkedSnapshot A3 n3 c3 lo3 hi3 A4 n4 c4 lo4 hi4 A5 n5 c5 lo5 hi5 A6 n6 c6 lo6 hi6 A8 n8 c8 lo8 hi8 k0 lo hi w) := by
  obtain ⟨a, b, h1, h2, h3, h4, h5, h6, h7, h8⟩ := hs.out
  have HS := Lib.hid h4
  clear h4
  replace r3 := Lib.hid r3
  replace r4 := Lib.hid r4
  replace r5 := Lib.hid r5
  replace r6 := Lib.hid r6
  replace r8 := Lib.hid r8
  have HC := Lib.hid (Chg.refl lo hi w)
  have KB := Lib.hid (box_new w 60 #[.int .i64 p0, .int .i64 p1, .int .i64 p2, .slice A3 n3 c3, .slice A4 n4 c4, .slice A5 n5 c5, .slice A6 n6 c6, .int .i64 p7, .slice A8 n8 c8])
  go_enter Try.func43, Try.ntmps43
  go_wp2_with fail
  refine Calls.mono (mark_package p0 p1 p2 _ A3 n3 c3 lo3 hi3 _ A4 n4 c4 lo4 hi4 _ A5 n5 c5 lo5 hi5 _ A6 n6 c6 lo6 hi6 p7 (k0) a b _ hn3 hn4 hn5 hn6 (by omega) (by simp; omega) HS (r3.out.alloc _) (r4.out.alloc _) (r5.out.alloc _) (r6.out.alloc _)) ?_
  rintro e w1 ⟨rfl, M3, M4, M5, M6, hc⟩
  have hz := hc.size
  (try simp at hz)
  replace r8 := Lib.hid ((r8.out.alloc _).chg hc (by omega))
  replace KB := Lib.hid (KB.out.chg hc (by omega))
  replace HC := Lib.hid (Chg.trans (HC.out.alloc _) (hc.mono (by omega) (.inl (by omega))))
  replace M3 := Lib.hid M3
  replace M4 := Lib.hid M4
  replace M5 := Lib.hid M5
  replace M6 := Lib.hid M6
  clear hc
  have e0 := KB.out.at_ (j := 0) rfl
  have e1 := KB.out.at_ (j := 1) rfl
  have e2 := KB.out.at_ (j := 2) rfl
  have e3 := KB.out.at_ (j := 3) rfl
  have e4 := KB.out.at_ (j := 4) rfl
  have e5 := KB.out.at_ (j := 5) rfl
  have e6 := KB.out.at_ (j := 6) rfl
  have e7 := KB.out.at_ (j := 7) rfl
  have e8 := KB.out.at_ (j := 8) rfl
  go_wp2_with fail
  clear e0 e1 e2 e3 e4 e5 e6 e7 e8
  refine Calls.mono (mark_stored _ A8 n8 c8 lo8 hi8 (k0 + n3 * 7 + n4 * 3 + n5 * 8 + n6 * 4) _ (by omega) (by omega) r8.out) ?_
  rintro e w2 ⟨rfl, M8, hc, hz2⟩
  have hbd := SepPackage_bd HS.out
  replace M3 := Lib.hid (M3.out.chg hc (by omega))
  replace M4 := Lib.hid (M4.out.chg hc (by omega))
  replace M5 := Lib.hid (M5.out.chg hc (by omega))
  replace M6 := Lib.hid (M6.out.chg hc (by omega))
  replace M8 := Lib.hid M8
  replace HC := Lib.hid (Chg.trans HC.out (hc.mono (by omega) (.inl (by omega))))
  clear hc hz hz2 hbd
  go_wp2_with fail
  go_ret
  exact ⟨by first | rfl | (congr 2; omega), M3.out, M4.out, M5.out, M6.out, M8.out, HC.out⟩
theorem held_snapshot (p0 p1 p2 : Int) (A3 : Option Addr) (n3 c3 lo3 hi3 : Nat) (A4 : Option Addr) (n4 c4 lo4 hi4 : Nat) (A5 : Option Addr) (n5 c5 lo5 hi5 : Nat) (A6 : Option Addr) (n6 c6 lo6 hi6 : Nat) (p7 : Int) (A8 : Option Addr) (n8 c8 lo8 hi8 : Nat) (k0 : Nat) (w : World) (hn3 : n3 ≤ 1073741824) (hn4 : n4 ≤ 1073741824) (hn5 : n5 ≤ 1073741824) (hn6 : n6 ≤ 1073741824) (hn8 : n8 ≤ 1073741824) (hk0 : k0 ≤ 8589934592) (r3 : Rd w lo3 hi3 7 A3 n3 (cGrant (TGrant.marks (k0) n3))) (r4 : Rd w lo4 hi4 3 A4 n4 (cFlow (TFlow.marks (k0 + n3 * 7) n4))) (r5 : Rd w lo5 hi5 8 A5 n5 (cRule (TRule.marks (k0 + n3 * 7 + n4 * 3) n5))) (r6 : Rd w lo6 hi6 4 A6 n6 (cOp (TOp.marks (k0 + n3 * 7 + n4 * 3 + n5 * 8) n6))) (r8 : Rd w lo8 hi8 4 A8 n8 (cStored (TStored.marks (k0 + n3 * 7 + n4 * 3 + n5 * 8 + n6 * 4) n8))) :
    Calls Try.prog 44 #[.agg #[.int .i64 p0, .int .i64 p1, .int .i64 p2, .slice A3 n3 c3, .slice A4 n4 c4, .slice A5 n5 c5, .slice A6 n6 c6, .int .i64 p7, .slice A8 n8 c8], .int .i64 (k0 : Int)] w (Says (.int .i64 ((k0 + n3 * 7 + n4 * 3 + n5 * 8 + n6 * 4 + n8 * 4 : Nat) : Int)) w) := by
  have R3 := Lib.hid r3
  clear r3
  have R4 := Lib.hid r4
  clear r4
  have R5 := Lib.hid r5
  clear r5
  have R6 := Lib.hid r6
  clear r6
  have R8 := Lib.hid r8
  clear r8
  have g0 : decide (((k0 + n3 * 7 + n4 * 3 + n5 * 8 + n6 * 4 : Nat) : Int) < 0) = false := by simp; omega
  have g1 : decide (((k0 + n3 * 7 + n4 * 3 + n5 * 8 + n6 * 4 + n8 * 4 : Nat) : Int) < 0) = false := by simp; omega
  have HB := Lib.hid (Below.refl w.heap.size w)
  go_enter Try.func44, Try.ntmps44
  go_wp2_with fail
  refine Calls.mono (held_package p0 p1 p2 A3 n3 c3 lo3 hi3 A4 n4 c4 lo4 hi4 A5 n5 c5 lo5 hi5 A6 n6 c6 lo6 hi6 p7 k0 _ hn3 hn4 hn5 hn6 (by omega) (R3.out.new (by repeat (first | with_reducible exact Below.refl _ _ | (with_reducible exact HB.out) | (with_reducible refine Below.setCell ?_ (by first | omega | (simp; done) | (simp <;> omega)) _) | (with_reducible refine Below.alloc ?_ (by first | omega | (simp; done) | (simp <;> omega)) _) | (refine Below.alloc ?_ (by first | omega | (simp; done) | (simp <;> omega)) _) | (refine Below.setCell ?_ (by first | omega | (simp; done) | (simp <;> omega)) _)))) (R4.out.new (by repeat (first | with_reducible exact Below.refl _ _ | (with_reducible exact HB.out) | (with_reducible refine Below.setCell ?_ (by first | omega | (simp; done) | (simp <;> omega)) _) | (with_reducible refine Below.alloc ?_ (by first | omega | (simp; done) | (simp <;> omega)) _) | (refine Below.alloc ?_ (by first | omega | (simp; done) | (simp <;> omega)) _) | (refine Below.setCell ?_ (by first | omega | (simp; done) | (simp <;> omega)) _)))) (R5.out.new (by repeat (first | with_reducible exact Below.refl _ _ | (with_reducible exact HB.out) | (with_reducible refine Below.setCell ?_ (by first | omega | (simp; done) | (simp <;> omega)) _) | (with_reducible refine Below.alloc ?_ (by first | omega | (simp; done) | (simp <;> omega)) _) | (refine Below.alloc ?_ (by first | omega | (simp; done) | (simp <;> omega)) _) | (refine Below.setCell ?_ (by first | omega | (simp; done) | (simp <;> omega)) _)))) (R6.out.new (by repeat (first | with_reducible exact Below.refl _ _ | (with_reducible exact HB.out) | (with_reducible refine Below.setCell ?_ (by first | omega | (simp; done) | (simp <;> omega)) _) | (with_reducible refine Below.alloc ?_ (by first | omega | (simp; done) | (simp <;> omega)) _) | (refine Below.alloc ?_ (by first | omega | (simp; done) | (simp <;> omega)) _) | (refine Below.setCell ?_ (by first | omega | (simp; done) | (simp <;> omega)) _))))) ?_
  rintro e w1 ⟨rfl, hb⟩
  obtain ⟨hc1, hf1⟩ := bcell hb
  have hs1 := hb.size
  (try simp at hs1)
  replace HB := Lib.hid (show Below w.heap.size w w1 from Below.trans (by repeat (first | with_reducible exact Below.refl _ _ | (with_reducible exact HB.out) | (with_reducible refine Below.setCell ?_ (by first | omega | (simp; done) | (simp <;> omega)) _) | (with_reducible refine Below.alloc ?_ (by first | omega | (simp; done) | (simp <;> omega)) _) | (refine Below.alloc ?_ (by first | omega | (simp; done) | (simp <;> omega)) _) | (refine Below.setCell ?_ (by first | omega | (simp; done) | (simp <;> omega)) _))) (hb.mono (by first | omega | (simp; done) | (simp <;> omega))))
  have z1_0 : w.heap.size < w1.heap.size := by omega
  clear hb
  go_wp2_with fail
  refine Calls.mono (held_stored A8 n8 c8 lo8 hi8 (k0 + n3 * 7 + n4 * 3 + n5 * 8 + n6 * 4) _ (by omega) (by omega) (R8.out.new (by repeat (first | with_reducible exact Below.refl _ _ | (with_reducible exact HB.out) | (with_reducible refine Below.setCell ?_ (by first | omega | (simp; done) | (simp <;> omega)) _) | (with_reducible refine Below.alloc ?_ (by first | omega | (simp; done) | (simp <;> omega)) _) | (refine Below.alloc ?_ (by first | omega | (simp; done) | (simp <;> omega)) _) | (refine Below.setCell ?_ (by first | omega | (simp; done) | (simp <;> omega)) _))))) ?_
  rintro e w2 hq
  obtain ⟨rfl, hb⟩ := hq.says
  obtain ⟨hc2, hf2⟩ := bcell hb
  have hs2 := hb.size
  (try simp at hs2)
  replace HB := Lib.hid (show Below w.heap.size w w2 from Below.trans (by repeat (first | with_reducible exact Below.refl _ _ | (with_reducible exact HB.out) | (with_reducible refine Below.setCell ?_ (by first | omega | (simp; done) | (simp <;> omega)) _) | (with_reducible refine Below.alloc ?_ (by first | omega | (simp; done) | (simp <;> omega)) _) | (refine Below.alloc ?_ (by first | omega | (simp; done) | (simp <;> omega)) _) | (refine Below.setCell ?_ (by first | omega | (simp; done) | (simp <;> omega)) _))) (hb.mono (by first | omega | (simp; done) | (simp <;> omega))))
  have z2_0 : w.heap.size < w2.heap.size := by omega
  clear hb
  go_wp2_with fail
  go_ret
  exact ⟨rfl, by repeat (first | with_reducible exact Below.refl _ _ | (with_reducible exact HB.out) | (with_reducible refine Below.setCell ?_ (by first | omega | (simp; done) | (simp <;> omega)) _) | (with_reducible refine Below.alloc ?_ (by first | omega | (simp; done) | (simp <;> omega)) _) | (refine Below.alloc ?_ (by first | omega | (simp; done) | (simp <;> omega)) _) | (refine Below.setCell ?_ (by first | omega | (simp; done) | (simp <;> omega)) _))⟩
end Go.Proofs.Ytejcioenoofjlaa
