/- The laws' own helpers on Outcome: read, copied, compared, sized, marked, and the marks looked for. -/
import Derived.Test.YtafekceggpbnlaaGreatRich
import Derived.Test.YtafekceggpbnlaaGreatTSite
import Derived.StillTailTactics
import Derived.Deep.RegionHeld3
import Derived.Deep.DeepCutAuto
namespace Go.Proofs.YtafekceggpbnlaaGreat
open Go Go.ChangeShapes Go.WideShapes Go.ChangeAt Go.RowKit Go.Lib
set_option linter.unusedVariables false
set_option linter.unusedSimpArgs false
set_option maxRecDepth 100000
set_option maxHeartbeats 4000000

/-- Where the slices lie: each in blocks of its own, all from lo on and below hi. -/
def SepOutcome (lo hi lo2 hi2 : Nat) : Prop := lo ≤ lo2 ∧ lo2 ≤ hi2 ∧ hi2 ≤ hi
theorem SepOutcome_bd {lo hi lo2 hi2 : Nat} (h : SepOutcome lo hi lo2 hi2) : lo ≤ lo2 ∧ lo2 ≤ hi2 ∧ hi2 ≤ hi := by unfold SepOutcome at h; omega
/-- A call that answers a new Outcome of these parts and leaves what was there. -/
def MakesOutcome (p0 : Int) (s1 : TSite) (n2 : Nat) (l2 : List TSite) (w : World) (e : Ending) (w' : World) : Prop :=
  ∃ (A2 : Option Addr) (c2 lo2 hi2 : Nat), e = .returned (.agg #[.int .i64 p0, .int .i64 s1.f0, .int .i64 s1.f1, .slice A2 n2 c2]) ∧ Fr w' lo2 hi2 35 2 A2 n2 c2 (cSite l2) ∧ Hid (SepOutcome w.heap.size w'.heap.size lo2 hi2) ∧ Below w.heap.size w w'
section
variable {H : Type} {enc : TypeId × Value → H}
end
theorem eq_outcome_same (p0 : Int) (s1 : TSite) (l2 : List TSite) (n2 : Nat) (A2 A2' : Option Addr) (c2 c2' lo2 hi2 lo2' hi2' : Nat) (w : World) (hn2 : n2 ≤ 17179869184) (r2 : Rd w lo2 hi2 2 A2 n2 (cSite l2)) (r2' : Rd w lo2' hi2' 2 A2' n2 (cSite l2)) :
    Calls Tryz.prog 9 #[.agg #[.int .i64 p0, .int .i64 s1.f0, .int .i64 s1.f1, .slice A2 n2 c2], .agg #[.int .i64 p0, .int .i64 s1.f0, .int .i64 s1.f1, .slice A2' n2 c2']] w (Says (.bool true) w) := by
  have R2 := Lib.hid r2
  have R2' := Lib.hid r2'
  clear r2 r2'
  have HB := Lib.hid (Below.refl w.heap.size w)
  go_enter Tryz.func9, Tryz.ntmps9
  go_wp2_with fail
  refine Calls.mono (eq_site_one s1 _) ?_
  rintro e w1 ⟨rfl, hb⟩
  obtain ⟨hc1, hf1⟩ := bcell hb
  have hs1 := hb.size
  (try simp at hs1)
  replace HB := Lib.hid (show Below w.heap.size w w1 from Below.trans (by repeat (first | with_reducible exact Below.refl _ _ | (with_reducible exact HB.out) | (with_reducible refine Below.setCell ?_ (by first | omega | (simp; done) | (simp <;> omega)) _) | (with_reducible refine Below.alloc ?_ (by first | omega | (simp; done) | (simp <;> omega)) _) | (refine Below.alloc ?_ (by first | omega | (simp; done) | (simp <;> omega)) _) | (refine Below.setCell ?_ (by first | omega | (simp; done) | (simp <;> omega)) _))) (hb.mono (by first | omega | (simp; done) | (simp <;> omega))))
  have z1_0 : w.heap.size < w1.heap.size := by omega
  have z1_1 : w.heap.size + 1 < w1.heap.size := by omega
  clear hb
  go_wp2_with fail
  refine Calls.mono (eq_site_same l2 A2 A2' n2 n2 c2 c2' lo2 hi2 lo2' hi2' _ (by omega) (by omega) (R2.out.new (by repeat (first | with_reducible exact Below.refl _ _ | (with_reducible exact HB.out) | (with_reducible refine Below.setCell ?_ (by first | omega | (simp; done) | (simp <;> omega)) _) | (with_reducible refine Below.alloc ?_ (by first | omega | (simp; done) | (simp <;> omega)) _) | (refine Below.alloc ?_ (by first | omega | (simp; done) | (simp <;> omega)) _) | (refine Below.setCell ?_ (by first | omega | (simp; done) | (simp <;> omega)) _)))) (R2'.out.new (by repeat (first | with_reducible exact Below.refl _ _ | (with_reducible exact HB.out) | (with_reducible refine Below.setCell ?_ (by first | omega | (simp; done) | (simp <;> omega)) _) | (with_reducible refine Below.alloc ?_ (by first | omega | (simp; done) | (simp <;> omega)) _) | (refine Below.alloc ?_ (by first | omega | (simp; done) | (simp <;> omega)) _) | (refine Below.setCell ?_ (by first | omega | (simp; done) | (simp <;> omega)) _))))) ?_
  rintro e w2 ⟨rfl, hb⟩
  obtain ⟨hc2, hf2⟩ := bcell hb
  have hs2 := hb.size
  (try simp at hs2)
  replace HB := Lib.hid (show Below w.heap.size w w2 from Below.trans (by repeat (first | with_reducible exact Below.refl _ _ | (with_reducible exact HB.out) | (with_reducible refine Below.setCell ?_ (by first | omega | (simp; done) | (simp <;> omega)) _) | (with_reducible refine Below.alloc ?_ (by first | omega | (simp; done) | (simp <;> omega)) _) | (refine Below.alloc ?_ (by first | omega | (simp; done) | (simp <;> omega)) _) | (refine Below.setCell ?_ (by first | omega | (simp; done) | (simp <;> omega)) _))) (hb.mono (by first | omega | (simp; done) | (simp <;> omega))))
  have z2_0 : w.heap.size < w2.heap.size := by omega
  have z2_1 : w.heap.size + 1 < w2.heap.size := by omega
  clear hb
  go_wp2_with fail
  go_ret
  exact ⟨rfl, by repeat (first | with_reducible exact Below.refl _ _ | (with_reducible exact HB.out) | (with_reducible refine Below.setCell ?_ (by first | omega | (simp; done) | (simp <;> omega)) _) | (with_reducible refine Below.alloc ?_ (by first | omega | (simp; done) | (simp <;> omega)) _) | (refine Below.alloc ?_ (by first | omega | (simp; done) | (simp <;> omega)) _) | (refine Below.setCell ?_ (by first | omega | (simp; done) | (simp <;> omega)) _))⟩

def MarkedOutcome (A2 : Option Addr) (n2 c2 lo2 hi2 : Nat) (k0 lo hi : Nat) (w : World) (e : Ending) (w' : World) : Prop :=
  e = .returned (.int .i64 ((k0 + n2 * 2 : Nat) : Int)) ∧ Fr w' lo2 hi2 35 2 A2 n2 c2 (cSite (TSite.marks (k0) n2)) ∧ Chg lo hi w w'
theorem mark_outcome (p0 : Int) (s1 : TSite) (xs2 : List Value) (A2 : Option Addr) (n2 c2 lo2 hi2 : Nat) (k0 lo hi : Nat) (w : World) (hn2 : n2 ≤ 1073741824) (hk0 : k0 ≤ 17179869184) (hw : hi ≤ w.heap.size) (hs : Hid (SepOutcome lo hi lo2 hi2)) (r2 : Fr w lo2 hi2 35 2 A2 n2 c2 xs2) :
    Calls Tryz.prog 12 #[.agg #[.int .i64 p0, .int .i64 s1.f0, .int .i64 s1.f1, .slice A2 n2 c2], .int .i64 (k0 : Int)] w (MarkedOutcome A2 n2 c2 lo2 hi2 k0 lo hi w) := by
  have hs := hs.out
  unfold SepOutcome at hs
  replace r2 := Lib.hid r2
  have HC := Lib.hid (Chg.refl lo hi w)
  have KB := Lib.hid (box_new w 38 #[.int .i64 p0, .int .i64 s1.f0, .int .i64 s1.f1, .slice A2 n2 c2])
  have hs0 : w.heap.size ≤ w.heap.size := Nat.le_refl _
  go_enter Tryz.func12, Tryz.ntmps12
  go_wp2_with fail
  refine Calls.mono (mark_site _ A2 n2 c2 lo2 hi2 (k0) _ (by omega) (by omega) (r2.out.alloc _)) ?_
  rintro e w1 ⟨rfl, M2, hc, hz⟩
  replace M2 := Lib.hid M2
  replace KB := Lib.hid (KB.out.chg hc (by omega))
  replace HC := Lib.hid (Chg.trans (HC.out.alloc _) (hc.mono (by omega) (.inl (by omega))))
  clear hc hz
  have e0 := KB.out.at_ (j := 0) rfl
  have e1 := KB.out.at_ (j := 1) rfl
  have e2 := KB.out.at_ (j := 2) rfl
  have e3 := KB.out.at_ (j := 3) rfl
  go_wp2_with fail
  go_ret
  exact ⟨by first | rfl | (congr 2; omega), M2.out, HC.out⟩

theorem held_outcome (p0 : Int) (s1 : TSite) (A2 : Option Addr) (n2 c2 lo2 hi2 : Nat) (k0 : Nat) (w : World) (hn2 : n2 ≤ 1073741824) (hk0 : k0 ≤ 17179869184) (r2 : Rd w lo2 hi2 2 A2 n2 (cSite (TSite.marks (k0) n2))) :
    Calls Tryz.prog 13 #[.agg #[.int .i64 p0, .int .i64 s1.f0, .int .i64 s1.f1, .slice A2 n2 c2], .int .i64 (k0 : Int)] w (Says (.int .i64 ((k0 + n2 * 2 : Nat) : Int)) w) := by
  have R2 := Lib.hid r2
  clear r2
  have g0 : decide (((k0 + n2 * 2 : Nat) : Int) < 0) = false := by simp; omega
  have HB := Lib.hid (Below.refl w.heap.size w)
  go_enter Tryz.func13, Tryz.ntmps13
  go_wp2_with fail
  refine Calls.mono (held_site A2 n2 c2 lo2 hi2 (k0) _ (by omega) (by omega) (R2.out.new (by repeat (first | with_reducible exact Below.refl _ _ | (with_reducible exact HB.out) | (with_reducible refine Below.setCell ?_ (by first | omega | (simp; done) | (simp <;> omega)) _) | (with_reducible refine Below.alloc ?_ (by first | omega | (simp; done) | (simp <;> omega)) _) | (refine Below.alloc ?_ (by first | omega | (simp; done) | (simp <;> omega)) _) | (refine Below.setCell ?_ (by first | omega | (simp; done) | (simp <;> omega)) _))))) ?_
  rintro e w1 hq
  obtain ⟨rfl, hb⟩ := hq.says
  obtain ⟨hc1, hf1⟩ := bcell hb
  have hs1 := hb.size
  (try simp at hs1)
  replace HB := Lib.hid (show Below w.heap.size w w1 from Below.trans (by repeat (first | with_reducible exact Below.refl _ _ | (with_reducible exact HB.out) | (with_reducible refine Below.setCell ?_ (by first | omega | (simp; done) | (simp <;> omega)) _) | (with_reducible refine Below.alloc ?_ (by first | omega | (simp; done) | (simp <;> omega)) _) | (refine Below.alloc ?_ (by first | omega | (simp; done) | (simp <;> omega)) _) | (refine Below.setCell ?_ (by first | omega | (simp; done) | (simp <;> omega)) _))) (hb.mono (by first | omega | (simp; done) | (simp <;> omega))))
  have z1_0 : w.heap.size < w1.heap.size := by omega
  clear hb
  go_wp2_with fail
  go_ret
  exact ⟨rfl, by repeat (first | with_reducible exact Below.refl _ _ | (with_reducible exact HB.out) | (with_reducible refine Below.setCell ?_ (by first | omega | (simp; done) | (simp <;> omega)) _) | (with_reducible refine Below.alloc ?_ (by first | omega | (simp; done) | (simp <;> omega)) _) | (refine Below.alloc ?_ (by first | omega | (simp; done) | (simp <;> omega)) _) | (refine Below.setCell ?_ (by first | omega | (simp; done) | (simp <;> omega)) _))⟩

end Go.Proofs.YtafekceggpbnlaaGreat
