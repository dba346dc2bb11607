/- The laws' own helpers on Outcome: read, copied, compared, sized, marked, and the marks looked for. -/
import Derived.Test.YtfceddgacefejaaRich
import Derived.Test.YtfceddgacefejaaTSite
import Derived.StillTailTactics
import Derived.Deep.RegionHeld3
import Derived.Deep.DeepCutAuto
namespace Go.Proofs.Ytfceddgacefejaa
open Go Go.ChangeShapes Go.WideShapes Go.ChangeAt Go.RowKit Go.Lib
set_option linter.unusedVariables false
set_option linter.unusedSimpArgs false
set_option maxRecDepth 100000
set_option maxHeartbeats 4000000

/-- Where the slices lie: each in blocks of its own, all from lo on and below hi. -/
def SepOutcome (lo hi lo2 hi2 : Nat) : Prop := lo ≤ lo2 ∧ lo2 ≤ hi2 ∧ hi2 ≤ hi
theorem SepOutcome_bd {lo hi lo2 hi2 : Nat} (h : SepOutcome lo hi lo2 hi2) : lo ≤ lo2 ∧ lo2 ≤ hi2 ∧ hi2 ≤ hi := by unfold SepOutcome at h; omega
/-- A call that answers a new Outcome of these parts and leaves what was there. -/
def MakesOutcome (p0 : Int) (s1 : TSite) (n2 : Nat) (l2 : List TSite) (w : World) (e : Ending) (w' : World) : Prop :=
  ∃ (A2 : Option Addr) (c2 lo2 hi2 : Nat), e = .returned (.agg #[.int .i64 p0, .int .i64 s1.f0, .int .i64 s1.f1, .slice A2 n2 c2]) ∧ Fr w' lo2 hi2 27 2 A2 n2 c2 (cSite l2) ∧ Hid (SepOutcome w.heap.size w'.heap.size lo2 hi2) ∧ Below w.heap.size w w'
section
variable {H : Type} {enc : TypeId × Value → H}
end
def MarkedOutcome (A2 : Option Addr) (n2 c2 lo2 hi2 : Nat) (k0 lo hi : Nat) (w : World) (e : Ending) (w' : World) : Prop :=
  e = .returned (.int .i64 ((k0 + n2 * 2 : Nat) : Int)) ∧ Fr w' lo2 hi2 27 2 A2 n2 c2 (cSite (TSite.marks (k0) n2)) ∧ Chg lo hi w w'
end Go.Proofs.Ytfceddgacefejaa
