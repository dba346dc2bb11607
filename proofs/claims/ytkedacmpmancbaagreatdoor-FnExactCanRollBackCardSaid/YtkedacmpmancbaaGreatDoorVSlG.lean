/- SlG, what is needed of it. -/
import Derived.Test.YtkedacmpmancbaaGreatDoorVCore
namespace Go.Proofs.YtkedacmpmancbaaGreatDoor
open Go Go.ChangeShapes Go.WideShapes Go.ChangeAt Go.RowKit Go.Lib

set_option linter.unusedVariables false
set_option maxRecDepth 100000
theorem rd_int {w : World} {lo hi n k : Nat} {A : Option Addr} {l : List Int} {K : IntKind} (h : Rd w lo hi 1 A n (l.map (Value.int K))) (hk : k < n) :
  ∃ b off z, A = some ⟨b, off, none⟩ ∧ lo ≤ b ∧ b < hi ∧ l[k]? = some z ∧ w.cell? ⟨b, off + k, none⟩ = some (.int K z) := by
 obtain ⟨b, off, u, hA, h1, h2, hu, hc⟩ := h.at1 hk
 obtain ⟨z, hz, rfl⟩ := map_get _ _ _ _ hu
 exact ⟨b, off, z, hA, h1, h2, hz, hc⟩

/-- The marks from k on. -/
def marks (K : IntKind) (k n : Nat) : List Int := (List.range n).map fun i => K.wrap ((k + i : Nat) : Int)
abbrev i64s (l : List Int) : List Value := l.map (Value.int .i64)
def I64s (l : List Int) : Prop := ∀ z ∈ l, -9223372036854775808 ≤ z ∧ z ≤ 9223372036854775807

end Go.Proofs.YtkedacmpmancbaaGreatDoor
