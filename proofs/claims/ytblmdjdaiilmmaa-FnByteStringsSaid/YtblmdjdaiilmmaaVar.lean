/- The draws of FnVarints. -/
import Derived.Test.YtblmdjdaiilmmaaUvR
import Derived.Test.YtblmdjdaiilmmaaCiph
import Derived.Test.YtblmdjdaiilmmaaDraw1
import Derived.Test.YtblmdjdaiilmmaaRdL
import Derived.Deep.LoopGhost
namespace Go.Proofs.Ytblmdjdaiilmmaa
open Go Go.ChangeShapes Go.WideShapes Go.ChangeAt Go.RowKit Go.Lib
set_option linter.unusedVariables false
set_option linter.unusedSimpArgs false
set_option maxRecDepth 100000
theorem uv_u8 (n : Nat) : U8s (uv n) := by
  induction n using Nat.strongRecOn with
  | _ n ih =>
    by_cases h : n < 128
    · rw [uv_small h]; intro z hz; simp at hz; omega
    · rw [uv_big h]
      intro z hz
      rcases List.mem_cons.1 hz with rfl | hz
      · omega
      · exact ih (n / 128) (by omega) z hz
theorem mAppU_u8 {b : List Int} (hb : U8s b) (n : Int) : U8s (mAppU b n) := by
  unfold mAppU
  split
  · intro z hz
    rcases List.mem_append.1 hz with hz | hz
    · exact hb z hz
    · exact uv_u8 _ z hz
  · exact hb
/-- Bytes and a number are drawn. -/
def DrawnBI (m : Nat) (lo hi : Int) (w : World) (e : Ending) (w' : World) : Prop :=
  ∃ (A : Option Addr) (c : Nat) (l : List Int) (x : Int), e = .returned (.tuple #[.slice A l.length c, .int .i64 x]) ∧ lo ≤ x ∧ x ≤ hi ∧ l.length ≤ m ∧ l.length ≤ c ∧ U8s l ∧ Rd w' w.heap.size w'.heap.size 1 A l.length (u8s l) ∧ Below w.heap.size w w'
end Go.Proofs.Ytblmdjdaiilmmaa
