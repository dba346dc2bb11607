/- counter makes a closure. No condition of its own. -/
import Derived.Test.YtkegapaococmcaaDBrowser
import Derived.Test.YtkegapaococmcaaFun
import Derived.Test.YtkegapaococmcaaGB
import Derived.Test.YtkegapaococmcaaSlI
import Derived.Deep.LoopGhost
namespace Go.Proofs.Ytkegapaococmcaa
open Go Go.ChangeShapes Go.WideShapes Go.ChangeAt Go.RowKit Go.Lib
set_option linter.unusedVariables false
set_option linter.unusedSimpArgs false
set_option maxRecDepth 100000
set_option maxHeartbeats 4000000
theorem box_putV {w : World} {g : Nat} {t : TypeId} {cs : Array Value} (h : BoxAt w g t cs) (j : Nat) (v : Value) : BoxAt (w.setCell ⟨g, j, none⟩ v) g t (cs.setIfInBounds j v) := by
  unfold BoxAt at h ⊢
  simp [World.setCell, Array.getElem?_modify, h]
/-- counter makes a closure over two boxes. -/
theorem impl_counter (P : Nat) (fn : Fn) (lb : Array Value) (w : World) :
    Calls Try.prog 32 #[.pointer (some ⟨P, 0, none⟩), .func fn #[] lb] w (fun e w' => e = .returned (.func (.func 55) #[] #[.pointer (some ⟨w.heap.size + 1, 0, none⟩), .pointer (some ⟨w.heap.size, 0, none⟩)]) ∧ w' = (w.alloc (.cells #[.pointer (some ⟨P, 0, none⟩)] 77)).alloc (.cells #[.func fn #[] lb] 73)) := by
  have hmf : ∀ (fn : Fn) (first cap : Array Value) (w : World), (Instr.makeFunc fn first cap).run Try.prog w = .ok (.func fn first cap) w := fun _ _ _ _ => rfl
  go_enter Try.func32, Try.ntmps32
  go_wp2_with fail
  go_ret
  exact ⟨rfl, rfl⟩

end Go.Proofs.Ytkegapaococmcaa
