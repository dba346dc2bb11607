/- Rich, what is needed of it. -/
import Derived.Test.YtcankpiidjhhpaaYGb
namespace Go.Proofs.Ytcankpiidjhhpaa
open Go Go.ChangeShapes Go.WideShapes Go.ChangeAt Go.RowKit Go.Lib
set_option linter.unusedVariables false
set_option maxRecDepth 100000

theorem Fr.alloc {w : World} {lo hi size n c : Nat} {E : TypeId} {A : Option Addr} {xs : List Value} (h : Fr w lo hi E size A n c xs) (o : Obj) : Fr (w.alloc o) lo hi E size A n c xs := h.keep fun b _ _ h3 => Below.heap_alloc w o b h3
theorem Fr.put {w : World} {lo hi size n c : Nat} {E : TypeId} {A : Option Addr} {xs : List Value} (h : Fr w lo hi E size A n c xs) {p : Addr} (hp : p.block < lo ∨ hi ≤ p.block) (u : Value) : Fr (w.setCell p u) lo hi E size A n c xs :=
 h.keep fun b h1 h2 _ => Below.heap_setCell w p u b (by rintro rfl; omega)
theorem Rd.put {w : World} {lo hi size n : Nat} {A : Option Addr} {xs : List Value} (h : Rd w lo hi size A n xs) {p : Addr} (hp : p.block < lo ∨ hi ≤ p.block) (u : Value) : Rd (w.setCell p u) lo hi size A n xs :=
 h.keep fun b h1 h2 _ => Below.heap_setCell w p u b (by rintro rfl; omega)
theorem Chg.new {lo hi : Nat} {w w' w'' : World} (h : Chg lo hi w w') (k : Below w'.heap.size w' w'') : Chg lo hi w w'' := h.trans (chg_of_new k)
end Go.Proofs.Ytcankpiidjhhpaa
