/- DrY, what is needed of it. -/
import Derived.Test.YtcankpiidjhhpaaYDrG
import Derived.Test.YtcankpiidjhhpaaYDrT
import Derived.Test.YtcankpiidjhhpaaYTLimit
import Derived.Test.YtcankpiidjhhpaaYGc
import Derived.Test.YtcankpiidjhhpaaYGa
import Derived.Deep.Cut
import Derived.Deep.RegionHeld3
namespace Go.Proofs.Ytcankpiidjhhpaa
open Go Go.ChangeShapes Go.WideShapes Go.ChangeAt Go.RowKit Go.Lib
set_option linter.unusedVariables false
set_option linter.unusedSimpArgs false
set_option maxRecDepth 100000
/-- A list as it lies, between lo and hi. -/
structure FrD where
  lo : Nat
  hi : Nat
  E : TypeId
  z : Nat
  A : Option Addr
  m : Nat
  c : Nat
  xs : List Value
/-- What stays in a drawn region that ends a draw, with lists of the draw's own as they lie. -/
def DatL (w : World) (g : Nat) (A : Option Addr) (n cap : Nat) (rs : List (Nat × TypeId × Nat)) (fs : List FrD) (W : World) : Prop :=
  DatT w g A n cap rs W ∧ ∀ f ∈ fs, g < f.lo ∧ Fr W f.lo f.hi f.E f.z f.A f.m f.c f.xs
section
variable {w W W1 : World} {g n cap : Nat} {A : Option Addr} {rs : List (Nat × TypeId × Nat)} {fs : List FrD}
theorem fr_grownL {w w1 : World} {lo hi z m c g : Nat} {E : TypeId} {A : Option Addr} {xs : List Value} (h : Fr w lo hi E z A m c xs) (hg : w.grownBy w1 (some g)) (hl : g < lo) : Fr w1 lo hi E z A m c xs :=
  h.keep fun b h1 _ h3 => hg.block b h3 (by intro e; injection e; omega)
theorem DatL.cur (h : DatL w g A n cap rs fs W) (hb : BytesAt w w.heap.size A n) (hg : w.heap.size ≤ g) : Cur W g A n cap := h.1.cur hb hg
theorem DatL.call (h : DatL w g A n cap rs fs W) (hc : Cur W1 g A n cap) (hg : W.grownBy W1 (some g)) (hr : ∀ r ∈ rs, r.1 ≠ g) (hl : w.heap.size ≤ g) : DatL w g A n cap rs fs W1 :=
  ⟨h.1.call hc hg hr hl, fun f hf => ⟨(h.2 f hf).1, fr_grownL (h.2 f hf).2 hg (h.2 f hf).1⟩⟩
theorem DatL.row (h : DatL w g A n cap rs fs W) (b : Nat) (hb : b < g) (hl : w.heap.size ≤ b) (cs : Array Value) (hsz : ∀ r ∈ rs, r.1 = b → cs.size = r.2.2) : DatL w g A n cap rs fs (W.setRow b cs) :=
  ⟨h.1.row b (by omega) hl cs hsz, fun f hf => ⟨(h.2 f hf).1, (h.2 f hf).2.keep (fun k h1 _ _ => setRow_other W b k cs (by have := (h.2 f hf).1; omega))⟩⟩
theorem DatL.drw (h : DatL w g A n cap rs fs W) : DatL w g A n cap rs fs W.drew := ⟨h.1.drw, fun f hf => ⟨(h.2 f hf).1, (h.2 f hf).2.keep (fun _ _ _ _ => rfl)⟩⟩
end
end Go.Proofs.Ytcankpiidjhhpaa
