/- DrT, what is needed of it. -/
import Derived.Test.YtcankpiidjhhpaaYGg
import Derived.Test.YtcankpiidjhhpaaYGc
import Derived.Deep.Cut
import Derived.Deep.RegionHeld3
namespace Go.Proofs.Ytcankpiidjhhpaa
open Go Go.ChangeShapes Go.WideShapes Go.ChangeAt Go.RowKit Go.Lib
set_option linter.unusedVariables false
set_option linter.unusedSimpArgs false
set_option maxRecDepth 100000
/-- What stays in a drawn region that ends a draw: the results' boxes, the cursor's block, all that was there. -/
def DatT (w : World) (g : Nat) (A : Option Addr) (n cap : Nat) (rs : List (Nat × TypeId × Nat)) (W : World) : Prop :=
  (∀ r ∈ rs, ∃ cs : Array Value, cs.size = r.2.2 ∧ BoxAt W r.1 r.2.1 cs) ∧ (∃ (i : Nat) (h : Int), i ≤ n ∧ W.heap[g]? = some (.cells #[.slice A n cap, .int .i64 i, .int .i64 h] 124 (0, 0))) ∧ Below w.heap.size w W
section
variable {w W W1 : World} {g n cap : Nat} {A : Option Addr} {rs : List (Nat × TypeId × Nat)}
theorem DatT.cur (h : DatT w g A n cap rs W) (hb : BytesAt w w.heap.size A n) (hg : w.heap.size ≤ g) : Cur W g A n cap := by
  obtain ⟨_, ⟨i, x, hi, hx⟩, hB⟩ := h
  refine ⟨fun hn => ?_, i, x, hi, hx⟩
  obtain ⟨b, off, z, h1, h2, h3⟩ := hb hn
  exact ⟨b, off, z, h1, by omega, fun k hk => ⟨(h3 k hk).1, (h3 k hk).2.1, (hB.cell (p := ⟨b, off + k, none⟩) h2).trans (h3 k hk).2.2⟩⟩
theorem DatT.call (h : DatT w g A n cap rs W) (hc : Cur W1 g A n cap) (hg : W.grownBy W1 (some g)) (hr : ∀ r ∈ rs, r.1 ≠ g) (hl : w.heap.size ≤ g) : DatT w g A n cap rs W1 :=
  ⟨fun r hr' => by
    obtain ⟨cs, hs, hcs⟩ := h.1 r hr'
    exact ⟨cs, hs, hcs.grown hg (hr r hr')⟩, by obtain ⟨_, i, x, hi, hx⟩ := hc; exact ⟨i, x, hi, hx⟩, dr_below h.2.2 hl hg⟩
theorem DatT.row (h : DatT w g A n cap rs W) (b : Nat) (hb : b ≠ g) (hl : w.heap.size ≤ b) (cs : Array Value) (hsz : ∀ r ∈ rs, r.1 = b → cs.size = r.2.2) : DatT w g A n cap rs (W.setRow b cs) :=
  ⟨fun r hr' => by
    obtain ⟨c0, h0, hc0⟩ := h.1 r hr'
    by_cases e : r.1 = b
    · have hz := hsz r hr' e
      subst e; exact ⟨cs, hz, box_row hc0⟩
    · exact ⟨c0, h0, box_far hc0 e⟩, by obtain ⟨i, x, hi, hx⟩ := h.2.1; exact ⟨i, x, hi, (setRow_other W b g cs (fun e => hb e.symm)).trans hx⟩, below_setRow h.2.2 hl _⟩
theorem DatT.lt (h : DatT w g A n cap rs W) : g < W.heap.size := by
  obtain ⟨_, ⟨i, x, hi, hx⟩, _⟩ := h
  exact (Array.getElem?_eq_some_iff.1 hx).1
theorem DatT.drw (h : DatT w g A n cap rs W) : DatT w g A n cap rs W.drew := ⟨fun r hr => by obtain ⟨cs, hs, hcs⟩ := h.1 r hr; exact ⟨cs, hs, hcs.drw⟩, h.2.1, h.2.2.drew⟩
end
end Go.Proofs.Ytcankpiidjhhpaa
