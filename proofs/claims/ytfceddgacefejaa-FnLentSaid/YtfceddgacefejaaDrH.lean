/- Draws of FnGrants. No condition of its own. -/
import Derived.Test.YtfceddgacefejaaDrG
import Derived.Test.YtfceddgacefejaaDrT
import Derived.Test.YtfceddgacefejaaFun
import Derived.Test.YtfceddgacefejaaClr
import Derived.Deep.Cut
import Derived.Deep.LoopGhost
import Derived.Deep.RegionHeld3
import Derived.Deep.MidRow
import Derived.Lib.LazyBuf
namespace Go.Proofs.Ytfceddgacefejaa
open Go Go.ChangeShapes Go.WideShapes Go.ChangeAt Go.RowKit Go.Lib
set_option linter.unusedVariables false
set_option linter.unusedSimpArgs false
set_option maxRecDepth 100000
theorem own_row {W : World} {B b z m : Nat} {E : TypeId} {v : Value} {xs : List Value} (h : W.ownsRow B E z v m xs) (hb : b < B) (cs : Array Value) : (W.setRow b cs).ownsRow B E z v m xs := by
  refine ⟨h.1, ?_⟩
  rcases h.2 with h0 | ⟨k, c, cur, hv, hk, hr, rest⟩
  · exact .inl h0
  · exact .inr ⟨k, c, cur, hv, hk, (setRow_other W b k cs (by omega)).trans hr, rest⟩
theorem fr_grown {w w1 : World} {lo hi z m c g : Nat} {E : TypeId} {A : Option Addr} {xs : List Value} (h : Fr w lo hi E z A m c xs) (hg : w.grownBy w1 (some g)) (hl : g < lo) : Fr w1 lo hi E z A m c xs :=
  h.keep fun b h1 _ h3 => hg.block b h3 (by intro e; injection e; omega)
theorem box_own {w w1 : World} {b : Nat} {t : TypeId} {cs : Array Value} {r : Option Nat} (h : BoxAt w b t cs) (hg : w.grownBy w1 r) (hr : r ≠ some b) : BoxAt w1 b t cs := (hg.block b h.lt (fun e => hr e.symm)).trans h
section
variable {P : Program} {w : World}
/-- wp_app_litg, and where the list lies afterwards. -/
theorem wp_app_lith {ops : Array Oper} {rest : List Oper} {o : Oper} {a : Act} {Q : Exit → Act → World → Prop} (hgd : o.guard = none) (s x : Operand) (t : TypeId)
  (ho : o.op = .call { callee := .builtin .append, args := #[s, x], argTypes := #[t, t] })
  (base : Nat) (e : TypeId) (z : Value) (size bytes : Nat) (ht : P.underlying t = some (.slice e)) (hinfo : (P.info? e).map (fun i => (i.zero, i.size, i.bytes)) = some (some z, size, bytes))
  (hzs : z.cells.size = size) (hsz : 0 < size) (v : Value) (n : Nat) (xs : List Value) (hs : a.eval s = v) (hown : w.ownsRow base e size v n xs)
  (us : Array Value) (m c g : Nat) (hx : a.eval x = .slice (some ⟨g, 0, none⟩) m c) (hg : g = w.heap.size) (hus : us.size = m * size) (h1 : ∀ u ∈ us.toList, u.oneCell' = true)
  (h63 : n + m ≤ maxLen) (hbytes : (n + m) * bytes ≤ 140737488355328) (hbase : base ≤ w.heap.size)
  (h : ∀ v' w', w'.ownsRow base e size v' (n + m) (xs ++ us.toList) → Below base w w' → (w.alloc (.cells us e)).grownBy w' v.ownBlock → (v'.ownBlock = v.ownBlock ∨ v'.ownBlock = some (w.heap.size + 1)) → wpList P ops Q rest (a.put o.dst v') w') : wpList P ops Q (o :: rest) a (w.alloc (.cells us e)) := by
 subst hg
 exact wp_app hgd s x t ho base e z size bytes ht hinfo hzs hsz v n xs hs (hown.alloc _) _ _ _ m c us.toList hx (rd_lit w us e m size hus) h1 h63 hbytes (by simp; omega)
  fun v' w' h2 h3 h4 h5 => h v' w' h2 (((Below.refl _ _).alloc hbase _).trans h3) h4 (by simpa using h5)
end
/-- The same, with a list of the draw's own besides. -/
def DatO (w : World) (g : Nat) (A : Option Addr) (n cap : Nat) (rs : List (Nat × TypeId × Nat)) (B : Nat) (E : TypeId) (z : Nat) (v : Value) (m : Nat) (xs : List Value) (W : World) : Prop :=
  DatT w g A n cap rs W ∧ W.ownsRow B E z v m xs ∧ g < B
section
variable {w W W1 : World} {g n cap B z m : Nat} {A : Option Addr} {rs : List (Nat × TypeId × Nat)} {E : TypeId} {v : Value} {xs : List Value}
theorem DatO.cur (h : DatO w g A n cap rs B E z v m xs W) (hb : BytesAt w w.heap.size A n) (hg : w.heap.size ≤ g) : Cur W g A n cap := h.1.cur hb hg
theorem DatO.call (h : DatO w g A n cap rs B E z v m xs W) (hc : Cur W1 g A n cap) (hg : W.grownBy W1 (some g)) (hr : ∀ r ∈ rs, r.1 ≠ g) (hl : w.heap.size ≤ g) : DatO w g A n cap rs B E z v m xs W1 :=
  ⟨h.1.call hc hg hr hl, dr_own h.2.1 h.2.2 hg, h.2.2⟩
theorem DatO.row (h : DatO w g A n cap rs B E z v m xs W) (b : Nat) (hb : b < g) (hl : w.heap.size ≤ b) (cs : Array Value) (hsz : ∀ r ∈ rs, r.1 = b → cs.size = r.2.2) : DatO w g A n cap rs B E z v m xs (W.setRow b cs) :=
  ⟨h.1.row b (by omega) hl cs hsz, own_row h.2.1 (by have := h.2.2; omega) cs, h.2.2⟩
theorem DatO.mk_ (ho : W.ownsRow B E z v m xs) (hB : g < B) (hb : Below w.heap.size w W) (hc : Cur W g A n cap) (hr : ∀ r ∈ rs, ∃ cs : Array Value, cs.size = r.2.2 ∧ BoxAt W r.1 r.2.1 cs) : DatO w g A n cap rs B E z v m xs W :=
  ⟨DatT.mk_ hb hc hr, ho, hB⟩
theorem DatO.drw (h : DatO w g A n cap rs B E z v m xs W) : DatO w g A n cap rs B E z v m xs W.drew := ⟨h.1.drw, h.2.1, h.2.2⟩
end
/-- A list of grants, an extension, a site, a kind, a time and a click are drawn. -/
def DrawnIA (w : World) (e : Ending) (w' : World) : Prop :=
  ∃ (A : Option Addr) (c : Nat) (l : List TGrant) (x : Int) (s : TSite) (k t : Int) (b : Bool), e = .returned (.tuple #[.slice A l.length c, .int .i64 x, .agg #[.int .i64 s.f0, .int .i64 s.f1], .int .i64 k, .int .i64 t, .bool b]) ∧ l.length ≤ 6 ∧ (∀ y ∈ l, y.fit) ∧ 0 ≤ x ∧ x ≤ 3 ∧ s.fit ∧ 0 ≤ k ∧ k ≤ 4 ∧ 0 ≤ t ∧ t ≤ 17 ∧ Rd w' w.heap.size w'.heap.size 7 A l.length (cGrant l) ∧ Below w.heap.size w w'
/-- A list of grants and a time are drawn. -/
def DrawnEG (w : World) (e : Ending) (w' : World) : Prop :=
  ∃ (A : Option Addr) (c : Nat) (l : List TGrant) (t : Int), e = .returned (.tuple #[.slice A l.length c, .int .i64 t]) ∧ l.length ≤ 6 ∧ (∀ y ∈ l, y.fit) ∧ 0 ≤ t ∧ t ≤ 19 ∧ Rd w' w.heap.size w'.heap.size 7 A l.length (cGrant l) ∧ Below w.heap.size w w'
end Go.Proofs.Ytfceddgacefejaa
