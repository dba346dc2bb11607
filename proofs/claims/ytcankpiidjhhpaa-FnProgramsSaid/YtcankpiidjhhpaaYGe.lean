/- Drw, TSite, TPattern, DrS, what is needed of it. -/
import Derived.Test.YtcankpiidjhhpaaYDraw
import Derived.Test.YtcankpiidjhhpaaYCore
import Derived.Test.YtcankpiidjhhpaaYGb
import Derived.StillTailTactics
namespace Go.Proofs.Ytcankpiidjhhpaa
open Go Go.ChangeShapes Go.WideShapes Go.ChangeAt Go.RowKit Go.Lib
set_option linter.unusedVariables false
set_option linter.unusedSimpArgs false
set_option maxRecDepth 100000

/-- A draw of a struct that meets P: the cursor alone is turned. -/
def Drw {α : Type} (g : Nat) (A : Option Addr) (n cap : Nat) (v : α → Value) (P : α → Prop) (w : World) (e : Ending) (w' : World) : Prop :=
  ∃ x : α, P x ∧ e = .returned (v x) ∧ Cur w' g A n cap ∧ w.grownBy w' (some g)
/-- A draw of a list of structs that meet P, at most m. -/
def DrwL {α : Type} (T : TypeId) (sz m : Nat) (c : α → List Value) (P : α → Prop) (g : Nat) (A : Option Addr) (n cap : Nat) (w : World) (e : Ending) (w' : World) : Prop :=
  ∃ (v : Value) (l : List α), e = .returned v ∧ l.length ≤ m ∧ (∀ x ∈ l, P x) ∧ w'.ownsRow w.heap.size T sz v l.length (l.flatMap c) ∧ Cur w' g A n cap ∧ w.grownBy w' (some g)
section
variable {w w1 : World} {g n cap : Nat} {A : Option Addr}
theorem dr_cur_low {B : Nat} (h : Cur w g A n cap) (hg : g < B) (hb : Below B w w1) : Cur w1 g A n cap := by
  obtain ⟨hB, i, x, hi, hh⟩ := h
  exact ⟨hB.keep fun b hb' => hb.block b (by omega), i, x, hi, (hb.block g hg).trans hh⟩
theorem dr_cur_put {p : Addr} {u : Value} (h : Cur w g A n cap) (hp : g < p.block) : Cur (w.setCell p u) g A n cap :=
  dr_cur_low h (Nat.lt_succ_self g) ((Below.refl _ _).setCell hp _)
theorem dr_below_row (w : World) (b : Nat) (cs : Array Value) : Below b w (w.setRow b cs) :=
  ⟨rfl, rfl, rfl, by simp, fun k hk => setRow_other w b k cs (by omega)⟩
theorem dr_cur_row {b : Nat} (h : Cur w g A n cap) (hb : g < b) (cs : Array Value) : Cur (w.setRow b cs) g A n cap := dr_cur_low h hb (dr_below_row w b cs)
theorem dr_low {B : Nat} {w2 : World} (h : w.grownBy w1 (some g)) (hw : w.heap.size ≤ B) (hb : Below B w1 w2) : w.grownBy w2 (some g) :=
  ⟨hb.os.trans h.os, hb.tape.trans h.tape, hb.output.trans h.output, Nat.le_trans h.size hb.size, fun i hi hne => (hb.block i (by omega)).trans (h.block i hi hne)⟩
theorem dr_al (h : w.grownBy w1 (some g)) (o : Obj) : w.grownBy (w1.alloc o) (some g) := grown_both h (grown_new w1 o _)
theorem dr_put {p : Addr} {u : Value} (h : w.grownBy w1 (some g)) (hp : w.heap.size ≤ p.block) : w.grownBy (w1.setCell p u) (some g) := dr_low h hp ((Below.refl _ _).setCell (Nat.le_refl _) _)
theorem dr_row {b : Nat} (h : w.grownBy w1 (some g)) (hb : w.heap.size ≤ b) (cs : Array Value) : w.grownBy (w1.setRow b cs) (some g) := dr_low h hb (dr_below_row w1 b cs)
theorem dr_put_box {b : Nat} {t : TypeId} {cs : Array Value} (h : BoxAt w b t cs) (j : Nat) (v : Value) : BoxAt (w.setCell ⟨b, j, none⟩ v) b t (cs.setIfInBounds j v) := by
  unfold BoxAt at h ⊢
  simp [World.setCell, Array.getElem?_modify, h]
theorem dr_put_far {b b' j : Nat} {t : TypeId} {cs : Array Value} {v : Value} (h : BoxAt w b t cs) (hne : b ≠ b') : BoxAt (w.setCell ⟨b', j, none⟩ v) b t cs :=
  (Below.heap_setCell w ⟨b', j, none⟩ v b hne).trans h
theorem dr_own {B : Nat} {e : TypeId} {k m : Nat} {v : Value} {xs : List Value} (h : w.ownsRow B e k v m xs) (hg : g < B) (hr : w.grownBy w1 (some g)) : w1.ownsRow B e k v m xs :=
  h.kept hr (by
    cases hv : v.ownBlock with
    | none => exact .inl rfl
    | some j => exact .inr (fun h' => by injection h' with h'; have := (h.lt j hv).1; omega))
theorem dr_below {w2 : World} (h : Below w.heap.size w w1) (hg : w.heap.size ≤ g) (k : w1.grownBy w2 (some g)) : Below w.heap.size w w2 :=
  h.trans ⟨k.os, k.tape, k.output, k.size, fun i hi => k.block i (Nat.lt_of_lt_of_le hi h.size) (fun e => by injection e with e; omega)⟩
theorem dr_new (n cap : Nat) (A : Option Addr) (w W : World) (g : Nat) (hg : W.heap.size = g) (hn : n ≤ 140737488355328) (hb : BytesAt w w.heap.size A n) (hw : Below w.heap.size w W) :
    Calls Try.prog 45 #[.slice A n cap] W (fun e w' => e = .returned (.pointer (some ⟨g, 0, none⟩)) ∧ Cur w' g A n cap ∧ Below g W w') := by
  subst hg
  exact new_any n cap A W hn (bytes_below hb hw)
end
end Go.Proofs.Ytcankpiidjhhpaa
namespace Go.Proofs.Ytcankpiidjhhpaa
open Go Go.ChangeShapes Go.WideShapes Go.ChangeAt Go.RowKit Go.Lib
set_option linter.unusedVariables false
set_option maxRecDepth 100000

structure TSite where
 f0 : Int
 f1 : Int
deriving DecidableEq
def TSite.cells (x : TSite) : List Value := [.int .i64 x.f0, .int .i64 x.f1]
theorem TSite.len (x : TSite) : x.cells.length = 2 := rfl
def TSite.fit (x : TSite) : Prop := (-9223372036854775808 ≤ x.f0 ∧ x.f0 ≤ 9223372036854775807) ∧ (-9223372036854775808 ≤ x.f1 ∧ x.f1 ≤ 9223372036854775807)
/-- The marks of one element, from k on. -/
def TSite.mark (k : Nat) : TSite := ⟨((k + 0 : Nat) : Int), ((k + 1 : Nat) : Int)⟩
def TSite.marks (k n : Nat) : List TSite := (List.range n).map fun i => TSite.mark (k + i * 2)


end Go.Proofs.Ytcankpiidjhhpaa
namespace Go.Proofs.Ytcankpiidjhhpaa
open Go Go.ChangeShapes Go.WideShapes Go.ChangeAt Go.RowKit Go.Lib
set_option linter.unusedVariables false
set_option maxRecDepth 100000

structure TPattern where
 f0 : Int
 f1 : Int
deriving DecidableEq
def TPattern.cells (x : TPattern) : List Value := [.int .i64 x.f0, .int .i64 x.f1]
theorem TPattern.len (x : TPattern) : x.cells.length = 2 := rfl
def TPattern.fit (x : TPattern) : Prop := (-9223372036854775808 ≤ x.f0 ∧ x.f0 ≤ 9223372036854775807) ∧ (-9223372036854775808 ≤ x.f1 ∧ x.f1 ≤ 9223372036854775807)
/-- The marks of one element, from k on. -/
def TPattern.mark (k : Nat) : TPattern := ⟨((k + 0 : Nat) : Int), ((k + 1 : Nat) : Int)⟩
def TPattern.marks (k n : Nat) : List TPattern := (List.range n).map fun i => TPattern.mark (k + i * 2)


end Go.Proofs.Ytcankpiidjhhpaa
namespace Go.Proofs.Ytcankpiidjhhpaa
open Go Go.ChangeShapes Go.WideShapes Go.ChangeAt Go.RowKit Go.Lib
set_option linter.unusedVariables false
set_option linter.unusedSimpArgs false
set_option maxRecDepth 100000
set_option maxHeartbeats 8000000 in
theorem raw_any (g n cap : Nat) (A : Option Addr) (w : World) (hn : n ≤ maxLen) (hc : Cur w g A n cap) :
    Calls Try.prog 101 #[.pointer (some ⟨g, 0, none⟩)] w (Num g A n cap (-9223372036854775808) 9223372036854775807 w) := by
  have HC := Lib.hid hc
  have HLT := hc.lt
  have HG := Lib.hid (World.grownBy.refl w (some g))
  clear hc
  go_enter Try.func101, Try.ntmps101
  have Lt0 := Lib.hid (show BoxAt (w.alloc (.cells #[.int .i64 (-2), .int .i64 (-1), .int .i64 0, .int .i64 9, .int .i64 10, .int .i64 9223372036854775807, .int .i64 (-9223372036854775808)] 3)) w.heap.size 3 #[.int .i64 (-2), .int .i64 (-1), .int .i64 0, .int .i64 9, .int .i64 10, .int .i64 9223372036854775807, .int .i64 (-9223372036854775808)] from by simpa using box_new w 3 #[.int .i64 (-2), .int .i64 (-1), .int .i64 0, .int .i64 9, .int .i64 10, .int .i64 9223372036854775807, .int .i64 (-9223372036854775808)])
  have aLt0 : w.heap.size ≤ w.heap.size := by have := HG.out.size; (try simp at this); omega
  replace HC := Lib.hid (HC.out.new (.cells #[.int .i64 (-2), .int .i64 (-1), .int .i64 0, .int .i64 9, .int .i64 10, .int .i64 9223372036854775807, .int .i64 (-9223372036854775808)] 3))
  replace HG := Lib.hid (dr_al HG.out (.cells #[.int .i64 (-2), .int .i64 (-1), .int .i64 0, .int .i64 9, .int .i64 10, .int .i64 9223372036854775807, .int .i64 (-9223372036854775808)] 3))
  go_wp2_with fail
  refine Calls.mono (int_any g n cap A [-2, -1, 0, 9, 10, 9223372036854775807, -9223372036854775808] w.heap.size (-9223372036854775808) (9223372036854775807) _ hn HC.out (by omega) Lt0.out (by decide) (by decide) (by decide)) ?_
  rintro e w1 ⟨y, hya, hyb, rfl, hc, hg⟩
  replace Lt0 := Lib.hid (Lt0.out.grown hg (by omega))
  have lLt0 : w.heap.size < w1.heap.size := Lt0.out.lt
  replace HC := Lib.hid hc
  replace HG := Lib.hid (grown_both HG.out hg)
  have s1 : w.heap.size ≤ w1.heap.size := HG.out.size
  clear hc hg
  clear Lt0
  go_wp2_with fail
  go_ret
  exact ⟨y, hya, hyb, rfl, HC.out, HG.out⟩
end Go.Proofs.Ytcankpiidjhhpaa
