/- A map from integers to integers that the call has made, told by what it holds. -/
import Derived.Test.YtomoigbhikihfaaCore
import Derived.Maps.Own
import Derived.Maps.OwnOps
import Derived.Maps.OwnSet
import Derived.Maps.Views
namespace Go.Proofs.Ytomoigbhikihfaa
open Go Go.ChangeShapes Go.WideShapes Go.ChangeAt Go.RowKit Go.Lib Go.Maps
set_option linter.unusedVariables false
set_option maxRecDepth 100000

theorem keyed_int : Keyed Try.prog 3 := int_keyed Try.underlying3
theorem zero_int (w : World) : (zeroValue 3).run Try.prog w = .ok (.int .i64 0) w := by kernel_rfl
/-- Block b is a map of at most n entries that holds f. -/
def MapAt (w : World) (b n : Nat) (f : Int → Option Int) : Prop :=
  ∃ D : DataW Unit, w.ownsMap Try.prog 3 (plainElem Try.prog 3) b n D ∧ IsMap D ∧
    ∀ id : Int, Maps.has D (.int .i64 id) = (f id).isSome ∧ D.atKey (.int .i64 id) (.lit (.int .i64 0)) = .lit (.int .i64 ((f id).getD 0))
section
variable {w w' : World} {b n : Nat} {f g : Int → Option Int}
theorem MapAt.lt (h : MapAt w b n f) : b < w.heap.size := by
  obtain ⟨D, h1, _⟩ := h
  exact h1.lt
theorem MapAt.keep (h : MapAt w b n f) (e : w'.heap[b]? = w.heap[b]?) : MapAt w' b n f := by
  obtain ⟨D, ⟨es, clock, hb, hF⟩, h2⟩ := h
  exact ⟨D, ⟨es, clock, e.trans hb, hF⟩, h2⟩
theorem MapAt.new (h : MapAt w b n f) (hb : Below w.heap.size w w') : MapAt w' b n f := h.keep (hb.block b h.lt)
theorem MapAt.below {B : Nat} (h : MapAt w b n f) (hb : Below B w w') (hB : b < B) : MapAt w' b n f := h.keep (hb.block b hB)
theorem MapAt.alloc_ (h : MapAt w b n f) (o : Obj) : MapAt (w.alloc o) b n f := h.keep (Below.heap_alloc w o b h.lt)
theorem MapAt.congr_ (h : MapAt w b n f) (e : ∀ id, f id = g id) : MapAt w b n g := by
  have he : f = g := funext e
  exact he ▸ h
theorem MapAt.more {m : Nat} (h : MapAt w b n f) (hm : n ≤ m) : MapAt w b m f := by
  obtain ⟨D, h1, h2⟩ := h
  exact ⟨D, h1.mono hm, h2⟩
theorem mapAt_made (w : World) : MapAt (w.alloc (.map #[] 0)) w.heap.size 0 (fun _ => none) :=
  ⟨.map [], World.ownsMap_made _ _ _ _, isMap_empty, fun id => ⟨rfl, rfl⟩⟩
end
theorem make_map_hint {t : TypeId} (ht : Try.prog.underlying t = some (.map 3 3)) (n : Int) (w : World) :
    (Instr.makeMap t (some (.int .i64 n))).run Try.prog w = .ok (.map (some w.heap.size)) (w.alloc (.map #[] 0)) := by
  simp [Instr.makeMap, run_underlying ht]; rfl

section
variable {w : World} {ops : Array Oper} {rest : List Oper} {o : Oper} {a : Act} {Q : Exit → Act → World → Prop}
/-- 'v, ok := m[k]'. -/
theorem wp_look_ok (hg : o.guard = none) (m x : Operand) (t : TypeId) (hop : o.op = Op.lookup t m x true) (ht : Try.prog.underlying t = some (.map 3 3)) (b n : Nat) (f : Int → Option Int) (hm : a.eval m = .map (some b)) (h : MapAt w b n f)
    (id : Int) (hx : a.eval x = .int .i64 id) (hw : (Lit.int .i64 id).wf = true)
    (hK : wpList Try.prog ops Q rest (a.put o.dst (.tuple #[.int .i64 ((f id).getD 0), .bool (f id).isSome])) w) : wpList Try.prog ops Q (o :: rest) a w := by
  obtain ⟨D, h1, h2, h3⟩ := h
  refine wpList_lookup_own_ok_int w hg m x t hop 3 3 .i64 keyed_int ht Try.underlying3 (zero_int _) b n D hm h1 (.int .i64 id) (.int .i64 id) hx (keyOf_int_mk Try.underlying3 hw) ?_
  intro c hc _
  rw [(h3 id).2] at hc
  injection hc with hc
  injection hc with _ hc
  rw [(h3 id).1, ← hc]
  exact hK
/-- 'm[k] = v'. -/
theorem wp_map_put (hg : o.guard = none) (m x v : Operand) (t : TypeId) (hop : o.op = Op.mapUpdate t m x v) (ht : Try.prog.underlying t = some (.map 3 3)) (b n : Nat) (f : Int → Option Int) (hm : a.eval m = .map (some b)) (h : MapAt w b n f) (hn : n < maxLen)
    (id y : Int) (hx : a.eval x = .int .i64 id) (hv : a.eval v = .int .i64 y) (hw : (Lit.int .i64 id).wf = true) (hy : (Lit.int .i64 y).wf = true)
    (hK : ∀ w', MapAt w' b (n + 1) (fun k => if k = id then some y else f k) → w.grownBy w' (some b) → wpList Try.prog ops Q rest (a.put o.dst undef) w') : wpList Try.prog ops Q (o :: rest) a w := by
  obtain ⟨D, h1, h2, h3⟩ := h
  refine wpList_mapUpdate_own w hg m x v t hop 3 3 keyed_int ht _ b n D hm h1 hn (.int .i64 id) (.int .i64 y) (.int .i64 id) hx hv (keyOf_int_mk Try.underlying3 hw) (.lit (.int .i64 y)) [] (plainElem_int Try.underlying3 hy) ?_
  intro w' h4 h5
  refine hK w' ⟨_, h4, h2.put _ _, fun k => ?_⟩ h5
  by_cases e : k = id
  · subst e
    simp only [if_true]
    exact ⟨has_put_same h2 (show WideAt.IsKeyLit (.int .i64 k) from trivial) _, atKey_put_same h2 (show WideAt.IsKeyLit (.int .i64 k) from trivial) _ _⟩
  · simp only [e, if_false]
    have hne : (Lit.int .i64 k) ≠ Lit.int .i64 id := fun h => by injection h with _ h; exact e h
    exact ⟨(has_put_other hne _).trans (h3 k).1, (atKey_put_other hne _ _).trans (h3 k).2⟩
end
end Go.Proofs.Ytomoigbhikihfaa
