/- A map from integers to bools that the call has made. -/
import Derived.Test.YtcankpiidjhhpaaCore
import Derived.Maps.Own
import Derived.Maps.OwnOps
import Derived.Maps.OwnSet
import Derived.Maps.Views
namespace Go.Proofs.Ytcankpiidjhhpaa
open Go Go.ChangeShapes Go.WideShapes Go.ChangeAt Go.RowKit Go.Lib Go.Maps
set_option linter.unusedVariables false
set_option linter.unusedSimpArgs false
set_option maxRecDepth 100000
theorem keyed_int : Keyed Try.prog 3 := int_keyed Try.underlying3
theorem zero_bool (w : World) : (zeroValue 4).run Try.prog w = .ok (.bool false) w := by kernel_rfl
theorem elem_bool {v : Value} {z : DataW Unit × List MemPlace} (h : plainElem Try.prog 4 v = some z) : ∃ x, v = .bool x ∧ z = (.lit (.bool x), []) := by
 unfold plainElem at h
 rw [Try.underlying4] at h
 cases v <;> simp at h
 exact ⟨_, rfl, h.symm⟩
theorem make_map_none (ht : Try.prog.underlying 93 = some (.map 3 4)) (w : World) :
  (Instr.makeMap 93 none).run Try.prog w = .ok (.map (some w.heap.size)) (w.alloc (.map #[] 0)) := by
 simp [Instr.makeMap, run_underlying ht]
/-- Block b is a map of at most n entries that says s. -/
def MapB (w : World) (b n : Nat) (s : Int → Bool) : Prop :=
 ∃ D : DataW Unit, w.ownsMap Try.prog 3 (plainElem Try.prog 4) b n D ∧ IsMap D ∧ ∀ id : Int, D.atKey (.int .i64 id) (.lit (.bool false)) = .lit (.bool (s id))
section
variable {w w' : World} {b n : Nat} {s s' : Int → Bool}
theorem MapB.lt (h : MapB w b n s) : b < w.heap.size := by
 obtain ⟨D, h1, _⟩ := h
 exact h1.lt
theorem MapB.keep (h : MapB w b n s) (e : w'.heap[b]? = w.heap[b]?) : MapB w' b n s := by
 obtain ⟨D, ⟨es, clock, hb, hF⟩, h2⟩ := h
 exact ⟨D, ⟨es, clock, e.trans hb, hF⟩, h2⟩
theorem MapB.new (h : MapB w b n s) (hb : Below w.heap.size w w') : MapB w' b n s := h.keep (hb.block b h.lt)
theorem MapB.congr_ (h : MapB w b n s) (e : ∀ id, s id = s' id) : MapB w b n s' := by
 have he : s = s' := funext e
 exact he ▸ h
theorem MapB.more {m : Nat} (h : MapB w b n s) (hm : n ≤ m) : MapB w b m s := by
 obtain ⟨D, h1, h2⟩ := h
 exact ⟨D, h1.mono hm, h2⟩
theorem mapB_made (w : World) : MapB (w.alloc (.map #[] 0)) w.heap.size 0 (fun _ => false) :=
 ⟨.map [], World.ownsMap_made _ _ _ _, isMap_empty, fun id => rfl⟩
theorem MapB.look (h : MapB w b n s) (ht : Try.prog.underlying 93 = some (.map 3 4)) (id : Int) (hw : (Lit.int .i64 id).wf = true) :
  (Instr.lookup 93 (.map (some b)) (.int .i64 id) false).run Try.prog w = .ok (.bool (s id)) w := by
 obtain ⟨D, h1, h2, h3⟩ := h
 obtain ⟨v, ps, hrun, hv⟩ := h1.lookup keyed_int ht (zero_bool w) (plainElem_bool Try.underlying4 false) (keyOf_int_mk Try.underlying3 hw)
 obtain ⟨x, rfl, hx⟩ := elem_bool hv
 rw [h3 id] at hx
 injection hx with hx _
 injection hx with hx
 injection hx with hx
 rw [hx]
 exact hrun
end
section
variable {w : World} {ops : Array Oper} {rest : List Oper} {o : Oper} {a : Act} {Q : Exit → Act → World → Prop}
/-- 'm[k] = v'. -/
theorem wp_mapb_put (hg : o.guard = none) (m x v : Operand) (t : TypeId) (hop : o.op = Op.mapUpdate t m x v) (ht : Try.prog.underlying t = some (.map 3 4)) (b n : Nat) (s : Int → Bool) (hm : a.eval m = .map (some b)) (h : MapB w b n s) (hn : n < maxLen)
  (id : Int) (y : Bool) (hx : a.eval x = .int .i64 id) (hv : a.eval v = .bool y) (hw : (Lit.int .i64 id).wf = true)
  (hK : ∀ w', MapB w' b (n + 1) (fun k => if k = id then y else s k) → w.grownBy w' (some b) → wpList Try.prog ops Q rest (a.put o.dst undef) w') : wpList Try.prog ops Q (o :: rest) a w := by
 obtain ⟨D, h1, h2, h3⟩ := h
 refine wpList_mapUpdate_own w hg m x v t hop 3 4 keyed_int ht _ b n D hm h1 hn (.int .i64 id) (.bool y) (.int .i64 id) hx hv (keyOf_int_mk Try.underlying3 hw) (.lit (.bool y)) [] (plainElem_bool Try.underlying4 y) ?_
 intro w' h4 h5
 refine hK w' ⟨_, h4, h2.put _ _, fun k => ?_⟩ h5
 by_cases e : k = id
 ·
  subst e
  simp only [if_true]
  exact atKey_put_same h2 (show WideAt.IsKeyLit (.int .i64 k) from trivial) _ _
 ·
  simp only [e, if_false]
  have hne : (Lit.int .i64 k) ≠ Lit.int .i64 id := fun h => by injection h with _ h; exact e h
  exact (atKey_put_other hne _ _).trans (h3 k)
end

end Go.Proofs.Ytcankpiidjhhpaa
