/- A map of two conditions by their names, and a range over it. -/
import Derived.Test.YtodlahmnjadgcaaGreatCore
import Derived.Maps.Own
import Derived.Maps.Views
import Derived.Maps.RangeWalk
namespace Go.Proofs.YtodlahmnjadgcaaGreat
open Go Go.ChangeShapes Go.WideShapes Go.ChangeAt Go.RowKit Go.Lib Go.Maps
set_option linter.unusedVariables false
set_option linter.unusedSimpArgs false
set_option maxRecDepth 100000

theorem keyed_str : Keyed Tryz.prog 9 := string_keyed Tryz.underlying9
def kInst : ByteArray := { data := #[105, 110, 115, 116, 97, 108, 108, 101, 100] }
def kForce : ByteArray := { data := #[105, 110, 32, 102, 111, 114, 99, 101] }
def lInst : Lit := .string kInst.data.toList
def lForce : Lit := .string kForce.data.toList
theorem lits_ne : lInst ≠ lForce := by
  unfold lInst lForce
  intro h
  injection h with h
  revert h
  decide
theorem key_inst : keyOf Tryz.prog 9 (.string kInst) = some lInst := Go.WideMaps.keyOf_string_mk Tryz.underlying9 (by decide)
theorem key_force : keyOf Tryz.prog 9 (.string kForce) = some lForce := Go.WideMaps.keyOf_string_mk Tryz.underlying9 (by decide)
theorem under_q : Tryz.prog.underlying 130 = some (.map 9 4) := by kernel_rfl
theorem make_mapQ (w : World) : (Instr.makeMap 130 none).run Tryz.prog w = .ok (.map (some w.heap.size)) (w.alloc (.map #[] 0)) := by
  simp [Instr.makeMap, run_underlying under_q]
/-- Block b is a map of at most n entries; what it says of the two names. -/
def MapQ (w : World) (b n : Nat) (o1 o2 : Option Bool) : Prop :=
  ∃ D : DataW Unit, w.ownsMap Tryz.prog 9 (plainElem Tryz.prog 4) b n D ∧ IsMap D ∧ (∀ kl, Maps.has D kl = true → (kl = lInst ∧ o1.isSome = true) ∨ (kl = lForce ∧ o2.isSome = true)) ∧
    (∀ v, o1 = some v → Maps.has D lInst = true ∧ ∀ zd, D.atKey lInst zd = .lit (.bool v)) ∧ (∀ v, o2 = some v → Maps.has D lForce = true ∧ ∀ zd, D.atKey lForce zd = .lit (.bool v))
section
variable {w w' : World} {b n : Nat} {o1 o2 : Option Bool}
theorem MapQ.lt (h : MapQ w b n o1 o2) : b < w.heap.size := by
  obtain ⟨D, h1, _⟩ := h
  exact h1.lt
theorem MapQ.keep (h : MapQ w b n o1 o2) (e : w'.heap[b]? = w.heap[b]?) : MapQ w' b n o1 o2 := by
  obtain ⟨D, ⟨es, clock, hb, hF⟩, h2⟩ := h
  exact ⟨D, ⟨es, clock, e.trans hb, hF⟩, h2⟩
theorem MapQ.new (h : MapQ w b n o1 o2) (hb : Below w.heap.size w w') : MapQ w' b n o1 o2 := h.keep (hb.block b h.lt)
theorem mapQ_made (w : World) : MapQ (w.alloc (.map #[] 0)) w.heap.size 0 none none :=
  ⟨.map [], World.ownsMap_made _ _ _ _, isMap_empty, fun kl h => (by cases h), fun v h => (by cases h), fun v h => (by cases h)⟩
theorem MapQ.put1 (h : MapQ w b n o1 o2) (hn : n < maxLen) (v : Bool) : ∃ w', (Instr.mapUpdate 130 (.map (some b)) (.string { data := #[105, 110, 115, 116, 97, 108, 108, 101, 100] }) (.bool v)).run Tryz.prog w = .ok () w' ∧ MapQ w' b (n + 1) (some v) o2 ∧ w.grownBy w' (some b) := by
  obtain ⟨D, h1, h2, h3, h4, h5⟩ := h
  obtain ⟨w', hr, ho, hg⟩ := h1.update keyed_str under_q hn key_inst (plainElem_bool Tryz.underlying4 v)
  refine ⟨w', hr, ⟨_, ho, h2.put _ _, fun kl hh => ?_, fun u hu => ?_, fun u hu => ?_⟩, hg⟩
  · by_cases e : kl = lInst
    · exact .inl ⟨e, rfl⟩
    · rw [has_put_other e] at hh
      rcases h3 kl hh with ⟨e2, _⟩ | hq
      · exact absurd e2 e
      · exact .inr hq
  · injection hu with hu
    subst hu
    exact ⟨has_put_same h2 (show WideAt.IsKeyLit lInst from trivial) _, fun zd => atKey_put_same h2 (show WideAt.IsKeyLit lInst from trivial) _ _⟩
  · obtain ⟨a, c⟩ := h5 u hu
    exact ⟨(has_put_other lits_ne.symm _).trans a, fun zd => (atKey_put_other lits_ne.symm _ _).trans (c zd)⟩
theorem MapQ.put2 (h : MapQ w b n o1 o2) (hn : n < maxLen) (v : Bool) : ∃ w', (Instr.mapUpdate 130 (.map (some b)) (.string { data := #[105, 110, 32, 102, 111, 114, 99, 101] }) (.bool v)).run Tryz.prog w = .ok () w' ∧ MapQ w' b (n + 1) o1 (some v) ∧ w.grownBy w' (some b) := by
  obtain ⟨D, h1, h2, h3, h4, h5⟩ := h
  obtain ⟨w', hr, ho, hg⟩ := h1.update keyed_str under_q hn key_force (plainElem_bool Tryz.underlying4 v)
  refine ⟨w', hr, ⟨_, ho, h2.put _ _, fun kl hh => ?_, fun u hu => ?_, fun u hu => ?_⟩, hg⟩
  · by_cases e : kl = lForce
    · exact .inr ⟨e, rfl⟩
    · rw [has_put_other e] at hh
      rcases h3 kl hh with hq | ⟨e2, _⟩
      · exact .inl hq
      · exact absurd e2 e
  · obtain ⟨a, c⟩ := h4 u hu
    exact ⟨(has_put_other lits_ne _).trans a, fun zd => (atKey_put_other lits_ne _ _).trans (c zd)⟩
  · injection hu with hu
    subst hu
    exact ⟨has_put_same h2 (show WideAt.IsKeyLit lForce from trivial) _, fun zd => atKey_put_same h2 (show WideAt.IsKeyLit lForce from trivial) _ _⟩
end
theorem inv_str (key : Value) (kl : Lit) (h : keyOf Tryz.prog 9 key = some kl) : ∃ x, key = Value.string x := by
  simp only [keyOf, Tryz.underlying9] at h
  unfold mapKey at h
  rw [Tryz.underlying9] at h
  cases key <;> simp at h
  exact ⟨_, rfl⟩
theorem inv_bool (v : Value) (y : DataW Unit × List MemPlace) (h : plainElem Tryz.prog 4 v = some y) : ∃ c, v = Value.bool c ∧ y = (.lit (.bool c), []) := by
  unfold plainElem at h
  rw [Tryz.underlying4] at h
  cases v <;> simp at h
  exact ⟨_, rfl, h.symm⟩
end Go.Proofs.YtodlahmnjadgcaaGreat
