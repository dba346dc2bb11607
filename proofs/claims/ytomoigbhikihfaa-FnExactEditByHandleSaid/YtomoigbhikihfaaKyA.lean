/- A map keyed by three integers that the call has made: what it knows of a key is right. -/
import Derived.Test.YtomoigbhikihfaaMapI
import Derived.DeepKeys5
namespace Go.Proofs.Ytomoigbhikihfaa
open Go Go.ChangeShapes Go.WideShapes Go.ChangeAt Go.RowKit Go.Lib Go.Maps
set_option linter.unusedVariables false
set_option linter.unusedSimpArgs false
set_option maxRecDepth 100000

theorem keyed_arr : Keyed Try.prog 96 := Keyed.of_law (deep_law_gate (by kernel_rfl) (by decide +kernel) (by decide +kernel) (by kernel_rfl) (by kernel_rfl))
def K3 (a b c : Int) : Lit := .string (keyBytes [.int .i64 a, .int .i64 b, .int .i64 c])
theorem key_int (d : Nat) (a : Int) (h : (Lit.int .i64 a).wf = true) : Try.prog.keyLits (d + 1) 3 [.int .i64 a] = some [.int .i64 a] := by
  unfold Program.keyLits
  rw [Try.underlying3]
  simp only [true_and]
  rw [if_pos h]
theorem key3 (a b c : Int) (ha : (Lit.int .i64 a).wf = true) (hb : (Lit.int .i64 b).wf = true) (hc : (Lit.int .i64 c).wf = true) : keyOf Try.prog 96 (.agg #[.int .i64 a, .int .i64 b, .int .i64 c]) = some (K3 a b c) := by
  have hu : Try.prog.underlying 96 = some (.array 3 3) := by kernel_rfl
  have hk : Try.prog.keyType 96 = true := by kernel_rfl
  have h3 : Try.prog.cellsOf 96 = 3 := by kernel_rfl
  have h1 : Try.prog.cellsOf 3 = 1 := by kernel_rfl
  have hf : (Value.agg #[.int .i64 a, .int .i64 b, .int .i64 c]).formed Try.prog 96 = true := by
    unfold Value.formed
    simp only [hu, h3]; rfl
  obtain ⟨m, hm⟩ : ∃ m, Try.prog.types.size + 1 = m + 2 := ⟨Try.prog.types.size - 1, by have : 1 ≤ Try.prog.types.size := by decide +kernel
                                                                                        omega⟩
  have hl : Try.prog.keyLits (Try.prog.types.size + 1) 96 (Value.agg #[.int .i64 a, .int .i64 b, .int .i64 c]).cells.toList = some [.int .i64 a, .int .i64 b, .int .i64 c] := by
    rw [hm, show m + 2 = (m + 1) + 1 from rfl]
    unfold Program.keyLits
    rw [hu]
    show (if [Value.int .i64 a, .int .i64 b, .int .i64 c].length = Try.prog.cellsOf 96 then _ else none) = _
    rw [h3, if_pos (show [Value.int .i64 a, .int .i64 b, .int .i64 c].length = 3 from rfl), h1]
    rw [show (Value.agg #[Value.int .i64 a, .int .i64 b, .int .i64 c]).cells.toList = [Value.int .i64 a, .int .i64 b, .int .i64 c] from rfl]
    simp [List.range, List.range.loop, key_int, ha, hb, hc]
  unfold keyOf
  rw [hu]
  show (if (Try.prog.keyType 96 && (Value.agg #[.int .i64 a, .int .i64 b, .int .i64 c]).formed Try.prog 96) = true then _ else none) = _
  rw [hk, hf, if_pos (show (true && true) = true from rfl), hl]
  rfl
theorem K3_inj {a b c a' b' c' : Int} (ha : (Lit.int .i64 a).wf = true) (hb : (Lit.int .i64 b).wf = true) (hc : (Lit.int .i64 c).wf = true) (ha' : (Lit.int .i64 a').wf = true) (hb' : (Lit.int .i64 b').wf = true) (hc' : (Lit.int .i64 c').wf = true) (h : K3 a b c = K3 a' b' c') : c = c' := by
  have h1 := key3 a b c ha hb hc
  rw [h] at h1
  have := keyed_arr.inj h1 (key3 a' b' c' ha' hb' hc')
  simp at this
  exact this.2.2
theorem zero_int3 (w : World) : (zeroValue 3).run Try.prog w = .ok (.int .i64 0) w := by kernel_rfl
/-- Block b is a map of at most n entries; what it knows of (s, y, id) is g id. -/
def MapH (w : World) (b n : Nat) (s y : Int) (g : Int → Int) : Prop :=
  ∃ D : DataW Unit, w.ownsMap Try.prog 96 (plainElem Try.prog 3) b n D ∧ IsMap D ∧
    ∀ id : Int, (Lit.int .i64 id).wf = true → Maps.has D (K3 s y id) = true → D.atKey (K3 s y id) (.lit (.int .i64 0)) = .lit (.int .i64 (g id))
section
variable {w w' : World} {b n lo hi : Nat} {s y : Int} {g : Int → Int}
theorem MapH.lt (h : MapH w b n s y g) : b < w.heap.size := by
  obtain ⟨D, h1, _⟩ := h
  exact h1.lt
theorem MapH.keep (h : MapH w b n s y g) (e : w'.heap[b]? = w.heap[b]?) : MapH w' b n s y g := by
  obtain ⟨D, ⟨es, clock, hb, hF⟩, h2⟩ := h
  exact ⟨D, ⟨es, clock, e.trans hb, hF⟩, h2⟩
theorem MapH.new (h : MapH w b n s y g) (hb : Below w.heap.size w w') : MapH w' b n s y g := h.keep (hb.block b h.lt)
theorem MapH.chg (h : MapH w b n s y g) (hc : Chg lo hi w w') (hd : ¬ (lo ≤ b ∧ b < hi)) : MapH w' b n s y g := h.keep (hc.block b h.lt hd)
theorem MapH.alloc_ (h : MapH w b n s y g) (o : Obj) : MapH (w.alloc o) b n s y g := h.keep (Below.heap_alloc w o b h.lt)
theorem MapH.more {m : Nat} (h : MapH w b n s y g) (hm : n ≤ m) : MapH w b m s y g := by
  obtain ⟨D, h1, h2⟩ := h
  exact ⟨D, h1.mono hm, h2⟩
theorem mapH_made (w : World) (s y : Int) (g : Int → Int) : MapH (w.alloc (.map #[] 0)) w.heap.size 0 s y g :=
  ⟨.map [], World.ownsMap_made _ _ _ _, isMap_empty, fun id _ h => by cases h⟩
end
theorem make_map3 (w : World) : (Instr.makeMap 72 none).run Try.prog w = .ok (.map (some w.heap.size)) (w.alloc (.map #[] 0)) := by
  have ht : Try.prog.underlying 72 = some (.map 96 3) := by kernel_rfl
  simp [Instr.makeMap, run_underlying ht]
section
variable {w : World} {ops : Array Oper} {rest : List Oper} {o : Oper} {a : Act} {Q : Exit → Act → World → Prop}
/-- 'v, ok := m[k]'. -/
theorem wp_look3_ok (hg : o.guard = none) (m x : Operand) (t : TypeId) (hop : o.op = Op.lookup t m x true) (ht : Try.prog.underlying t = some (.map 96 3)) (b n : Nat) (s y : Int) (g : Int → Int) (hm : a.eval m = .map (some b)) (h : MapH w b n s y g)
    (id : Int) (hx : a.eval x = .agg #[.int .i64 s, .int .i64 y, .int .i64 id]) (hs : (Lit.int .i64 s).wf = true) (hy : (Lit.int .i64 y).wf = true) (hw : (Lit.int .i64 id).wf = true)
    (hK : ∀ (ok : Bool) (v : Int), (ok = true → v = g id) → (Lit.int .i64 v).wf = true → wpList Try.prog ops Q rest (a.put o.dst (.tuple #[.int .i64 v, .bool ok])) w) : wpList Try.prog ops Q (o :: rest) a w := by
  obtain ⟨D, h1, h2, h3⟩ := h
  refine wpList_lookup_own_ok_int w hg m x t hop 96 3 .i64 keyed_arr ht Try.underlying3 (zero_int3 _) b n D hm h1 (.agg #[.int .i64 s, .int .i64 y, .int .i64 id]) (K3 s y id) hx (key3 s y id hs hy hw) ?_
  intro c hc hwc
  refine hK _ _ (fun hok => ?_) hwc
  rw [h3 id hw hok] at hc
  injection hc with hc
  injection hc with _ hc
  exact hc.symm
/-- 'm[k] = v'. -/
theorem wp_put3 (hg : o.guard = none) (m x v : Operand) (t : TypeId) (hop : o.op = Op.mapUpdate t m x v) (ht : Try.prog.underlying t = some (.map 96 3)) (b n : Nat) (s y : Int) (g : Int → Int) (hm : a.eval m = .map (some b)) (h : MapH w b n s y g) (hn : n < maxLen)
    (id : Int) (hx : a.eval x = .agg #[.int .i64 s, .int .i64 y, .int .i64 id]) (hs : (Lit.int .i64 s).wf = true) (hy : (Lit.int .i64 y).wf = true) (hw : (Lit.int .i64 id).wf = true) (hv : a.eval v = .int .i64 (g id)) (hgw : (Lit.int .i64 (g id)).wf = true)
    (hK : ∀ w', MapH w' b (n + 1) s y g → w.grownBy w' (some b) → wpList Try.prog ops Q rest (a.put o.dst undef) w') : wpList Try.prog ops Q (o :: rest) a w := by
  obtain ⟨D, h1, h2, h3⟩ := h
  refine wpList_mapUpdate_own w hg m x v t hop 96 3 keyed_arr ht _ b n D hm h1 hn (.agg #[.int .i64 s, .int .i64 y, .int .i64 id]) (.int .i64 (g id)) (K3 s y id) hx hv (key3 s y id hs hy hw) (.lit (.int .i64 (g id))) [] (plainElem_int Try.underlying3 hgw) ?_
  intro w' h4 h5
  refine hK w' ⟨_, h4, h2.put _ _, fun k hk => ?_⟩ h5
  by_cases e : k = id
  · subst e
    intro _
    exact atKey_put_same h2 (show WideAt.IsKeyLit (K3 s y k) from trivial) _ _
  · have hne : K3 s y k ≠ K3 s y id := fun h => e (K3_inj hs hy hk hs hy hw h)
    intro hh
    rw [has_put_other hne] at hh
    exact (atKey_put_other hne _ _).trans (h3 k hk hh)
end
end Go.Proofs.Ytomoigbhikihfaa
