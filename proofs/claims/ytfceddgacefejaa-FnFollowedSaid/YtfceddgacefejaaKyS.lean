/- A map from sites to bools that the call has made. -/
import Derived.Test.YtfceddgacefejaaTSite
import Derived.Maps.Own
import Derived.Maps.OwnOps
import Derived.Maps.OwnSet
import Derived.Maps.Views
import Derived.DeepKeys5
namespace Go.Proofs.Ytfceddgacefejaa
open Go Go.ChangeShapes Go.WideShapes Go.ChangeAt Go.RowKit Go.Lib Go.Maps
set_option linter.unusedVariables false
set_option linter.unusedSimpArgs false
set_option maxRecDepth 100000

theorem keyed_site : Keyed Try.prog 27 := Keyed.of_law (deep_law_gate (by kernel_rfl) (by decide +kernel) (by decide +kernel) (by kernel_rfl) (by kernel_rfl))
def KS (x : TSite) : Lit := .string (keyBytes [.int .i64 x.f0, .int .i64 x.f1])
theorem keyS_int (d : Nat) (a : Int) (h : (Lit.int .i64 a).wf = true) : Try.prog.keyLits (d + 1) 3 [.int .i64 a] = some [.int .i64 a] := by
  unfold Program.keyLits
  rw [Try.underlying3]
  simp only [true_and]
  rw [if_pos h]
theorem keyS (x : TSite) (hx : x.fit) : keyOf Try.prog 27 (.agg #[.int .i64 x.f0, .int .i64 x.f1]) = some (KS x) := by
  have ha : (Lit.int .i64 x.f0).wf = true := WalkArith.wf_i64 hx.1
  have hb : (Lit.int .i64 x.f1).wf = true := WalkArith.wf_i64 hx.2
  have hu := Try.underlying27
  have hk : Try.prog.keyType 27 = true := by kernel_rfl
  have h3 : Try.prog.cellsOf 27 = 2 := by kernel_rfl
  have h1 : Try.prog.cellsOf 3 = 1 := by kernel_rfl
  have hf : (Value.agg #[.int .i64 x.f0, .int .i64 x.f1]).formed Try.prog 27 = true := by
    unfold Value.formed
    simp only [hu, h3]; rfl
  have hts : 1 ≤ Try.prog.types.size := by decide +kernel
  obtain ⟨m, hm⟩ : ∃ m, Try.prog.types.size + 1 = m + 2 := ⟨Try.prog.types.size - 1, by omega⟩
  have hl : Try.prog.keyLits (Try.prog.types.size + 1) 27 (Value.agg #[.int .i64 x.f0, .int .i64 x.f1]).cells.toList = some [.int .i64 x.f0, .int .i64 x.f1] := by
    rw [hm, show m + 2 = (m + 1) + 1 from rfl]
    rw [show (Value.agg #[Value.int .i64 x.f0, .int .i64 x.f1]).cells.toList = [Value.int .i64 x.f0, .int .i64 x.f1] from rfl]
    unfold Program.keyLits
    rw [hu]
    simp [h3, h1, keyS_int, ha, hb]
  unfold keyOf
  rw [hu]
  show (if (Try.prog.keyType 27 && (Value.agg #[.int .i64 x.f0, .int .i64 x.f1]).formed Try.prog 27) = true then _ else none) = _
  rw [hk, hf, if_pos (show (true && true) = true from rfl), hl]
  rfl
theorem KS_inj {x y : TSite} (hx : x.fit) (hy : y.fit) (h : KS x = KS y) : x = y := by
  have h1 := keyS x hx
  rw [h] at h1
  have := keyed_site.inj h1 (keyS y hy)
  simp at this
  cases x; cases y; simp_all
theorem zero_boolS (w : World) : (zeroValue 4).run Try.prog w = .ok (.bool false) w := by kernel_rfl
theorem elem_boolS {v : Value} {z : DataW Unit × List MemPlace} (h : plainElem Try.prog 4 v = some z) : ∃ x, v = .bool x ∧ z = (.lit (.bool x), []) := by
  unfold plainElem at h
  rw [Try.underlying4] at h
  cases v <;> simp at h
  exact ⟨_, rfl, h.symm⟩
theorem make_mapS (w : World) : (Instr.makeMap 177 none).run Try.prog w = .ok (.map (some w.heap.size)) (w.alloc (.map #[] 0)) := by
  have ht : Try.prog.underlying 177 = some (.map 27 4) := by kernel_rfl
  simp [Instr.makeMap, run_underlying ht]
/-- Block b is a map of at most n entries that says s. -/
def MapS (w : World) (b n : Nat) (s : TSite → Bool) : Prop :=
  ∃ D : DataW Unit, w.ownsMap Try.prog 27 (plainElem Try.prog 4) b n D ∧ IsMap D ∧ ∀ x : TSite, x.fit → D.atKey (KS x) (.lit (.bool false)) = .lit (.bool (s x))
section
variable {w w' : World} {b n lo hi : Nat} {s s' : TSite → Bool}
theorem MapS.lt (h : MapS w b n s) : b < w.heap.size := by
  obtain ⟨D, h1, _⟩ := h
  exact h1.lt
theorem MapS.keep (h : MapS w b n s) (e : w'.heap[b]? = w.heap[b]?) : MapS w' b n s := by
  obtain ⟨D, ⟨es, clock, hb, hF⟩, h2⟩ := h
  exact ⟨D, ⟨es, clock, e.trans hb, hF⟩, h2⟩
theorem MapS.new (h : MapS w b n s) (hb : Below w.heap.size w w') : MapS w' b n s := h.keep (hb.block b h.lt)
theorem MapS.below_ {B : Nat} (h : MapS w b n s) (hb : Below B w w') (hB : b < B) : MapS w' b n s := h.keep (hb.block b hB)
theorem MapS.alloc_ (h : MapS w b n s) (o : Obj) : MapS (w.alloc o) b n s := h.keep (Below.heap_alloc w o b h.lt)
theorem MapS.congr_ (h : MapS w b n s) (e : ∀ x, s x = s' x) : MapS w b n s' := by
  have he : s = s' := funext e
  exact he ▸ h
theorem mapS_made (w : World) : MapS (w.alloc (.map #[] 0)) w.heap.size 0 (fun _ => false) :=
  ⟨.map [], World.ownsMap_made _ _ _ _, isMap_empty, fun x _ => rfl⟩
theorem MapS.look (h : MapS w b n s) (x : TSite) (hx : x.fit) :
    (Instr.lookup 177 (.map (some b)) (.agg #[.int .i64 x.f0, .int .i64 x.f1]) false).run Try.prog w = .ok (.bool (s x)) w := by
  have ht : Try.prog.underlying 177 = some (.map 27 4) := by kernel_rfl
  obtain ⟨D, h1, h2, h3⟩ := h
  obtain ⟨v, ps, hrun, hv⟩ := h1.lookup keyed_site ht (zero_boolS w) (plainElem_bool Try.underlying4 false) (keyS x hx)
  obtain ⟨y, rfl, hy⟩ := elem_boolS hv
  rw [h3 x hx] at hy
  injection hy with hy _
  injection hy with hy
  injection hy with hy
  rw [hy]
  exact hrun
end
section
variable {w : World} {ops : Array Oper} {rest : List Oper} {o : Oper} {a : Act} {Q : Exit → Act → World → Prop}
/-- 'm[k] = v'. -/
theorem wp_maps_put (hg : o.guard = none) (m x v : Operand) (t : TypeId) (hop : o.op = Op.mapUpdate t m x v) (ht : Try.prog.underlying t = some (.map 27 4)) (b n : Nat) (s : TSite → Bool) (hm : a.eval m = .map (some b)) (h : MapS w b n s) (hn : n < maxLen)
    (z : TSite) (y : Bool) (hx : a.eval x = .agg #[.int .i64 z.f0, .int .i64 z.f1]) (hv : a.eval v = .bool y) (hz : z.fit)
    (hK : ∀ w', MapS w' b (n + 1) (fun k => if k = z then y else s k) → w.grownBy w' (some b) → wpList Try.prog ops Q rest (a.put o.dst undef) w') : wpList Try.prog ops Q (o :: rest) a w := by
  obtain ⟨D, h1, h2, h3⟩ := h
  refine wpList_mapUpdate_own w hg m x v t hop 27 4 keyed_site ht _ b n D hm h1 hn (.agg #[.int .i64 z.f0, .int .i64 z.f1]) (.bool y) (KS z) hx hv (keyS z hz) (.lit (.bool y)) [] (plainElem_bool Try.underlying4 y) ?_
  intro w' h4 h5
  refine hK w' ⟨_, h4, h2.put _ _, fun k hk => ?_⟩ h5
  by_cases e : k = z
  · subst e
    simp only [if_true]
    exact atKey_put_same h2 (show WideAt.IsKeyLit (KS k) from trivial) _ _
  · simp only [e, if_false]
    have hne : KS k ≠ KS z := fun h => e (KS_inj hk hz h)
    exact (atKey_put_other hne _ _).trans (h3 k hk)
end
end Go.Proofs.Ytfceddgacefejaa
