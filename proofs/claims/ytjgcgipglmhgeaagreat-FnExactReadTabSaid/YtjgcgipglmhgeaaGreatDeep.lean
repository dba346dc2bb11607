/- What slices of structs with slices inside need. No condition of its own. -/
import Derived.Test.YtjgcgipglmhgeaaGreatRich
namespace Go.Proofs.YtjgcgipglmhgeaaGreat
open Go Go.ChangeShapes Go.WideShapes Go.ChangeAt Go.RowKit Go.Lib
set_option linter.unusedVariables false
set_option maxRecDepth 100000

section
variable {H : Type} {enc : TypeId × Value → H} {P : Program}
theorem rows_trod_at {α : Type} {c : α → List Value} {fit : α → Prop} {s : Nat} {t e : TypeId} (ht : P.underlying t = some (.slice e)) (hce : P.cellsOf e = s) (hs : ∀ x, (c x).length = s) (hs0 : 0 < s) {W : World} {fuel : Nat} {cs : List Value} {d : DataW H} {p : List MemPlace}
    (hread : ∀ {fuel : Nat} {cs : List Value} {y : DataW H × List MemPlace}, DataW.trod enc P W 0 (fun _ => true) true fuel e cs = some y → (∀ x ∈ y.2, x.block < W.heap.size) → ∃ x : α, cs = c x ∧ fit x)
    (hf : DataW.trod enc P W 0 (fun _ => true) true fuel t cs = some (d, p)) (hlt : ∀ x ∈ p, x.block < W.heap.size) :
    ∃ (A : Option Addr) (n cap : Nat) (l : List α), cs = [.slice A n cap] ∧ n ≤ maxLen ∧ Rd W 0 W.heap.size s A n (l.flatMap c) ∧ Hid (∀ x ∈ l, fit x) := by
  rcases Go.Deep.open_slice ht hf with ⟨hcs, hx⟩ | ⟨a, len, cap, m, n, D, Pl, hcs, _, hl, hm, hmm, hx, hi⟩
  · subst hcs
    exact ⟨_, _, _, [], rfl, Nat.zero_le _, Rd.empty, fun z hz => by cases hz⟩
  · subst hcs
    simp only [if_true] at hmm
    subst hmm
    rw [hce] at hx hi
    have hget : ∀ i, i < len → ∃ x : α, fit x ∧ ∀ (j : Nat) (u : Value), (c x)[j]? = some u → W.cell? ((a.add (i * s)).add j) = some u := by
      intro i hil
      obtain ⟨cs', hc, ht'⟩ := hi i (by omega)
      obtain ⟨x, rfl, hfx⟩ := hread ht' (fun z hz => hlt z (by
        injection hx with _ hx2
        rw [hx2]
        exact List.mem_append_right _ (List.mem_flatMap.2 ⟨i, List.mem_range.2 (by omega), hz⟩)))
      obtain ⟨_, _, hat⟩ := World.cells?_some hc
      refine ⟨x, hfx, fun j u hu => ?_⟩
      have hj : j < s := by
        have := (List.getElem?_eq_some_iff.1 hu).1
        rwa [hs] at this
      rw [hat j hj, hu]
    have hall : ∃ l : List α, l.length = len ∧ ∀ i, i < len → ∃ x : α, l[i]? = some x ∧ fit x ∧ ∀ (j : Nat) (u : Value), (c x)[j]? = some u → W.cell? ((a.add (i * s)).add j) = some u := by
      clear hx hi hf hl hm
      induction len with
      | zero => exact ⟨[], rfl, fun i hi => by omega⟩
      | succ k ih =>
        obtain ⟨l, hl, hg⟩ := ih (fun i hi => hget i (by omega))
        obtain ⟨x, hfx, hcx⟩ := hget k (by omega)
        refine ⟨l ++ [x], by simp [hl], fun i hi => ?_⟩
        by_cases e : i = k
        · subst e
          exact ⟨x, by rw [List.getElem?_append_right (by omega), hl]; simp, hfx, hcx⟩
        · obtain ⟨y, hy, h2⟩ := hg i (by omega)
          exact ⟨y, by rw [List.getElem?_append_left (by omega)]; exact hy, h2⟩
    obtain ⟨l, hll, hg⟩ := hall
    refine ⟨_, _, _, l, rfl, by omega, ⟨by rw [flat_len hs, hll], fun hn => ?_⟩, fun x hx' => ?_⟩
    · obtain ⟨x0, _, _, hc0⟩ := hg 0 hn
      have hx0 : 0 < (c x0).length := by rw [hs]; exact hs0
      have hcell := hc0 0 _ (List.getElem?_eq_getElem hx0)
      obtain ⟨b, off, spot⟩ := a
      have hspot : spot = none := by simpa [Addr.add] using World.cell?_spot hcell
      subst hspot
      refine ⟨b, off, rfl, Nat.zero_le _, hlt (.cell b off) (by
        injection hx with _ hx
        rw [hx]
        refine List.mem_append_left _ ?_
        simp only [MemPlace.row, List.mem_map, List.mem_range]
        exact ⟨0, Nat.mul_pos (by omega) hs0, rfl⟩), fun j u hu => ?_⟩
      have hjl : j < len * s := by
        have := (List.getElem?_eq_some_iff.1 hu).1
        rwa [flat_len hs, hll] at this
      have hq : j / s < len := (Nat.div_lt_iff_lt_mul hs0).2 hjl
      obtain ⟨x, hxx, _, hcx⟩ := hg (j / s) hq
      have hr : j % s < (c x).length := by rw [hs]; exact Nat.mod_lt _ hs0
      have hjj : j / s * s + j % s = j := Nat.div_add_mod' j s
      have h2 := flat_get hs l (j / s) (j % s) x _ hxx (List.getElem?_eq_getElem hr)
      rw [hjj, hu] at h2
      have h3 := hcx (j % s) _ (List.getElem?_eq_getElem hr)
      rw [add_plain0, add_plain0, Nat.add_assoc, hjj] at h3
      rw [h3, ← h2]
    · obtain ⟨i, hi', he⟩ := List.mem_iff_getElem.1 hx'
      obtain ⟨y, hy, hfy, _⟩ := hg i (by omega)
      rw [List.getElem?_eq_getElem hi', he] at hy
      injection hy with hy
      exact hy ▸ hfy
end
section
variable {w w' : World} {g m i : Nat} {E : TypeId} {xs ys : List Value}
theorem Pre.more (h : Pre w g E m xs i) (hl : xs.length = i) : Pre w g E m (xs ++ ys) i := by
  obtain ⟨f, hr, hf⟩ := h
  refine ⟨f, hr, fun j u hu => hf j u ?_⟩
  rwa [List.take_append_of_le_length (by omega)] at hu
/-- Block g is a row of m cells of this type that may be written; those from i on are those of xs. -/
def Suf (w : World) (g : Nat) (E : TypeId) (m : Nat) (xs : List Value) (i : Nat) : Prop :=
  ∃ f : Nat → Value, w.rowIs g E m f ∧ ∀ (j : Nat) (u : Value), i ≤ j → xs[j]? = some u → f j = u
theorem Suf.cell (h : Suf w g E m xs i) {j : Nat} {u : Value} (hi : i ≤ j) (hj : j < m) (hu : xs[j]? = some u) : w.cell? ⟨g, j, none⟩ = some u := by
  obtain ⟨f, hr, hf⟩ := h
  rw [hr.cell hj, hf j u hi hu]
theorem Suf.some (h : Suf w g E m xs i) {j : Nat} (hj : j < m) : ∃ u, w.cell? ⟨g, j, none⟩ = some u := by
  obtain ⟨f, hr, hf⟩ := h
  exact ⟨_, hr.cell hj⟩
theorem Suf.frozen (h : Suf w g E m xs i) (j : Nat) : w.frozen? ⟨g, j, none⟩ = false := by
  obtain ⟨f, hr, _⟩ := h
  exact hr.frozen j
theorem Suf.step {u : Value} (h : Suf w g E m xs i) : Suf (w.setCell ⟨g, i, none⟩ u) g E m xs (i + 1) := by
  obtain ⟨f, hr, hf⟩ := h
  refine ⟨_, hr.set i u, fun j v hj hv => ?_⟩
  rw [if_neg (by omega)]
  exact hf j v (by omega) hv
theorem Suf.skip {i' : Nat} (h : Suf w g E m xs i) (e : i ≤ i') : Suf w g E m xs i' := by
  obtain ⟨f, hr, hf⟩ := h
  exact ⟨f, hr, fun j v hj hv => hf j v (by omega) hv⟩
theorem Suf.keep (h : Suf w g E m xs i) (e : w'.heap[g]? = w.heap[g]?) : Suf w' g E m xs i := by
  obtain ⟨f, hr, hf⟩ := h
  exact ⟨f, hr.of_block e, hf⟩
theorem Suf.lt (h : Suf w g E m xs i) : g < w.heap.size := by
  obtain ⟨f, hr, hf⟩ := h
  exact hr.lt
theorem Suf.chg {lo hi : Nat} (h : Suf w g E m xs i) (hc : Chg lo hi w w') (hd : ¬ (lo ≤ g ∧ g < hi)) : Suf w' g E m xs i := h.keep (hc.block g h.lt hd)
theorem suf_row {f : Nat → Value} (h : w.rowIs g E m f) (hf : ∀ j u, xs[j]? = some u → f j = u) : Suf w g E m xs 0 := ⟨f, h, fun j u _ hu => hf j u hu⟩
end
theorem map_take_one {α β : Type} {f : α → β} {xs : List α} {ys : List α} {k : Nat} {x y : α} (h : ys.map f = (xs.take k).map f) (hx : xs[k]? = some x) (e : f y = f x) : (ys ++ [y]).map f = (xs.take (k + 1)).map f := by
  rw [List.take_add_one, hx, List.map_append, List.map_append, h]
  simp [e]
theorem map_get_eq {α β : Type} {f : α → β} {xs ys : List α} {k : Nat} {x y : α} (h : ys.map f = xs.map f) (hx : xs[k]? = some x) (hy : ys[k]? = some y) : f y = f x := by
  have := congrArg (fun l => l[k]?) h
  simp only [List.getElem?_map, hx, hy, Option.map_some] at this
  exact Option.some.inj this
end Go.Proofs.YtjgcgipglmhgeaaGreat
