/- What structs with slices among their fields need: a slice that is a cell of what came in; what stays behind a store elsewhere. No condition of its own. -/
import Derived.Test.YtcankpiidjhhpaaRws
namespace Go.Proofs.Ytcankpiidjhhpaa
open Go Go.ChangeShapes Go.WideShapes Go.ChangeAt Go.RowKit Go.Lib
set_option linter.unusedVariables false
set_option maxRecDepth 100000

theorem Fr.alloc {w : World} {lo hi size n c : Nat} {E : TypeId} {A : Option Addr} {xs : List Value} (h : Fr w lo hi E size A n c xs) (o : Obj) : Fr (w.alloc o) lo hi E size A n c xs := h.keep fun b _ _ h3 => Below.heap_alloc w o b h3
theorem Fr.put {w : World} {lo hi size n c : Nat} {E : TypeId} {A : Option Addr} {xs : List Value} (h : Fr w lo hi E size A n c xs) {p : Addr} (hp : p.block < lo ∨ hi ≤ p.block) (u : Value) : Fr (w.setCell p u) lo hi E size A n c xs :=
 h.keep fun b h1 h2 _ => Below.heap_setCell w p u b (by rintro rfl; omega)
theorem Rd.put {w : World} {lo hi size n : Nat} {A : Option Addr} {xs : List Value} (h : Rd w lo hi size A n xs) {p : Addr} (hp : p.block < lo ∨ hi ≤ p.block) (u : Value) : Rd (w.setCell p u) lo hi size A n xs :=
 h.keep fun b h1 h2 _ => Below.heap_setCell w p u b (by rintro rfl; omega)
theorem Chg.new {lo hi : Nat} {w w' w'' : World} (h : Chg lo hi w w') (k : Below w'.heap.size w' w'') : Chg lo hi w w'' := h.trans (chg_of_new k)
theorem chg_alloc {lo hi : Nat} {w w' : World} {o : Obj} (h : Chg lo hi (w.alloc o) w') : Chg lo hi w w' := ((Chg.refl lo hi w).alloc o).trans h
theorem chg_drew {lo hi : Nat} {w w' : World} (h : Chg lo hi w w') : Chg lo hi w w'.drew := ⟨h.os, h.tape, h.output, h.size, h.block⟩
theorem flat_one : ∀ l : List Int, l.flatMap (fun z => [Value.int .i64 z]) = i64s l
 | [] => rfl
 | x :: l => by rw [List.flatMap_cons, flat_one l]; rfl
section
variable {H : Type} {enc : TypeId × Value → H} {P : Program}
/-- A slice of structs that is a cell of what came in. -/
theorem rows_trod {α : Type} {c : α → List Value} {fit : α → Prop} {s : Nat} {t e : TypeId} (ht : P.underlying t = some (.slice e)) (hce : P.cellsOf e = s) (hs : ∀ x, (c x).length = s) (hs0 : 0 < s) {W : World} {fuel : Nat} {cs : List Value} {d : DataW H} {p : List MemPlace}
  (hread : ∀ {fuel : Nat} {cs : List Value} {y : DataW H × List MemPlace}, DataW.trod enc P W 0 (fun _ => true) true fuel e cs = some y → ∃ x : α, cs = c x ∧ fit x)
  (hf : DataW.trod enc P W 0 (fun _ => true) true fuel t cs = some (d, p)) (hlt : ∀ x ∈ p, x.block < W.heap.size) :
  ∃ (A : Option Addr) (n cap : Nat) (l : List α), cs = [.slice A n cap] ∧ n ≤ maxLen ∧ Rd W 0 W.heap.size s A n (l.flatMap c) ∧ Hid (∀ x ∈ l, fit x) := by
 rcases Go.Deep.open_slice ht hf with ⟨hcs, hx⟩ | ⟨a, len, cap, m, n, D, Pl, hcs, _, hl, hm, hmm, hx, hi⟩
 ·
  subst hcs
  exact ⟨_, _, _, [], rfl, Nat.zero_le _, Rd.empty, fun z hz => by cases hz⟩
 ·
  subst hcs
  simp only [if_true] at hmm
  subst hmm
  rw [hce] at hx hi
  have hget : ∀ i, i < len → ∃ x : α, fit x ∧ ∀ (j : Nat) (u : Value), (c x)[j]? = some u → W.cell? ((a.add (i * s)).add j) = some u := by
   intro i hil
   obtain ⟨cs', hc, ht'⟩ := hi i (by omega)
   obtain ⟨x, rfl, hfx⟩ := hread ht'
   obtain ⟨_, _, hat⟩ := World.cells?_some hc
   refine ⟨x, hfx, fun j u hu => ?_⟩
   have hj : j < s := by
    have := (List.getElem?_eq_some_iff.1 hu).1
    rwa [hs] at this
   rw [hat j hj, hu]
  have hall : ∃ l : List α, l.length = len ∧ ∀ i, i < len → ∃ x : α, l[i]? = some x ∧ fit x ∧ ∀ (j : Nat) (u : Value), (c x)[j]? = some u → W.cell? ((a.add (i * s)).add j) = some u := by
   clear hx hi hf hl hm
   induction len with
   | zero => exact ⟨[], rfl, fun i hi => by omega⟩
   | succ k ih =>
    obtain ⟨l, hl, hg⟩ := ih (fun i hi => hget i (by omega))
    obtain ⟨x, hfx, hcx⟩ := hget k (by omega)
    refine ⟨l ++ [x], by simp [hl], fun i hi => ?_⟩
    by_cases e : i = k
    ·
     subst e
     exact ⟨x, by rw [List.getElem?_append_right (by omega), hl]; simp, hfx, hcx⟩
    ·
     obtain ⟨y, hy, h2⟩ := hg i (by omega)
     exact ⟨y, by rw [List.getElem?_append_left (by omega)]; exact hy, h2⟩
  obtain ⟨l, hll, hg⟩ := hall
  refine ⟨_, _, _, l, rfl, by omega, ⟨by rw [flat_len hs, hll], fun hn => ?_⟩, fun x hx' => ?_⟩
  ·
   obtain ⟨x0, _, _, hc0⟩ := hg 0 hn
   have hx0 : 0 < (c x0).length := by rw [hs]; exact hs0
   have hcell := hc0 0 _ (List.getElem?_eq_getElem hx0)
   obtain ⟨b, off, spot⟩ := a
   have hspot : spot = none := by simpa [Addr.add] using World.cell?_spot hcell
   subst hspot
   refine ⟨b, off, rfl, Nat.zero_le _, hlt (.cell b off) (by
    injection hx with _ hx
    rw [hx]
    refine List.mem_append_left _ ?_
    simp only [MemPlace.row, List.mem_map, List.mem_range]
    exact ⟨0, Nat.mul_pos (by omega) hs0, rfl⟩), fun j u hu => ?_⟩
   have hjl : j < len * s := by
    have := (List.getElem?_eq_some_iff.1 hu).1
    rwa [flat_len hs, hll] at this
   have hq : j / s < len := (Nat.div_lt_iff_lt_mul hs0).2 hjl
   obtain ⟨x, hxx, _, hcx⟩ := hg (j / s) hq
   have hr : j % s < (c x).length := by rw [hs]; exact Nat.mod_lt _ hs0
   have hjj : j / s * s + j % s = j := Nat.div_add_mod' j s
   have h2 := flat_get hs l (j / s) (j % s) x _ hxx (List.getElem?_eq_getElem hr)
   rw [hjj, hu] at h2
   have h3 := hcx (j % s) _ (List.getElem?_eq_getElem hr)
   rw [add_plain0, add_plain0, Nat.add_assoc, hjj] at h3
   rw [h3, ← h2]
  ·
   obtain ⟨i, hi', he⟩ := List.mem_iff_getElem.1 hx'
   obtain ⟨y, hy, hfy, _⟩ := hg i (by omega)
   rw [List.getElem?_eq_getElem hi', he] at hy
   injection hy with hy
   exact hy ▸ hfy
theorem ints_trod {t e : TypeId} (ht : P.underlying t = some (.slice e)) (he : P.underlying e = some (.int .i64)) (hce : P.cellsOf e = 1) {W : World} {fuel : Nat} {cs : List Value} {d : DataW H} {p : List MemPlace}
  (hf : DataW.trod enc P W 0 (fun _ => true) true fuel t cs = some (d, p)) (hlt : ∀ x ∈ p, x.block < W.heap.size) :
  ∃ (A : Option Addr) (n cap : Nat) (l : List Int), cs = [.slice A n cap] ∧ n ≤ maxLen ∧ Rd W 0 W.heap.size 1 A n (i64s l) ∧ Hid (I64s l) := by
 obtain ⟨A, n, cap, l, h1, h2, h3, h4⟩ := rows_trod (α := Int) (c := fun z => [.int .i64 z]) (fit := fun z => -9223372036854775808 ≤ z ∧ z ≤ 9223372036854775807) ht hce (fun _ => rfl) (by decide)
  (fun {fuel cs y} h => by
   obtain ⟨z, rfl, _, wf⟩ := DataW.trod_int he h
   exact ⟨z, rfl, bounds_i64 wf⟩) hf hlt
 refine ⟨A, n, cap, l, h1, h2, ?_, h4⟩
 rwa [flat_one l] at h3
end
end Go.Proofs.Ytcankpiidjhhpaa
