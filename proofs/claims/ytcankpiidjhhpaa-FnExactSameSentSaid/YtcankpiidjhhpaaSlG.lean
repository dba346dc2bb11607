/- Plain words for the laws' own helpers on slices: copied, compared, marked, and the marks looked for; number lists that come in. -/
import Derived.Test.YtcankpiidjhhpaaCore
namespace Go.Proofs.Ytcankpiidjhhpaa
open Go Go.ChangeShapes Go.WideShapes Go.ChangeAt Go.RowKit Go.Lib

set_option linter.unusedVariables false
set_option maxRecDepth 100000
abbrev u8s (l : List Int) : List Value := l.map (Value.int .u8)

theorem to_row_step {w wr : World} {B : Nat} {E : TypeId} {n k : Nat} {z : Int} {l : List Int} {K : IntKind} (hk : k < n) (hz : l[k]? = some z)
  (h : wr.rowIs B E n (fun j => if j < k then .int K (l.getD j 0) else .int K 0)) (hb : Below B w wr) (hs : wr.heap.size = B + 1) :
  (wr.setCell ⟨B, k, none⟩ (.int K z)).rowIs B E n (fun j => if j < k + 1 then .int K (l.getD j 0) else .int K 0) ∧ Below B w (wr.setCell ⟨B, k, none⟩ (.int K z)) ∧
   (wr.setCell ⟨B, k, none⟩ (.int K z)).heap.size = B + 1 := by
 refine ⟨(h.set k _).congr fun i hi => ?_, hb.setCell (Nat.le_refl _) _, by simpa [World.setCell] using hs⟩
 by_cases e : i = k
 ·
  subst e
  simp only [if_true]
  rw [if_pos (by omega), List.getD_eq_getElem?_getD, hz]; rfl
 ·
  simp only [e, if_false]
  by_cases e2 : i < k
  ·
   rw [if_pos e2, if_pos (by omega)]
  ·
   rw [if_neg e2, if_neg (by omega)]

theorem to_row_end {wr : World} {B : Nat} {E : TypeId} {n : Nat} {l : List Int} {K : IntKind} (hl : l.length = n) (hm : n ≤ maxLen)
  (h : wr.rowIs B E n (fun j => if j < n then .int K (l.getD j 0) else .int K 0)) (hs : wr.heap.size = B + 1) :
  Fr wr B wr.heap.size E 1 (some ⟨B, 0, none⟩) n n (l.map (Value.int K)) := by
 refine fr_of_row (by simpa using h) (Nat.le_refl _) (by omega) hm (by simpa using hl) fun j u hu => ?_
 obtain ⟨x, hx, rfl⟩ := map_get _ _ _ _ hu
 have hj : j < n := by
  have := (List.getElem?_eq_some_iff.1 hx).1
  omega
 simp [hj, hx]

theorem rd_int {w : World} {lo hi n k : Nat} {A : Option Addr} {l : List Int} {K : IntKind} (h : Rd w lo hi 1 A n (l.map (Value.int K))) (hk : k < n) :
  ∃ b off z, A = some ⟨b, off, none⟩ ∧ lo ≤ b ∧ b < hi ∧ l[k]? = some z ∧ w.cell? ⟨b, off + k, none⟩ = some (.int K z) := by
 obtain ⟨b, off, u, hA, h1, h2, hu, hc⟩ := h.at1 hk
 obtain ⟨z, hz, rfl⟩ := map_get _ _ _ _ hu
 exact ⟨b, off, z, hA, h1, h2, hz, hc⟩

theorem take_eq_step {l l' : List Int} {k : Nat} {z z' : Int} (h : l.take k = l'.take k) (hz : l[k]? = some z) (hz' : l'[k]? = some z') (e : z = z') : l.take (k + 1) = l'.take (k + 1) := by
 rw [List.take_add_one, List.take_add_one, h, hz, hz', e]
theorem ne_at {l l' : List Int} {k : Nat} {z z' : Int} (hz : l[k]? = some z) (hz' : l'[k]? = some z') (e : z ≠ z') : decide (l = l') = false := by
 rw [decide_eq_false_iff_not]
 rintro rfl
 rw [hz] at hz'
 injection hz' with h
 exact e h

/-- The marks from k on. -/
def marks (K : IntKind) (k n : Nat) : List Int := (List.range n).map fun i => K.wrap ((k + i : Nat) : Int)
theorem marks_len (K : IntKind) (k n : Nat) : (marks K k n).length = n := by simp [marks]
theorem marks_get (K : IntKind) (k n i : Nat) (h : i < n) : (marks K k n)[i]? = some (K.wrap ((k + i : Nat) : Int)) := by
 simp [marks, h]

theorem mark_row_step {wr : World} {g : Nat} {E : TypeId} {m k : Nat} {K : IntKind} {k0 : Nat} {f : Nat → Value}
  (h : wr.rowIs g E m (fun j => if j < k then .int K (K.wrap ((k0 + j : Nat) : Int)) else f j)) :
  (wr.setCell ⟨g, k, none⟩ (.int K (K.wrap ((k0 + k : Nat) : Int)))).rowIs g E m (fun j => if j < k + 1 then .int K (K.wrap ((k0 + j : Nat) : Int)) else f j) := by
 refine (h.set k _).congr fun i hi => ?_
 by_cases e : i = k
 ·
  subst e
  simp only [if_true]
  rw [if_pos (by omega)]
 ·
  simp only [e, if_false]
  by_cases e2 : i < k
  ·
   rw [if_pos e2, if_pos (by omega)]
  ·
   rw [if_neg e2, if_neg (by omega)]

/-- A call that marks a slice of the call's own: the answer is the next mark; only blocks from lo on and below hi have turned. -/
def Marks (E : TypeId) (K : IntKind) (lo hi : Nat) (A : Option Addr) (n c k : Nat) (w : World) (e : Ending) (w' : World) : Prop :=
 e = .returned (.int .i64 ((k + n : Nat) : Int)) ∧ Fr w' lo hi E 1 A n c ((marks K k n).map (Value.int K)) ∧ Chg lo hi w w' ∧ w'.heap.size = w.heap.size

theorem u8_conv (k : Nat) : ((k : Int) % 256) = IntKind.u8.wrap (k : Int) := by rw [IntKind.wrap_u8]

abbrev i64s (l : List Int) : List Value := l.map (Value.int .i64)
def U8s (l : List Int) : Prop := ∀ z ∈ l, 0 ≤ z ∧ z ≤ 255
def I64s (l : List Int) : Prop := ∀ z ∈ l, -9223372036854775808 ≤ z ∧ z ≤ 9223372036854775807

section
variable {H : Type} {enc : TypeId × Value → H}
theorem open_num_list {k : IntKind} {t e : TypeId} (ht : Try.prog.underlying t = some (.slice e)) (he : Try.prog.underlying e = some (.int k)) (hce : Try.prog.cellsOf e = 1) {W : World} {base : Nat} {v : Value} {d : DataW H} {p : List MemPlace} (hv : Value.okWide Try.prog W .any base t v)
  (h : DataW.Trod enc Try.prog W 0 (fun _ => true) true t v d p) (hlt : ∀ x ∈ p, x.block < W.heap.size) :
  ∃ (A : Option Addr) (n cap : Nat) (l : List Int), v = .slice A n cap ∧ n ≤ maxLen ∧ Rd W 0 W.heap.size 1 A n (l.map (Value.int k)) ∧ (∀ z ∈ l, (Lit.int k z).wf = true) := by
 obtain ⟨a0, len, cap, rfl⟩ := okWide_slice ht hv
 obtain ⟨fuel, hf⟩ := h
 rcases open_ints ht he hce hf with ⟨hcs, hx⟩ | ⟨a, len', cap', zs, hcs, _, hl, hm, hz, hx, hcell, hwz⟩
 ·
  simp only [Value.cells, List.cons.injEq, and_true, Value.slice.injEq] at hcs
  obtain ⟨rfl, rfl, rfl⟩ := hcs
  exact ⟨_, _, _, [], rfl, Nat.zero_le _, Rd.empty, fun z hz => by cases hz⟩
 ·
  simp only [Value.cells, List.cons.injEq, and_true, Value.slice.injEq] at hcs
  obtain ⟨rfl, rfl, rfl⟩ := hcs
  simp only [if_true] at hz
  refine ⟨_, _, _, zs.take len, rfl, by omega, ⟨by simp; omega, fun hn => ?_⟩, fun z hz' => hwz z (List.mem_of_mem_take hz')⟩
  obtain ⟨b, off, rfl, hc⟩ := ints_at hcell (by omega)
  refine ⟨b, off, rfl, Nat.zero_le _, ?_, fun j u hu => ?_⟩
  ·
   exact hlt (.cell b off) (by
    injection hx with _ hx
    rw [hx]
    simp only [MemPlace.row, List.mem_map, List.mem_range]
    exact ⟨0, by omega, rfl⟩)
  ·
   obtain ⟨x, hx', rfl⟩ := map_get _ _ _ _ hu
   rw [List.getElem?_take] at hx'
   split at hx'
   ·
    have hj : j < zs.length := (List.getElem?_eq_some_iff.1 hx').1
    rw [hc j hj, List.getD_eq_getElem?_getD, hx']; rfl
   ·
    cases hx'
end
end Go.Proofs.Ytcankpiidjhhpaa
