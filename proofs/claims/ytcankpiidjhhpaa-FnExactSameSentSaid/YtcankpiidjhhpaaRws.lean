/- Plain words for slices of structs: their cells by the element and the field. -/
import Derived.Test.YtcankpiidjhhpaaApp
import Derived.ChangeKeysEq
namespace Go.Proofs.Ytcankpiidjhhpaa
open Go Go.ChangeShapes Go.WideShapes Go.ChangeAt Go.RowKit Go.Lib
set_option linter.unusedVariables false
set_option maxRecDepth 100000

section
variable {α : Type} {c : α → List Value} {s : Nat}
theorem flat_len (hc : ∀ x, (c x).length = s) : ∀ d : List α, (d.flatMap c).length = d.length * s
 | [] => by simp
 | x :: d => by rw [List.flatMap_cons, List.length_append, hc, flat_len hc d, List.length_cons, Nat.add_mul]; omega
theorem flat_get (hc : ∀ x, (c x).length = s) : ∀ (d : List α) (k j : Nat) (x : α) (u : Value), d[k]? = some x → (c x)[j]? = some u → (d.flatMap c)[k * s + j]? = some u
 | [], k, j, x, u, h, _ => by simp at h
 | y :: d, 0, j, x, u, h, hu => by
  simp only [List.getElem?_cons_zero, Option.some.injEq] at h
  subst h
  have hj := (List.getElem?_eq_some_iff.1 hu).1
  rw [List.flatMap_cons, Nat.zero_mul, Nat.zero_add, List.getElem?_append_left hj]
  exact hu
 | y :: d, k + 1, j, x, u, h, hu => by
  rw [List.getElem?_cons_succ] at h
  rw [List.flatMap_cons, List.getElem?_append_right (by rw [hc, Nat.add_mul]; omega), hc, show (k + 1) * s + j - s = k * s + j by rw [Nat.add_mul]; omega]
  exact flat_get hc d k j x u h hu
theorem flat_take (hc : ∀ x, (c x).length = s) : ∀ (d : List α) (k : Nat), (d.take k).flatMap c = (d.flatMap c).take (k * s)
 | [], k => by simp
 | x :: d, 0 => by simp
 | x :: d, k + 1 => by
  rw [List.take_succ_cons, List.flatMap_cons, List.flatMap_cons, flat_take hc d k, Nat.add_mul, Nat.one_mul, Nat.add_comm (k * s) s, ← hc x, List.take_length_add_append]
theorem flat_snoc (d : List α) (k : Nat) (x : α) (h : d[k]? = some x) : (d.take (k + 1)).flatMap c = (d.take k).flatMap c ++ c x := by
 rw [List.take_add_one, h, List.flatMap_append]; simp
theorem rd_elem {w : World} {lo hi n k : Nat} {A : Option Addr} {d : List α} (hs : ∀ x, (c x).length = s) (h : Rd w lo hi s A n (d.flatMap c)) (hd : d.length = n) (hk : k < n) :
  ∃ b off x, A = some ⟨b, off, none⟩ ∧ lo ≤ b ∧ b < hi ∧ d[k]? = some x ∧ ∀ (j : Nat) (u : Value), (c x)[j]? = some u → w.cell? ⟨b, off + k * s + j, none⟩ = some u := by
 obtain ⟨b, off, e, hl, hh, hc⟩ := h.2 (by omega)
 have hx : d[k]? = some (d[k]'(by omega)) := List.getElem?_eq_getElem (by omega)
 exact ⟨b, off, _, e, hl, hh, hx, fun j u hu => by rw [Nat.add_assoc]; exact hc _ u (flat_get hs d k j _ u hx hu)⟩
theorem rd_len {w : World} {lo hi n : Nat} {A : Option Addr} {d : List α} (hs : ∀ x, (c x).length = s) (h : Rd w lo hi s A n (d.flatMap c)) (hp : 0 < s) : d.length = n := by
 have := h.1
 rw [flat_len hs] at this
 exact Nat.eq_of_mul_eq_mul_right hp this
end

/-- Block g is a row of m cells of this type that may be written; the first i of them are those of xs. -/
def Pre (w : World) (g : Nat) (E : TypeId) (m : Nat) (xs : List Value) (i : Nat) : Prop :=
 ∃ f : Nat → Value, w.rowIs g E m f ∧ ∀ (j : Nat) (u : Value), (xs.take i)[j]? = some u → f j = u

section
variable {w w' : World} {g m i : Nat} {E : TypeId} {xs : List Value}
theorem Pre.cell (h : Pre w g E m xs i) {j : Nat} (hj : j < m) : ∃ u, w.cell? ⟨g, j, none⟩ = some u := by
 obtain ⟨f, hr, _⟩ := h
 exact ⟨_, hr.cell hj⟩
theorem Pre.frozen (h : Pre w g E m xs i) (j : Nat) : w.frozen? ⟨g, j, none⟩ = false := by
 obtain ⟨f, hr, _⟩ := h
 exact hr.frozen j
theorem Pre.step {u : Value} (h : Pre w g E m xs i) (hu : xs[i]? = some u) : Pre (w.setCell ⟨g, i, none⟩ u) g E m xs (i + 1) := by
 obtain ⟨f, hr, hf⟩ := h
 refine ⟨_, hr.set i u, fun j v hv => ?_⟩
 by_cases e : j = i
 ·
  subst e
  rw [List.getElem?_take, if_pos (by omega), hu] at hv
  injection hv with hv
  simp [hv]
 ·
  simp only [e, if_false]
  refine hf j v ?_
  rw [List.getElem?_take] at hv ⊢
  split at hv
  ·
   rw [if_pos (by omega)]; exact hv
  ·
   cases hv
theorem Pre.at_ {i' : Nat} (h : Pre w g E m xs i) (e : i = i') : Pre w g E m xs i' := e ▸ h
theorem Pre.keep (h : Pre w g E m xs i) (e : w'.heap[g]? = w.heap[g]?) : Pre w' g E m xs i := by
 obtain ⟨f, hr, hf⟩ := h
 exact ⟨f, hr.of_block e, hf⟩
theorem Pre.lt (h : Pre w g E m xs i) : g < w.heap.size := by
 obtain ⟨f, hr, hf⟩ := h
 exact hr.lt
theorem Pre.below {B : Nat} (h : Pre w g E m xs i) (hb : Below B w w') (hB : g < B) : Pre w' g E m xs i := h.keep (hb.block g hB)
theorem Pre.new (h : Pre w g E m xs i) (hb : Below w.heap.size w w') : Pre w' g E m xs i := h.keep (hb.block g h.lt)
theorem pre_start {cs : Array Value} (hm : cs.size = m) : Pre (w.alloc (.cells cs E)) w.heap.size E m xs 0 := by
 subst hm
 exact ⟨fun j => cs[j]?.getD undef, World.rowIs_alloc w cs E _ (fun i hi => by
  have he : cs[i]? = some (cs[i]'hi) := Array.getElem?_eq_getElem hi
  simp only [he, Option.getD_some]), fun j u hu => by simp at hu⟩
theorem Pre.fr {lo hi n size : Nat} (h : Pre w g E (n * size) xs (n * size)) (hl : lo ≤ g) (hh : g < hi) (hm : n ≤ maxLen) (hx : xs.length = n * size) : Fr w lo hi E size (some ⟨g, 0, none⟩) n n xs := by
 obtain ⟨f, hr, hf⟩ := h
 exact fr_of_row hr hl hh hm hx fun j u hu => hf j u (by rw [List.take_of_length_le (by omega)]; exact hu)
theorem Pre.frcap {lo hi n cap size : Nat} (h : Pre w g E (cap * size) xs (n * size)) (hl : lo ≤ g) (hh : g < hi) (hnc : n ≤ cap) (hm : cap ≤ maxLen) (hx : xs.length = n * size) : Fr w lo hi E size (some ⟨g, 0, none⟩) n cap xs := by
 obtain ⟨f, hr, hf⟩ := h
 exact fr_of_rowcap hr hl hh hnc hm hx fun j u hu => hf j u (by rw [List.take_of_length_le (by omega)]; exact hu)
theorem pre_row {f : Nat → Value} (h : w.rowIs g E m f) : Pre w g E m xs 0 := ⟨f, h, fun j u hu => by simp at hu⟩
end
theorem below_step {B : Nat} {w W w' : World} (h : Below B w W) (k : Hid (Below W.heap.size W w')) (hB : B ≤ W.heap.size) : Below B w w' := h.trans (k.out.mono hB)
theorem cell_nw {w w' : World} {a : Addr} {u : Value} (hb : Below w.heap.size w w') (h : w.cell? a = some u) : w'.cell? a = some u :=
 (World.cell?_of_block (hb.block _ (World.block_lt_of_cell? w _ h))).trans h
theorem cell_past {w : World} {a b : Addr} {u v : Value} (hne : b.block ≠ a.block) (h : w.cell? b = some u) : (w.setCell a v).cell? b = some u := by
 exact (World.cell?_setCell_other (w := w) (v := v) (h := fun e => hne (by rw [e]))).trans h
theorem box_nw {w w' : World} {g : Nat} {t : TypeId} {cs : Array Value} (hb : Below w.heap.size w w') (h : BoxAt w g t cs) : BoxAt w' g t cs := h.new hb
theorem rd_nw {w w' : World} {lo hi size n : Nat} {A : Option Addr} {xs : List Value} (hb : Below w.heap.size w w') (h : Rd w lo hi size A n xs) : Rd w' lo hi size A n xs := h.new hb
theorem fr_nw {w w' : World} {lo hi size n c : Nat} {E : TypeId} {A : Option Addr} {xs : List Value} (hb : Below w.heap.size w w') (h : Fr w lo hi E size A n c xs) : Fr w' lo hi E size A n c xs := h.new hb
theorem cell_al {w : World} {o : Obj} {a : Addr} {u : Value} (h : w.cell? a = some u) : (w.alloc o).cell? a = some u := (World.cell?_alloc_lt (w := w) (o := o) (h := World.block_lt_of_cell? w _ h)).trans h
theorem alloc_lt {V w' : World} {o : Obj} (hb : Below (V.alloc o).heap.size (V.alloc o) w') : V.heap.size < w'.heap.size := by
 have := hb.size; simp at this; omega
theorem alloc_lt2 {V w' : World} {o o2 : Obj} (hb : Below ((V.alloc o).alloc o2).heap.size ((V.alloc o).alloc o2) w') : V.heap.size < w'.heap.size ∧ V.heap.size + 1 < w'.heap.size := by
 have := hb.size; simp at this; omega
theorem cell_newest {w : World} {g j : Nat} {t : TypeId} {cs : Array Value} {u : Value} (hg : g = w.heap.size) (hu : cs[j]? = some u) : (w.alloc (.cells cs t)).cell? ⟨g, j, none⟩ = some u := by
 subst hg; exact (box_new w t cs).at_ hu
theorem BoxAt.drw {w : World} {g : Nat} {t : TypeId} {cs : Array Value} (h : BoxAt w g t cs) : BoxAt w.drew g t cs := h
theorem Rd.drw {w : World} {lo hi size n : Nat} {A : Option Addr} {xs : List Value} (h : Rd w lo hi size A n xs) : Rd w.drew lo hi size A n xs := h
theorem Fr.drw {w : World} {lo hi size n c : Nat} {E : TypeId} {A : Option Addr} {xs : List Value} (h : Fr w lo hi E size A n c xs) : Fr w.drew lo hi E size A n c xs := h
theorem bcell {W w1 : World} (hb : Below W.heap.size W w1) : (∀ b o, b < W.heap.size → w1.cell? ⟨b, o, none⟩ = W.cell? ⟨b, o, none⟩) ∧ (∀ b o, b < W.heap.size → w1.frozen? ⟨b, o, none⟩ = W.frozen? ⟨b, o, none⟩) :=
 ⟨fun b o h => hb.cell (p := ⟨b, o, none⟩) h, fun b o h => hb.frozen (p := ⟨b, o, none⟩) h⟩
/-- 'make' with a variable size, elements of several cells. -/
theorem make_rows {P : Program} (t e : TypeId) (z : Value) (size bytes : Nat) (ht : P.underlying t = some (.slice e)) (hinfo : (P.info? e).map (fun i => (i.zero, i.size, i.bytes)) = some (some z, size, bytes))
  (n : Nat) (hbytes : bytes * n ≤ 281474976710656) (h63 : n ≤ 9223372036854775807) (w : World) :
  (Instr.makeSlice t (.int .i64 (n : Int)) (.int .i64 (n : Int))).run P w = .ok (.slice (some ⟨w.heap.size, 0, none⟩) n n) (w.alloc (.cells (madeCells z.cells (n * size)) e)) := by
 obtain ⟨i, hi, hz, hs, hb⟩ := info_parts hinfo
 have hbb : (i.bytes : Int) * (n : Int) ≤ 281474976710656 := by
  have h : ((i.bytes * n : Nat) : Int) ≤ 281474976710656 := by rw [hb]; omega
  rwa [Int.natCast_mul] at h
 have hr := run_make (P := P) w t e i z ht hi hz .i64 .i64 n n (by omega) (by omega) hbb (by omega)
 simp only [Int.toNat_natCast, hs] at hr
 exact hr

section
variable {H : Type} {enc : TypeId × Value → H} {P : Program}
/-- A slice of structs that comes in as an argument, as a list of them: each element's cells are read by 'hread'. -/
theorem open_rows_list {α : Type} {c : α → List Value} {fit : α → Prop} {s : Nat} {t e : TypeId} (ht : P.underlying t = some (.slice e)) (hce : P.cellsOf e = s) (hs : ∀ x, (c x).length = s) (hs0 : 0 < s) {W : World} {base : Nat} {v : Value} {d : DataW H} {p : List MemPlace}
  (hread : ∀ {fuel : Nat} {cs : List Value} {y : DataW H × List MemPlace}, DataW.trod enc P W 0 (fun _ => true) true fuel e cs = some y → ∃ x : α, cs = c x ∧ fit x)
  (hv : Value.okWide P W .any base t v) (h : DataW.Trod enc P W 0 (fun _ => true) true t v d p) (hlt : ∀ x ∈ p, x.block < W.heap.size) :
  ∃ (A : Option Addr) (n cap : Nat) (l : List α), v = .slice A n cap ∧ n ≤ maxLen ∧ Rd W 0 W.heap.size s A n (l.flatMap c) ∧ Hid (∀ x ∈ l, fit x) := by
 obtain ⟨a0, len, cap, rfl⟩ := okWide_slice ht hv
 obtain ⟨fuel, hf⟩ := h
 rcases Go.Deep.open_slice ht hf with ⟨hcs, hx⟩ | ⟨a, len', cap', m, n, D, Pl, hcs, _, hl, hm, hmm, hx, hi⟩
 ·
  simp only [Value.cells, List.cons.injEq, and_true, Value.slice.injEq] at hcs
  obtain ⟨rfl, rfl, rfl⟩ := hcs
  exact ⟨_, _, _, [], rfl, Nat.zero_le _, Rd.empty, fun z hz => by cases hz⟩
 ·
  simp only [Value.cells, List.cons.injEq, and_true, Value.slice.injEq] at hcs
  obtain ⟨rfl, rfl, rfl⟩ := hcs
  simp only [if_true] at hmm
  subst hmm
  rw [hce] at hx hi
  have hget : ∀ i, i < len → ∃ x : α, fit x ∧ ∀ (j : Nat) (u : Value), (c x)[j]? = some u → W.cell? ((a.add (i * s)).add j) = some u := by
   intro i hil
   obtain ⟨cs', hc, ht'⟩ := hi i (by omega)
   obtain ⟨x, rfl, hfx⟩ := hread ht'
   obtain ⟨_, _, hat⟩ := World.cells?_some hc
   refine ⟨x, hfx, fun j u hu => ?_⟩
   have hj : j < s := by
    have := (List.getElem?_eq_some_iff.1 hu).1
    rwa [hs] at this
   rw [hat j hj, hu]
  have hall : ∃ l : List α, l.length = len ∧ ∀ i, i < len → ∃ x : α, l[i]? = some x ∧ fit x ∧ ∀ (j : Nat) (u : Value), (c x)[j]? = some u → W.cell? ((a.add (i * s)).add j) = some u := by
   clear hx hi hf hl hm hv
   induction len with
   | zero => exact ⟨[], rfl, fun i hi => by omega⟩
   | succ k ih =>
    obtain ⟨l, hl, hg⟩ := ih (fun i hi => hget i (by omega))
    obtain ⟨x, hfx, hcx⟩ := hget k (by omega)
    refine ⟨l ++ [x], by simp [hl], fun i hi => ?_⟩
    by_cases e : i = k
    ·
     subst e
     exact ⟨x, by rw [List.getElem?_append_right (by omega), hl]; simp, hfx, hcx⟩
    ·
     obtain ⟨y, hy, h2⟩ := hg i (by omega)
     exact ⟨y, by rw [List.getElem?_append_left (by omega)]; exact hy, h2⟩
  obtain ⟨l, hll, hg⟩ := hall
  refine ⟨_, _, _, l, rfl, by omega, ⟨by rw [flat_len hs, hll], fun hn => ?_⟩, fun x hx' => ?_⟩
  ·
   obtain ⟨x0, _, _, hc0⟩ := hg 0 hn
   have hx0 : 0 < (c x0).length := by rw [hs]; exact hs0
   have hcell := hc0 0 _ (List.getElem?_eq_getElem hx0)
   obtain ⟨b, off, spot⟩ := a
   have hspot : spot = none := by simpa [Addr.add] using World.cell?_spot hcell
   subst hspot
   refine ⟨b, off, rfl, Nat.zero_le _, hlt (.cell b off) (by
    injection hx with _ hx
    rw [hx]
    refine List.mem_append_left _ ?_
    simp only [MemPlace.row, List.mem_map, List.mem_range]
    exact ⟨0, Nat.mul_pos (by omega) hs0, rfl⟩), fun j u hu => ?_⟩
   have hjl : j < len * s := by
    have := (List.getElem?_eq_some_iff.1 hu).1
    rwa [flat_len hs, hll] at this
   have hq : j / s < len := (Nat.div_lt_iff_lt_mul hs0).2 hjl
   obtain ⟨x, hxx, _, hcx⟩ := hg (j / s) hq
   have hr : j % s < (c x).length := by rw [hs]; exact Nat.mod_lt _ hs0
   have hjj : j / s * s + j % s = j := Nat.div_add_mod' j s
   have h2 := flat_get hs l (j / s) (j % s) x _ hxx (List.getElem?_eq_getElem hr)
   rw [hjj, hu] at h2
   have h3 := hcx (j % s) _ (List.getElem?_eq_getElem hr)
   rw [add_plain0, add_plain0, Nat.add_assoc, hjj] at h3
   rw [h3, ← h2]
  ·
   obtain ⟨i, hi', he⟩ := List.mem_iff_getElem.1 hx'
   obtain ⟨y, hy, hfy, _⟩ := hg i (by omega)
   rw [List.getElem?_eq_getElem hi', he] at hy
   injection hy with hy
   exact hy ▸ hfy
end
theorem eqf_int {w : World} {d : Nat} {xs ys : Array Value} {f : Field} {fs : List Field} {a b : Int} (hn : f.name ≠ "_") (ht : f.type = 3) (hx : xs[f.offset]? = some (.int .i64 a)) (hy : ys[f.offset]? = some (.int .i64 b)) :
  (Op.eqFields (d + 1) xs ys (f :: fs)).run Try.prog w = if (a == b) = true then (Op.eqFields (d + 1) xs ys fs).run Try.prog w else .ok false w := by
 have hk : Try.prog.plainKey 3 = true := by kernel_rfl
 have h1 := run_part_plain (P := Try.prog) w hk hx
 have h2 := run_part_plain (P := Try.prog) w hk hy
 simp only [Op.eqFields, if_pos hn, ht, Sem.run_bind, h1, h2, Result.andThen_ok, run_equalIn_int w d 3 .i64 .i64 a b Try.underlying3, Sem.run_ite, Sem.run_pure]
 cases a == b <;> rfl
theorem eqf_bool {w : World} {d : Nat} {xs ys : Array Value} {f : Field} {fs : List Field} {a b : Bool} (hn : f.name ≠ "_") (ht : f.type = 4) (hx : xs[f.offset]? = some (.bool a)) (hy : ys[f.offset]? = some (.bool b)) :
  (Op.eqFields (d + 1) xs ys (f :: fs)).run Try.prog w = if (a == b) = true then (Op.eqFields (d + 1) xs ys fs).run Try.prog w else .ok false w := by
 have hk : Try.prog.plainKey 4 = true := by kernel_rfl
 have h1 := run_part_plain (P := Try.prog) w hk hx
 have h2 := run_part_plain (P := Try.prog) w hk hy
 simp only [Op.eqFields, if_pos hn, ht, Sem.run_bind, h1, h2, Result.andThen_ok, run_equalIn_bool' w d 4 a b Try.underlying4, Sem.run_ite, Sem.run_pure]
 cases a == b <;> rfl
theorem takes_eq_step {α : Type} {l l' : List α} {k : Nat} {z z' : α} (h : l.take k = l'.take k) (hz : l[k]? = some z) (hz' : l'[k]? = some z') (e : z = z') : l.take (k + 1) = l'.take (k + 1) := by
 rw [List.take_add_one, List.take_add_one, h, hz, hz', e]
theorem nes_at {α : Type} [DecidableEq α] {l l' : List α} {k : Nat} {z z' : α} (hz : l[k]? = some z) (hz' : l'[k]? = some z') (e : z ≠ z') : decide (l = l') = false := by
 rw [decide_eq_false_iff_not]
 rintro rfl
 rw [hz] at hz'
 injection hz' with h
 exact e h
end Go.Proofs.Ytcankpiidjhhpaa
