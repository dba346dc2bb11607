/- Label, Rws, Reg, what is needed of it. -/
import Derived.Test.YtcankpiidjhhpaaYGa
import Derived.ChangeKeysEq
import Derived.Test.YtcankpiidjhhpaaYCore
import Derived.Laws.CopyOwn
namespace Go.Proofs.Ytcankpiidjhhpaa
open Go Go.ChangeShapes Go.WideShapes Go.ChangeAt Go.RowKit Go.Lib
set_option linter.unusedVariables false
set_option linter.unusedSimpArgs false
set_option maxRecDepth 100000
def mIsLabel (x : Int) : Bool := inR x 0 1022 && (x % 2 == 0)
theorem and1 {z : Int} (h0 : 0 ≤ z) (h1 : z ≤ 1022) : bits .and .i64 z 1 = z % 2 := by
 obtain ⟨m, rfl⟩ := Int.eq_ofNat_of_zero_le h0
 have hm : m < 1023 := by omega
 have h : ∀ k : Fin 1023, bits .and .i64 ((k.1 : Nat) : Int) 1 = ((k.1 : Nat) : Int) % 2 := by decide +kernel
 exact h ⟨m, hm⟩

set_option maxHeartbeats 8000000 in
theorem impl_IsLabel (a0 : Int) (w : World) :
  Calls Try.prog 11 #[.int .i64 a0] w (Says (.bool (mIsLabel a0)) w) := by
 by_cases h2 : (bits .and .i64 a0 1 == 0) = true
 ·
  by_cases h0 : (inR a0 0 1022) = true
  ·
   have hb := inR_true.1 h0
   have HE := Lib.hid (show mIsLabel a0 = true by rw [and1 hb.1 hb.2] at h2; unfold mIsLabel; rw [h0, h2]; rfl)
   clear hb
   go_enter Try.func11, Try.ntmps11
   go_wp2_with (first | (go_at_call 59; refine (impl_in _ _ _ _).mono ?_; rintro e w1 ⟨rfl, rfl⟩))
   go_ret
   exact ⟨by rw [HE.out]; rfl, Below.refl _ _⟩
  ·
   have h0 : (inR a0 0 1022) = false := by simpa using h0
   have HE := Lib.hid (show mIsLabel a0 = false by simp [mIsLabel, h0])
   go_enter Try.func11, Try.ntmps11
   go_wp2_with (first | (go_at_call 59; refine (impl_in _ _ _ _).mono ?_; rintro e w1 ⟨rfl, rfl⟩))
   go_ret
   exact ⟨by rw [HE.out]; rfl, Below.refl _ _⟩
 ·
  have h2 : (bits .and .i64 a0 1 == 0) = false := by simpa using h2
  have HE := Lib.hid (show mIsLabel a0 = false by
   cases h0 : inR a0 0 1022 with
   | false => simp [mIsLabel, h0]
   | true =>
    have hb := inR_true.1 h0
    rw [and1 hb.1 hb.2] at h2
    unfold mIsLabel; rw [h0, h2]; rfl)
  go_enter Try.func11, Try.ntmps11
  go_wp2_with (first | (go_at_call 59; refine (impl_in _ _ _ _).mono ?_; rintro e w1 ⟨rfl, rfl⟩))
  go_ret
  exact ⟨by rw [HE.out]; rfl, Below.refl _ _⟩
end Go.Proofs.Ytcankpiidjhhpaa
namespace Go.Proofs.Ytcankpiidjhhpaa
open Go Go.ChangeShapes Go.WideShapes Go.ChangeAt Go.RowKit Go.Lib
set_option linter.unusedVariables false
set_option maxRecDepth 100000

section
variable {α : Type} {c : α → List Value} {s : Nat}
theorem flat_len (hc : ∀ x, (c x).length = s) : ∀ d : List α, (d.flatMap c).length = d.length * s
 | [] => by simp
 | x :: d => by rw [List.flatMap_cons, List.length_append, hc, flat_len hc d, List.length_cons, Nat.add_mul]; omega
theorem flat_get (hc : ∀ x, (c x).length = s) : ∀ (d : List α) (k j : Nat) (x : α) (u : Value), d[k]? = some x → (c x)[j]? = some u → (d.flatMap c)[k * s + j]? = some u
 | [], k, j, x, u, h, _ => by simp at h
 | y :: d, 0, j, x, u, h, hu => by
  simp only [List.getElem?_cons_zero, Option.some.injEq] at h
  subst h
  have hj := (List.getElem?_eq_some_iff.1 hu).1
  rw [List.flatMap_cons, Nat.zero_mul, Nat.zero_add, List.getElem?_append_left hj]
  exact hu
 | y :: d, k + 1, j, x, u, h, hu => by
  rw [List.getElem?_cons_succ] at h
  rw [List.flatMap_cons, List.getElem?_append_right (by rw [hc, Nat.add_mul]; omega), hc, show (k + 1) * s + j - s = k * s + j by rw [Nat.add_mul]; omega]
  exact flat_get hc d k j x u h hu
theorem rd_elem {w : World} {lo hi n k : Nat} {A : Option Addr} {d : List α} (hs : ∀ x, (c x).length = s) (h : Rd w lo hi s A n (d.flatMap c)) (hd : d.length = n) (hk : k < n) :
  ∃ b off x, A = some ⟨b, off, none⟩ ∧ lo ≤ b ∧ b < hi ∧ d[k]? = some x ∧ ∀ (j : Nat) (u : Value), (c x)[j]? = some u → w.cell? ⟨b, off + k * s + j, none⟩ = some u := by
 obtain ⟨b, off, e, hl, hh, hc⟩ := h.2 (by omega)
 have hx : d[k]? = some (d[k]'(by omega)) := List.getElem?_eq_getElem (by omega)
 exact ⟨b, off, _, e, hl, hh, hx, fun j u hu => by rw [Nat.add_assoc]; exact hc _ u (flat_get hs d k j _ u hx hu)⟩
theorem rd_len {w : World} {lo hi n : Nat} {A : Option Addr} {d : List α} (hs : ∀ x, (c x).length = s) (h : Rd w lo hi s A n (d.flatMap c)) (hp : 0 < s) : d.length = n := by
 have := h.1
 rw [flat_len hs] at this
 exact Nat.eq_of_mul_eq_mul_right hp this
end

/-- Block g is a row of m cells of this type that may be written; the first i of them are those of xs. -/
def Pre (w : World) (g : Nat) (E : TypeId) (m : Nat) (xs : List Value) (i : Nat) : Prop :=
 ∃ f : Nat → Value, w.rowIs g E m f ∧ ∀ (j : Nat) (u : Value), (xs.take i)[j]? = some u → f j = u

section
variable {w w' : World} {g m i : Nat} {E : TypeId} {xs : List Value}
theorem Pre.cell (h : Pre w g E m xs i) {j : Nat} (hj : j < m) : ∃ u, w.cell? ⟨g, j, none⟩ = some u := by
 obtain ⟨f, hr, _⟩ := h
 exact ⟨_, hr.cell hj⟩
theorem Pre.frozen (h : Pre w g E m xs i) (j : Nat) : w.frozen? ⟨g, j, none⟩ = false := by
 obtain ⟨f, hr, _⟩ := h
 exact hr.frozen j
theorem Pre.step {u : Value} (h : Pre w g E m xs i) (hu : xs[i]? = some u) : Pre (w.setCell ⟨g, i, none⟩ u) g E m xs (i + 1) := by
 obtain ⟨f, hr, hf⟩ := h
 refine ⟨_, hr.set i u, fun j v hv => ?_⟩
 by_cases e : j = i
 ·
  subst e
  rw [List.getElem?_take, if_pos (by omega), hu] at hv
  injection hv with hv
  simp [hv]
 ·
  simp only [e, if_false]
  refine hf j v ?_
  rw [List.getElem?_take] at hv ⊢
  split at hv
  ·
   rw [if_pos (by omega)]; exact hv
  ·
   cases hv
theorem Pre.at_ {i' : Nat} (h : Pre w g E m xs i) (e : i = i') : Pre w g E m xs i' := e ▸ h
theorem Pre.keep (h : Pre w g E m xs i) (e : w'.heap[g]? = w.heap[g]?) : Pre w' g E m xs i := by
 obtain ⟨f, hr, hf⟩ := h
 exact ⟨f, hr.of_block e, hf⟩
theorem Pre.lt (h : Pre w g E m xs i) : g < w.heap.size := by
 obtain ⟨f, hr, hf⟩ := h
 exact hr.lt
theorem Pre.below {B : Nat} (h : Pre w g E m xs i) (hb : Below B w w') (hB : g < B) : Pre w' g E m xs i := h.keep (hb.block g hB)
theorem Pre.new (h : Pre w g E m xs i) (hb : Below w.heap.size w w') : Pre w' g E m xs i := h.keep (hb.block g h.lt)
end
theorem below_step {B : Nat} {w W w' : World} (h : Below B w W) (k : Hid (Below W.heap.size W w')) (hB : B ≤ W.heap.size) : Below B w w' := h.trans (k.out.mono hB)
theorem cell_nw {w w' : World} {a : Addr} {u : Value} (hb : Below w.heap.size w w') (h : w.cell? a = some u) : w'.cell? a = some u :=
 (World.cell?_of_block (hb.block _ (World.block_lt_of_cell? w _ h))).trans h
theorem cell_newest {w : World} {g j : Nat} {t : TypeId} {cs : Array Value} {u : Value} (hg : g = w.heap.size) (hu : cs[j]? = some u) : (w.alloc (.cells cs t)).cell? ⟨g, j, none⟩ = some u := by
 subst hg; exact (box_new w t cs).at_ hu
theorem BoxAt.drw {w : World} {g : Nat} {t : TypeId} {cs : Array Value} (h : BoxAt w g t cs) : BoxAt w.drew g t cs := h
theorem Rd.drw {w : World} {lo hi size n : Nat} {A : Option Addr} {xs : List Value} (h : Rd w lo hi size A n xs) : Rd w.drew lo hi size A n xs := h
theorem Fr.drw {w : World} {lo hi size n c : Nat} {E : TypeId} {A : Option Addr} {xs : List Value} (h : Fr w lo hi E size A n c xs) : Fr w.drew lo hi E size A n c xs := h
theorem eqf_int {w : World} {d : Nat} {xs ys : Array Value} {f : Field} {fs : List Field} {a b : Int} (hn : f.name ≠ "_") (ht : f.type = 3) (hx : xs[f.offset]? = some (.int .i64 a)) (hy : ys[f.offset]? = some (.int .i64 b)) :
  (Op.eqFields (d + 1) xs ys (f :: fs)).run Try.prog w = if (a == b) = true then (Op.eqFields (d + 1) xs ys fs).run Try.prog w else .ok false w := by
 have hk : Try.prog.plainKey 3 = true := by kernel_rfl
 have h1 := run_part_plain (P := Try.prog) w hk hx
 have h2 := run_part_plain (P := Try.prog) w hk hy
 simp only [Op.eqFields, if_pos hn, ht, Sem.run_bind, h1, h2, Result.andThen_ok, run_equalIn_int w d 3 .i64 .i64 a b Try.underlying3, Sem.run_ite, Sem.run_pure]
 cases a == b <;> rfl
theorem takes_eq_step {α : Type} {l l' : List α} {k : Nat} {z z' : α} (h : l.take k = l'.take k) (hz : l[k]? = some z) (hz' : l'[k]? = some z') (e : z = z') : l.take (k + 1) = l'.take (k + 1) := by
 rw [List.take_add_one, List.take_add_one, h, hz, hz', e]
theorem nes_at {α : Type} [DecidableEq α] {l l' : List α} {k : Nat} {z z' : α} (hz : l[k]? = some z) (hz' : l'[k]? = some z') (e : z ≠ z') : decide (l = l') = false := by
 rw [decide_eq_false_iff_not]
 rintro rfl
 rw [hz] at hz'
 injection hz' with h
 exact e h
end Go.Proofs.Ytcankpiidjhhpaa
namespace Go.Proofs.Ytcankpiidjhhpaa
open Go Go.ChangeShapes Go.WideShapes Go.ChangeAt Go.RowKit Go.Lib
set_option linter.unusedVariables false
theorem box_row {w : World} {g : Nat} {t : TypeId} {old cs : Array Value} (h : BoxAt w g t old) : BoxAt (w.setRow g cs) g t cs := setRow_heap w g old cs t (0, 0) h
theorem box_far {w : World} {g k : Nat} {t : TypeId} {old cs : Array Value} (h : BoxAt w k t old) (hne : k ≠ g) : BoxAt (w.setRow g cs) k t old := (setRow_other w g k cs hne).trans h
theorem chg_row (w : World) (g : Nat) (cs : Array Value) : Chg g (g + 1) w (w.setRow g cs) :=
 ⟨rfl, rfl, rfl, by simp, fun k _ hn => setRow_other w g k cs (by omega)⟩
end Go.Proofs.Ytcankpiidjhhpaa
