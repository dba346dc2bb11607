/- Core, what is needed of it. -/
import Derived.Test.YtcankpiidjhhpaaYFrame
import Derived.WalkLawsBesides
import Derived.BigQuiet
import Derived.Deep.QuietTactic
import Derived.Deep.OwnRows
import Derived.Deep.Slices
import Derived.Deep.Fields
import Derived.Outline
namespace Go.Proofs.Ytcankpiidjhhpaa
open Go Go.ChangeShapes Go.WideShapes Go.ChangeAt Go.RowKit Go.Lib
set_option linter.unusedVariables false
set_option maxRecDepth 100000

/-- From w to w' no block that was there has turned, but for blocks from lo on and below hi. -/
structure Chg (lo hi : Nat) (w w' : World) : Prop where
 os : w'.os = w.os
 tape : w'.tape = w.tape
 output : w'.output = w.output
 size : w.heap.size ≤ w'.heap.size
 block : ∀ k, k < w.heap.size → ¬ (lo ≤ k ∧ k < hi) → w'.heap[k]? = w.heap[k]?

section
variable {lo hi lo' hi' : Nat} {w w' w'' : World}
theorem Chg.refl (lo hi : Nat) (w : World) : Chg lo hi w w := ⟨rfl, rfl, rfl, Nat.le_refl _, fun _ _ _ => rfl⟩
theorem Chg.trans (h : Chg lo hi w w') (k : Chg lo hi w' w'') : Chg lo hi w w'' :=
 ⟨k.os.trans h.os, k.tape.trans h.tape, k.output.trans h.output, Nat.le_trans h.size k.size, fun i hi hn => (k.block i (Nat.lt_of_lt_of_le hi h.size) hn).trans (h.block i hi hn)⟩
theorem Chg.mono (h : Chg lo hi w w') (h1 : lo' ≤ lo) (h2 : hi ≤ hi' ∨ w.heap.size ≤ hi') : Chg lo' hi' w w' :=
 ⟨h.os, h.tape, h.output, h.size, fun i hi hn => h.block i hi (by omega)⟩
theorem Chg.none (h : Chg lo hi w w') (hh : hi ≤ lo) : Chg lo' hi' w w' :=
 ⟨h.os, h.tape, h.output, h.size, fun i hi hn => h.block i hi (by omega)⟩
theorem Chg.drewN (h : Chg lo hi w w') (n : Nat) : Chg lo hi w (w'.drewN n) := ⟨h.os, h.tape, h.output, h.size, h.block⟩
theorem Chg.alloc (h : Chg lo hi w w') (o : Obj) : Chg lo hi w (w'.alloc o) :=
 ⟨h.os, h.tape, h.output, Nat.le_trans h.size (by simp), fun i hi hn => (Below.heap_alloc w' o i (Nat.lt_of_lt_of_le hi h.size)).trans (h.block i hi hn)⟩
theorem Chg.set_ (h : Chg lo hi w w') {p : Addr} (hp : (lo ≤ p.block ∧ p.block < hi) ∨ w.heap.size ≤ p.block) (u : Value) : Chg lo hi w (w'.setCell p u) :=
 ⟨h.os, h.tape, h.output, by simpa [World.setCell] using h.size, fun i hi hn => (Below.heap_setCell w' p u i (by rintro rfl; omega)).trans (h.block i hi hn)⟩
theorem chg_of_new (h : Below w.heap.size w w') : Chg lo hi w w' := ⟨h.os, h.tape, h.output, h.size, fun i hi _ => h.block i hi⟩
theorem Chg.below {B : Nat} (h : Chg lo hi w w') (hB : B ≤ lo ∨ hi ≤ lo) (hs : B ≤ w.heap.size) : Below B w w' := ⟨h.os, h.tape, h.output, h.size, fun i hi' => h.block i (by omega) (by omega)⟩
theorem below_trans {B : Nat} (h : Below B w w') (k : Below w'.heap.size w' w'') (hB : B ≤ w.heap.size) : Below B w w'' := h.trans (k.mono (Nat.le_trans hB h.size))
theorem below_dN {B : Nat} (h : Below B w w') (n : Nat) : Below B w (w'.drewN n) := ⟨h.os, h.tape, h.output, h.size, h.block⟩
end

/-- A slice of n elements, each of 'size' cells, that reads as these cells, in a block from lo on and below hi. -/
def Rd (w : World) (lo hi size : Nat) (A : Option Addr) (n : Nat) (xs : List Value) : Prop :=
 xs.length = n * size ∧ (0 < n → ∃ b off, A = some ⟨b, off, none⟩ ∧ lo ≤ b ∧ b < hi ∧ ∀ (j : Nat) (u : Value), xs[j]? = some u → w.cell? ⟨b, off + j, none⟩ = some u)

section
variable {w w' : World} {lo hi lo' hi' size n : Nat} {A : Option Addr} {xs : List Value}
theorem Rd.empty : Rd w lo hi size A 0 [] := ⟨by simp, fun h => absurd h (by omega)⟩
theorem Rd.drewN (h : Rd w lo hi size A n xs) (k : Nat) : Rd (w.drewN k) lo hi size A n xs := h
theorem Rd.mono (h : Rd w lo hi size A n xs) (h1 : lo' ≤ lo) (h2 : hi ≤ hi') : Rd w lo' hi' size A n xs :=
 ⟨h.1, fun hn => by
  obtain ⟨b, off, e, hl, hh, hc⟩ := h.2 hn
  exact ⟨b, off, e, by omega, by omega, hc⟩⟩
theorem Rd.keep (h : Rd w lo hi size A n xs) (hk : ∀ b, lo ≤ b → b < hi → b < w.heap.size → w'.heap[b]? = w.heap[b]?) : Rd w' lo hi size A n xs :=
 ⟨h.1, fun hn => by
  obtain ⟨b, off, e, hl, hh, hc⟩ := h.2 hn
  refine ⟨b, off, e, hl, hh, fun j u hu => ?_⟩
  have hcell := hc j u hu
  have hlt := World.block_lt_of_cell? w _ hcell
  exact (World.cell?_of_block (a := ⟨b, off + j, none⟩) (hk b hl hh hlt)).trans hcell⟩
theorem Rd.chg (h : Rd w lo hi size A n xs) (hc : Chg lo' hi' w w') (hd : hi ≤ lo' ∨ hi' ≤ lo ∨ hi' ≤ lo') : Rd w' lo hi size A n xs :=
 h.keep fun b h1 h2 h3 => hc.block b h3 (by omega)
theorem Rd.below {B : Nat} (h : Rd w lo hi size A n xs) (hb : Below B w w') (hB : hi ≤ B) : Rd w' lo hi size A n xs := h.keep fun b _ h2 _ => hb.block b (by omega)
theorem Rd.new (h : Rd w lo hi size A n xs) (hb : Below w.heap.size w w') : Rd w' lo hi size A n xs := h.keep fun b _ _ h3 => hb.block b h3
theorem Rd.alloc (h : Rd w lo hi size A n xs) (o : Obj) : Rd (w.alloc o) lo hi size A n xs := h.keep fun b _ _ h3 => Below.heap_alloc w o b h3
theorem Rd.old (h : Rd w lo hi size A n xs) (hs : 0 < size) : Rd w 0 w.heap.size size A n xs :=
 ⟨h.1, fun hn => by
  obtain ⟨b, off, e, _, _, hc⟩ := h.2 hn
  have hlt : 0 < xs.length := by rw [h.1]; exact Nat.mul_pos hn hs
  exact ⟨b, off, e, Nat.zero_le _, World.block_lt_of_cell? _ _ (hc 0 _ (List.getElem?_eq_getElem hlt)), hc⟩⟩
theorem Rd.at1 {k : Nat} (h : Rd w lo hi 1 A n xs) (hk : k < n) : ∃ b off u, A = some ⟨b, off, none⟩ ∧ lo ≤ b ∧ b < hi ∧ xs[k]? = some u ∧ w.cell? ⟨b, off + k, none⟩ = some u := by
 obtain ⟨b, off, e, hl, hh, hc⟩ := h.2 (by omega)
 have hlen : k < xs.length := by have := h.1; omega
 exact ⟨b, off, xs[k], e, hl, hh, List.getElem?_eq_getElem hlen, hc k _ (List.getElem?_eq_getElem hlen)⟩
end

/-- A slice that a call has made: if it has elements, its block lies from lo on and below hi, it may be written, and its first cells are these. -/
def Fr (w : World) (lo hi : Nat) (E : TypeId) (size : Nat) (A : Option Addr) (n c : Nat) (xs : List Value) : Prop :=
 xs.length = n * size ∧ (0 < n → w.ownsRow lo E size (.slice A n c) n xs ∧ ∀ a, A = some a → a.block < hi)

section
variable {w w' : World} {lo hi lo' hi' size n c : Nat} {E : TypeId} {A : Option Addr} {xs : List Value}
theorem Fr.len (h : Fr w lo hi E size A n c xs) : xs.length = n * size := h.1
theorem Fr.rd (h : Fr w lo hi E size A n c xs) : Rd w lo hi size A n xs := by
 refine ⟨h.1, fun hn => ?_⟩
 obtain ⟨ho, hh'⟩ := h.2 hn
 rcases ho.2 with ⟨hv, hz⟩ | ⟨g, cap, cur, hv, hg, hh, _, _, _, htake⟩
 ·
  omega
 ·
  simp only [Value.slice.injEq] at hv
  obtain ⟨rfl, _, rfl⟩ := hv
  refine ⟨g, 0, rfl, hg, hh' _ rfl, fun j u hu => ?_⟩
  rw [Nat.zero_add, cell_of_row w g j cur E (0, 0) hh]
  rw [← htake, List.getElem?_take] at hu
  split at hu
  ·
   simpa using hu
  ·
   cases hu
theorem Fr.keep (h : Fr w lo hi E size A n c xs) (hk : ∀ b, lo ≤ b → b < hi → b < w.heap.size → w'.heap[b]? = w.heap[b]?) : Fr w' lo hi E size A n c xs := by
 refine ⟨h.1, fun hn => ?_⟩
 obtain ⟨ho, hh'⟩ := h.2 hn
 refine ⟨⟨ho.1, ?_⟩, hh'⟩
 rcases ho.2 with hn | ⟨g, cap, cur, hv, hg, hh, rest⟩
 ·
  exact .inl hn
 ·
  refine .inr ⟨g, cap, cur, hv, hg, ?_, rest⟩
  have hA : A = some ⟨g, 0, none⟩ := by
   simp only [Value.slice.injEq] at hv
   exact hv.1
  rw [hk g hg (hh' _ hA) (Array.getElem?_eq_some_iff.1 hh).1]
  exact hh
theorem Fr.chg (h : Fr w lo hi E size A n c xs) (hc : Chg lo' hi' w w') (hd : hi ≤ lo' ∨ hi' ≤ lo ∨ hi' ≤ lo') : Fr w' lo hi E size A n c xs :=
 h.keep fun b h1 h2 h3 => hc.block b h3 (by omega)
theorem Fr.below {B : Nat} (h : Fr w lo hi E size A n c xs) (hb : Below B w w') (hB : hi ≤ B) : Fr w' lo hi E size A n c xs := h.keep fun b _ h2 _ => hb.block b (by omega)
theorem Fr.new (h : Fr w lo hi E size A n c xs) (hb : Below w.heap.size w w') : Fr w' lo hi E size A n c xs := h.keep fun b _ _ h3 => hb.block b h3
theorem Fr.cap (h : Fr w lo hi E size A n c xs) : n ≤ c := by
 rcases Nat.eq_zero_or_pos n with h0 | h0
 ·
  omega
 ·
  rcases (h.2 h0).1.2 with ⟨_, hz⟩ | ⟨g, cap, cur, hv, _, _, hnc, _⟩
  ·
   omega
  ·
   simp only [Value.slice.injEq] at hv
   omega
theorem Fr.drewN (h : Fr w lo hi E size A n c xs) (k : Nat) : Fr (w.drewN k) lo hi E size A n c xs := h
theorem Fr.mono (h : Fr w lo hi E size A n c xs) (h1 : lo' ≤ lo) (h2 : hi ≤ hi') : Fr w lo' hi' E size A n c xs := by
 refine ⟨h.1, fun hn => ?_⟩
 obtain ⟨ho, hh'⟩ := h.2 hn
 refine ⟨⟨ho.1, ?_⟩, fun a ha => Nat.lt_of_lt_of_le (hh' a ha) h2⟩
 rcases ho.2 with hn | ⟨g, cap, cur, hv, hg, rest⟩
 ·
  exact .inl hn
 ·
  exact .inr ⟨g, cap, cur, hv, by omega, rest⟩
/-- What append's law hands on, as such a slice. -/
theorem fr_of_own {v : Value} (h : w.ownsRow lo E size v n xs) : ∃ A c, v = .slice A n c ∧ Fr w lo w.heap.size E size A n c xs := by
 rcases h.2 with ⟨rfl, rfl⟩ | ⟨g, cap, cur, rfl, hg, hh, rest⟩
 ·
  exact ⟨_, _, rfl, h.1, fun hn => absurd hn (by omega)⟩
 ·
  exact ⟨_, _, rfl, h.1, fun _ => ⟨h, fun a ha => by
   injection ha with ha
   subst ha
   exact (Array.getElem?_eq_some_iff.1 hh).1⟩⟩
/-- Its row by the index, to be written: the cells that count. -/
theorem Fr.row (h : Fr w lo hi E size A n c xs) (hn : 0 < n) : ∃ g cap, A = some ⟨g, 0, none⟩ ∧ lo ≤ g ∧ g < hi ∧ n ≤ cap ∧ c = cap ∧ cap ≤ maxLen ∧ ∃ f, w.rowIs g E (cap * size) f ∧ ∀ j u, xs[j]? = some u → f j = u := by
 obtain ⟨ho, hh'⟩ := h.2 hn
 rcases ho.2 with ⟨hv, hz⟩ | ⟨g, cap, cur, hv, hg, hh, hnc, hcm, hcs, htake⟩
 ·
  omega
 ·
  simp only [Value.slice.injEq] at hv
  obtain ⟨rfl, _, rfl⟩ := hv
  refine ⟨g, c, rfl, hg, hh' _ rfl, hnc, rfl, hcm, fun j => cur[j]?.getD undef, ⟨cur, hh, hcs, fun i hi => ?_⟩, fun j u hu => ?_⟩
  ·
   have he : cur[i]? = some (cur[i]'(by omega)) := Array.getElem?_eq_getElem (by omega)
   simp only [he, Option.getD_some]
  ·
   rw [← htake, List.getElem?_take] at hu
   split at hu
   ·
    simp only [Array.getElem?_toList] at hu
    simp only [hu, Option.getD_some]
   ·
    cases hu
/-- Back from the row by the index. -/
theorem fr_of_rowcap {g cap : Nat} {f : Nat → Value} (h : w.rowIs g E (cap * size) f) (hl : lo ≤ g) (hh : g < hi) (hnc : n ≤ cap) (hm : cap ≤ maxLen) (hx : xs.length = n * size) (hf : ∀ j u, xs[j]? = some u → f j = u) :
  Fr w lo hi E size (some ⟨g, 0, none⟩) n cap xs := by
 obtain ⟨cur, hb, hs, hc⟩ := h
 have hle : n * size ≤ cap * size := Nat.mul_le_mul_right _ hnc
 refine ⟨hx, fun _ => ⟨⟨hx, .inr ⟨g, cap, cur, rfl, hl, hb, hnc, hm, hs, ?_⟩⟩, fun a ha => by injection ha with ha; subst ha; exact hh⟩⟩
 apply List.ext_getElem?
 intro j
 rw [List.getElem?_take]
 by_cases hj : j < n * size
 ·
  have hxj : xs[j]? = some (xs[j]'(by omega)) := List.getElem?_eq_getElem (by omega)
  rw [if_pos hj, hxj, Array.getElem?_toList, hc j (by omega), hf j _ hxj]
 ·
  rw [if_neg hj, List.getElem?_eq_none (by omega)]
end

/-- A slice that may be appended to: the call's own, or one of no element and no room. -/
def OwnZ (w : World) (base : Nat) (e : TypeId) (size : Nat) (v : Value) (n : Nat) (xs : List Value) : Prop :=
 w.ownsRow base e size v n xs ∨ (n = 0 ∧ xs = [] ∧ ∃ A, v = .slice A 0 0)
theorem fr_of_ownz {w : World} {lo size n : Nat} {E : TypeId} {xs : List Value} {v : Value} (h : OwnZ w lo E size v n xs) : ∃ A c, v = .slice A n c ∧ Fr w lo w.heap.size E size A n c xs := by
 rcases h with h | ⟨rfl, rfl, A, rfl⟩
 ·
  exact fr_of_own h
 ·
  exact ⟨A, 0, rfl, by simp, fun hn => absurd hn (by omega)⟩
/-- Block g holds just these cells. -/
def BoxAt (w : World) (g : Nat) (t : TypeId) (cs : Array Value) : Prop := w.heap[g]? = some (.cells cs t (0, 0))
section
variable {w w' : World} {g lo hi : Nat} {t : TypeId} {cs : Array Value}
theorem BoxAt.lt (h : BoxAt w g t cs) : g < w.heap.size := (Array.getElem?_eq_some_iff.1 h).1
theorem BoxAt.new (h : BoxAt w g t cs) (hb : Below w.heap.size w w') : BoxAt w' g t cs := (hb.block g h.lt).trans h
theorem BoxAt.chg (h : BoxAt w g t cs) (hc : Chg lo hi w w') (hd : ¬ (lo ≤ g ∧ g < hi)) : BoxAt w' g t cs := (hc.block g h.lt hd).trans h
theorem BoxAt.alloc_ (h : BoxAt w g t cs) (o : Obj) : BoxAt (w.alloc o) g t cs := (Below.heap_alloc w o g h.lt).trans h
theorem BoxAt.at_ (h : BoxAt w g t cs) {j : Nat} {u : Value} (hu : cs[j]? = some u) : w.cell? ⟨g, j, none⟩ = some u := by
 rw [cell_of_row w g j cs t (0, 0) h, hu]
theorem BoxAt.grown {r : Nat} (h : BoxAt w g t cs) (hg : w.grownBy w' (some r)) (hne : g ≠ r) : BoxAt w' g t cs := (hg.block g h.lt (by intro e; injection e with e; exact hne e)).trans h
theorem BoxAt.keep (h : BoxAt w g t cs) (e : w'.heap[g]? = w.heap[g]?) : BoxAt w' g t cs := e.trans h
theorem BoxAt.free (h : BoxAt w g t cs) (j : Nat) : w.frozen? ⟨g, j, none⟩ = false := by
 unfold BoxAt at h
 simp [World.frozen?, h]
theorem box_new (w : World) (t : TypeId) (cs : Array Value) : BoxAt (w.alloc (.cells cs t)) w.heap.size t cs := heap_alloc_new w _
end
/-- A call that answers a new slice of these cells and makes nothing else that matters. -/
def Makes (E : TypeId) (size n : Nat) (xs : List Value) (w : World) (e : Ending) (w' : World) : Prop :=
 ∃ A c, e = .returned (.slice A n c) ∧ Fr w' w.heap.size w'.heap.size E size A n c xs ∧ Below w.heap.size w w'
theorem makes_of_own {E : TypeId} {size n : Nat} {xs : List Value} {v : Value} {w w' : World} (h : w'.ownsRow w.heap.size E size v n xs) (hb : Below w.heap.size w w') : Makes E size n xs w (.returned v) w' := by
 obtain ⟨A, c, rfl, hF⟩ := fr_of_own h
 exact ⟨A, c, rfl, hF, hb⟩
/-- A call that answers v and only draws. -/
def Quiet (v : Value) (w : World) (e : Ending) (w' : World) : Prop := e = .returned v ∧ ∃ k, w' = w.drewN k
/-- A call that answers v and leaves what was there. -/
def Says (v : Value) (w : World) (e : Ending) (w' : World) : Prop := e = .returned v ∧ Below w.heap.size w w'
theorem Quiet.says {v : Value} {w : World} {e : Ending} {w' : World} (h : Quiet v w e w') : Says v w e w' := by
 obtain ⟨rfl, k, rfl⟩ := h
 exact ⟨rfl, below_dN (Below.refl _ _) _⟩

theorem says_of_same {P : Program} {f : FuncId} {a : Array Value} {v : Value} {w : World} (h : Calls P f a w (fun e w' => e = .returned v ∧ w = w')) : Calls P f a w (Says v w) :=
 h.mono fun _ _ ⟨he, hw⟩ => ⟨he, hw ▸ Below.refl _ _⟩
theorem map_get {α : Type} (f : α → Value) (l : List α) (j : Nat) (u : Value) (h : (l.map f)[j]? = some u) : ∃ x, l[j]? = some x ∧ f x = u := by
 rw [List.getElem?_map] at h
 exact Option.map_eq_some_iff.1 h
end Go.Proofs.Ytcankpiidjhhpaa
