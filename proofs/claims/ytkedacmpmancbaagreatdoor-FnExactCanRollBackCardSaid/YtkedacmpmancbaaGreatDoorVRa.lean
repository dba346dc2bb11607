/- AscM, Sorted, Put, Fm, OwnersOf, what is needed of it. -/
import Derived.Lib.SlicesCompact
import Derived.Test.YtkedacmpmancbaaGreatDoorShelf
import Derived.Test.YtkedacmpmancbaaGreatDoorVSlI
import Derived.Test.YtkedacmpmancbaaGreatDoorVRws
import Derived.Test.YtkedacmpmancbaaGreatDoorVRgn
import Derived.Test.YtkedacmpmancbaaGreatDoorVAppO
import Derived.Test.YtkedacmpmancbaaGreatDoorVFun
import Derived.Test.YtkedacmpmancbaaGreatDoorVB2I
import Derived.Deep.LoopGhost
import Derived.Test.YtkedacmpmancbaaGreatDoorVAreOps2
import Derived.Test.YtkedacmpmancbaaGreatDoorVTOp
namespace Go.Proofs.YtkedacmpmancbaaGreatDoor
open Go Go.Lib
set_option linter.unusedVariables false

/-- A number put into an ascending list. -/
def mPut (n : Int) : List Int → List Int
 | [] => [n]
 | x :: l => if x < n then x :: mPut n l else if x = n then x :: l else n :: x :: l
def mAsd (l : List Int) : List Int := l.foldl (fun a n => mPut n a) []
theorem mem_mPut (n y : Int) : ∀ l : List Int, y ∈ mPut n l ↔ y = n ∨ y ∈ l
 | [] => by simp [mPut]
 | x :: l => by
  unfold mPut
  split
  ·
   simp only [List.mem_cons, mem_mPut n y l]; grind
  ·
   split
   ·
    rename_i h; simp only [List.mem_cons, h]; grind
   ·
    simp only [List.mem_cons]
theorem mPut_len (n : Int) : ∀ l : List Int, (mPut n l).length ≤ l.length + 1
 | [] => by simp [mPut]
 | x :: l => by
  unfold mPut
  have := mPut_len n l
  split
  ·
   simp only [List.length_cons]; omega
  ·
   split <;> simp only [List.length_cons] <;> omega
def Asc (l : List Int) : Prop := l.Pairwise (· < ·)
theorem asc_mPut (n : Int) : ∀ l : List Int, Asc l → Asc (mPut n l)
 | [], _ => by simp [mPut, Asc]
 | x :: l, h => by
  unfold Asc at h
  rw [List.pairwise_cons] at h
  unfold mPut
  split
  ·
   rename_i hx
   unfold Asc
   rw [List.pairwise_cons]
   refine ⟨fun y hy => ?_, asc_mPut n l h.2⟩
   rcases (mem_mPut n y l).1 hy with rfl | hy
   ·
    exact hx
   ·
    exact h.1 y hy
  ·
   split
   ·
    unfold Asc; rw [List.pairwise_cons]; exact h
   ·
    rename_i h1 h2
    unfold Asc
    rw [List.pairwise_cons, List.pairwise_cons]
    refine ⟨fun y hy => ?_, h⟩
    rcases List.mem_cons.1 hy with rfl | hy
    ·
     omega
    ·
     have := h.1 y hy; omega
theorem asc_fold : ∀ (l a : List Int), Asc a → Asc (l.foldl (fun a n => mPut n a) a)
 | [], a, h => h
 | n :: l, a, h => asc_fold l _ (asc_mPut n a h)
theorem mem_fold : ∀ (l a : List Int) (y : Int), y ∈ l.foldl (fun a n => mPut n a) a ↔ y ∈ l ∨ y ∈ a
 | [], a, y => by simp
 | n :: l, a, y => by
  rw [List.foldl_cons, mem_fold l, mem_mPut]
  simp only [List.mem_cons]
  grind
theorem fold_len : ∀ (l a : List Int), (l.foldl (fun a n => mPut n a) a).length ≤ l.length + a.length
 | [], a => by simp
 | n :: l, a => by
  have := fold_len l (mPut n a)
  have := mPut_len n a
  simp only [List.foldl_cons, List.length_cons]
  omega
theorem mAsd_asc (l : List Int) : Asc (mAsd l) := asc_fold l [] List.Pairwise.nil
theorem mem_mAsd (l : List Int) (y : Int) : y ∈ mAsd l ↔ y ∈ l := by
 unfold mAsd; rw [mem_fold]; simp
theorem mAsd_len (l : List Int) : (mAsd l).length ≤ l.length := by
 have := fold_len l []; simpa [mAsd] using this
theorem mAsd_snoc (l : List Int) (n : Int) : mAsd (l ++ [n]) = mPut n (mAsd l) := by
 unfold mAsd; rw [List.foldl_append]; rfl
/-- Two ascending lists of the same members are one. -/
theorem asc_ext : ∀ {a b : List Int}, Asc a → Asc b → (∀ y, y ∈ a ↔ y ∈ b) → a = b
 | [], [], _, _, _ => rfl
 | [], y :: b, _, _, h => by have := (h y).2 (by simp); simp at this
 | x :: a, [], _, _, h => by have := (h x).1 (by simp); simp at this
 | x :: a, y :: b, ha, hb, h => by
  unfold Asc at ha hb
  rw [List.pairwise_cons] at ha hb
  have e : x = y := by
   have h1 := (h x).1 (by simp)
   have h2 := (h y).2 (by simp)
   rcases List.mem_cons.1 h1 with h1 | h1
   ·
    exact h1
   ·
    rcases List.mem_cons.1 h2 with h2 | h2
    ·
     exact h2.symm
    ·
     have := hb.1 x h1; have := ha.1 y h2; omega
  subst e
  rw [asc_ext ha.2 hb.2 (fun z => ⟨fun hz => by
   rcases List.mem_cons.1 ((h z).1 (List.mem_cons_of_mem _ hz)) with rfl | hz'
   ·
    exact absurd (ha.1 _ hz) (by omega)
   ·
    exact hz', fun hz => by
   rcases List.mem_cons.1 ((h z).2 (List.mem_cons_of_mem _ hz)) with rfl | hz'
   ·
    exact absurd (hb.1 _ hz) (by omega)
   ·
    exact hz'⟩)]
/-- What stays of an ascending row with repeats: each once. -/
theorem compact_mem (d : Array Int) (hs : ∀ i j, i < j → j < d.size → d[i]! ≤ d[j]!) : ∀ m, m ≤ d.size → Asc (compactUpTo d m) ∧ (∀ y, y ∈ compactUpTo d m ↔ ∃ i, i < m ∧ d[i]! = y)
 | 0, _ => by simp [compactUpTo, Asc]
 | m + 1, hm => by
  obtain ⟨h1, h2⟩ := compact_mem d hs m (by omega)
  rw [compactUpTo_succ]
  by_cases hk : keeps d m = true
  ·
   rw [if_pos hk]
   constructor
   ·
    unfold Asc at h1 ⊢
    rw [List.pairwise_append]
    refine ⟨h1, by simp, fun a ha b hb => ?_⟩
    simp only [List.mem_singleton] at hb
    subst hb
    obtain ⟨i, hi, rfl⟩ := (h2 a).1 ha
    unfold keeps at hk
    have hle : d[i]! ≤ d[m - 1]! := by
     rcases Nat.lt_or_ge i (m - 1) with h | h
     ·
      exact hs i (m - 1) h (by omega)
     ·
      have : i = m - 1 := by omega
      subst this; exact Int.le_refl _
    have hle2 : d[m - 1]! ≤ d[m]! := hs (m - 1) m (by omega) (by omega)
    have hne : d[m - 1]! ≠ d[m]! := by
     intro e
     simp at hk
     omega
    omega
   ·
    intro y
    rw [List.mem_append, h2 y, List.mem_singleton]
    constructor
    ·
     rintro (⟨i, hi, rfl⟩ | rfl)
     ·
      exact ⟨i, by omega, rfl⟩
     ·
      exact ⟨m, by omega, rfl⟩
    ·
     rintro ⟨i, hi, rfl⟩
     rcases Nat.lt_or_ge i m with h | h
     ·
      exact .inl ⟨i, h, rfl⟩
     ·
      have : i = m := by omega
      subst this; exact .inr rfl
  ·
   rw [if_neg hk, List.append_nil]
   refine ⟨h1, fun y => ?_⟩
   rw [h2 y]
   constructor
   ·
    rintro ⟨i, hi, rfl⟩; exact ⟨i, by omega, rfl⟩
   ·
    rintro ⟨i, hi, rfl⟩
    rcases Nat.lt_or_ge i m with h | h
    ·
     exact ⟨i, h, rfl⟩
    ·
     have : i = m := by omega
     subst this
     unfold keeps at hk
     simp at hk
     exact ⟨i - 1, by omega, by first | exact hk.2 | exact hk.2.symm | omega⟩
theorem asc_compact (l : List Int) : compact (l.mergeSort fun x y => decide (x ≤ y)) = mAsd l := by
 have hp : (l.mergeSort fun x y => decide (x ≤ y)).Pairwise (fun x y => decide (x ≤ y) = true) :=
  List.pairwise_mergeSort (by simp only [decide_eq_true_eq]; intro a b c; omega) (by intro a b; simp only [Bool.or_eq_true, decide_eq_true_eq]; omega) l
 have hm : ∀ y, y ∈ (l.mergeSort fun x y => decide (x ≤ y)) ↔ y ∈ l := fun y => (List.mergeSort_perm l _).mem_iff
 generalize (l.mergeSort fun x y => decide (x ≤ y)) = s at hp hm ⊢
 have hg : ∀ i (h : i < s.length), s.toArray[i]! = s[i] := fun i h => by simp [h]
 obtain ⟨h1, h2⟩ := compact_mem s.toArray (fun i j hij hj => by
  have hj' : j < s.length := by simpa using hj
  rw [hg i (by omega), hg j hj']
  have := List.pairwise_iff_getElem.1 hp i j (by omega) hj' hij
  simpa using this) s.length (by simp)
 refine asc_ext h1 (mAsd_asc l) fun y => ?_
 show y ∈ compactUpTo s.toArray s.length ↔ _
 rw [h2 y, mem_mAsd, ← hm y, List.mem_iff_getElem]
 constructor
 ·
  rintro ⟨i, hi, e⟩; exact ⟨i, hi, by rw [← e, hg i hi]⟩
 ·
  rintro ⟨i, hi, e⟩; exact ⟨i, hi, by rw [hg i hi, e]⟩
end Go.Proofs.YtkedacmpmancbaaGreatDoor
namespace Go.Proofs.YtkedacmpmancbaaGreatDoor
open Go Go.ChangeShapes Go.WideShapes Go.ChangeAt Go.RowKit Go.Lib Go.Sort
set_option linter.unusedVariables false
set_option linter.unusedSimpArgs false
set_option maxRecDepth 100000
theorem putRow_row {w : World} {g m : Nat} {E : TypeId} {f : Nat → Value} (h : w.rowIs g E m f) (d : Array Int) :
  (putRow (Value.int .i64) w g 0 d).rowIs g E m (fun j => if j < d.size then .int .i64 d[j]! else f j) := by
 obtain ⟨cur, hb, hs, hc⟩ := h
 refine ⟨putCells (Value.int .i64) 0 d cur, ?_, by simp [putCells, hs], fun i hi => ?_⟩
 ·
  unfold putRow mapBlock
  simp only [Array.getElem?_modify, if_true, hb, Option.map_some, onCells]
 ·
  have := hc i hi
  simp only [putCells, Array.getElem?_mapIdx, this, Option.map_some, Nat.zero_le, true_and, Nat.zero_add, Nat.sub_zero]
theorem ahead_below {B : Nat} (w : World) (n : Nat) : Below B w (Sort.ahead w n) := ⟨rfl, rfl, rfl, Nat.le_refl _, fun _ _ => rfl⟩
theorem grow_below (w : World) (os : Array Obj) : Below w.heap.size w (Sort.grow w os) :=
 ⟨rfl, rfl, rfl, by simp, fun k hk => by simp only [Sort.grow, Array.getElem?_append_left hk]⟩
theorem rowIs_ahead {w : World} {g m : Nat} {E : TypeId} {f : Nat → Value} (h : w.rowIs g E m f) (n : Nat) : (Sort.ahead w n).rowIs g E m f := h
theorem holds_of_row {w : World} {g cap n : Nat} {E : TypeId} {f : Nat → Value} {l : List Int} (h : w.rowIs g E cap f) (hl : l.length = n) (hn : n ≤ cap) (hf : ∀ j u, (i64s l)[j]? = some u → f j = u) : Holds (Value.int .i64) w g 0 l.toArray := by
 intro j hj
 have hj' : j < l.length := by simpa using hj
 refine ⟨?_, h.frozen (0 + j)⟩
 rw [Nat.zero_add, h.cell (by omega)]
 have e := hf j (.int .i64 l[j]) (by simp [i64s, hj'])
 rw [e]
 simp [hj']
theorem sort_fr (l : List Int) (A : Option Addr) (n c lo hi : Nat) (w : World) (hn : n ≤ 1099511627776) (hF : Fr w lo hi 3 1 A n c (i64s l)) :
  Calls Tryz.prog 224 #[.slice A n c] w fun e w' => e = .returned (.tuple #[]) ∧ Fr w' lo hi 3 1 A n c (i64s (l.mergeSort fun x y => decide (x ≤ y))) ∧ Chg lo hi w w' := by
 have hl : l.length = n := by have := hF.len; simpa [i64s] using this
 rcases Nat.eq_zero_or_pos n with h0 | h0
 ·
  subst h0
  have e : l = [] := List.eq_nil_of_length_eq_zero hl
  subst e
  refine (Tryz.slices_Sort_int_none A c w).mono ?_
  rintro e w' ⟨rfl, rfl⟩
  exact ⟨rfl, by simpa using hF, Chg.refl _ _ _⟩
 ·
  obtain ⟨g, cap, rfl, h1, h2, h3, rfl, h5, f, hr, hf⟩ := hF.row h0
  rw [Nat.mul_one] at hr
  have hH := holds_of_row hr hl h3 hf
  refine (show Calls Tryz.prog 224 #[.slice (some ⟨g, 0, none⟩) n c] w _ from by rw [← hl]; exact Tryz.slices_Sort_int g 0 c l w hH hr.lt (by omega)).mono ?_
  rintro e w' ⟨rfl, k, os, rfl⟩
  have hr2 := putRow_row (rowIs_ahead hr k) (l.mergeSort fun x y => decide (x ≤ y)).toArray
  have hlen : (l.mergeSort fun x y => decide (x ≤ y)).length = n := by rw [List.length_mergeSort, hl]
  have hc1 : Chg lo hi w (putRow (Value.int .i64) (Sort.ahead w k) g 0 (l.mergeSort fun x y => decide (x ≤ y)).toArray) := by
   have hb := (ahead_below (B := w.heap.size) w k)
   refine ⟨rfl, rfl, rfl, by simp [putRow, mapBlock, Sort.ahead], fun i hi' hn' => ?_⟩
   have e : ¬ g = i := by omega
   simp only [putRow, mapBlock, Array.getElem?_modify, if_neg e, Sort.ahead]
  generalize putRow (Value.int .i64) (Sort.ahead w k) g 0 (l.mergeSort fun x y => decide (x ≤ y)).toArray = W at hr2 hc1 ⊢
  have hF2 : Fr W lo hi 3 1 (some ⟨g, 0, none⟩) n c (i64s (l.mergeSort fun x y => decide (x ≤ y))) := by
   refine fr_of_rowcap (by rw [Nat.mul_one]; exact hr2) h1 h2 h3 h5 (by simp [i64s, hl]) fun j u hu => ?_
   have hj : j < (l.mergeSort fun x y => decide (x ≤ y)).length := by
    have := (List.getElem?_eq_some_iff.1 hu).1
    simpa [i64s] using this
   have hj2 : j < (l.mergeSort fun x y => decide (x ≤ y)).toArray.size := by simpa using hj
   rw [if_pos hj2]
   unfold i64s at hu
   obtain ⟨z, hz, rfl⟩ := map_get _ _ _ _ hu
   have hz2 : (l.mergeSort fun x y => decide (x ≤ y)).toArray[j]! = z := by
    simp only [List.getElem!_toArray, List.getElem!_eq_getElem?_getD, hz, Option.getD_some]
   rw [hz2]
  exact ⟨rfl, hF2.new (grow_below W os), hc1.trans (chg_of_new (grow_below W os))⟩
theorem compact_fr (l : List Int) (A : Option Addr) (n c lo hi : Nat) (w : World) (hn : n ≤ 1099511627776) (hF : Fr w lo hi 3 1 A n c (i64s l)) :
  Calls Tryz.prog 225 #[.slice A n c] w fun e w' => e = .returned (.slice A (compact l).length c) ∧ Fr w' lo hi 3 1 A (compact l).length c (i64s (compact l)) ∧ Chg lo hi w w' := by
 have hl : l.length = n := by have := hF.len; simpa [i64s] using this
 rcases Nat.eq_zero_or_pos n with h0 | h0
 ·
  subst h0
  have e : l = [] := List.eq_nil_of_length_eq_zero hl
  subst e
  refine (Tryz.slices_Compact_int_empty A c w).mono ?_
  rintro e w' ⟨rfl, rfl⟩
  exact ⟨rfl, hF, Chg.refl _ _ _⟩
 ·
  obtain ⟨g, cap, rfl, h1, h2, h3, rfl, h5, f, hr, hf⟩ := hF.row h0
  rw [Nat.mul_one] at hr
  have hH := holds_of_row hr hl h3 hf
  have hle : (compact l).length ≤ n := by
   have h := List.length_filter_le (keeps l.toArray) (List.range l.length)
   unfold compact compactUpTo
   rw [List.length_map]
   simp at h
   omega
  refine (show Calls Tryz.prog 225 #[.slice (some ⟨g, 0, none⟩) n c] w _ from by rw [← hl]; exact Tryz.slices_Compact_int g 0 c l w hH (by omega) (by omega)).mono ?_
  rintro e w' ⟨rfl, k, rfl⟩
  have hr2 := putRow_row (rowIs_ahead hr k) (compact l ++ List.replicate (l.length - (compact l).length) 0).toArray
  have hc1 : Chg lo hi w (putRow (Value.int .i64) (Sort.ahead w k) g 0 (compact l ++ List.replicate (l.length - (compact l).length) 0).toArray) := by
   refine ⟨rfl, rfl, rfl, by simp [putRow, mapBlock, Sort.ahead], fun i hi' hn' => ?_⟩
   have e : ¬ g = i := by omega
   simp only [putRow, mapBlock, Array.getElem?_modify, if_neg e, Sort.ahead]
  generalize putRow (Value.int .i64) (Sort.ahead w k) g 0 (compact l ++ List.replicate (l.length - (compact l).length) 0).toArray = W at hr2 hc1 ⊢
  have hF2 : Fr W lo hi 3 1 (some ⟨g, 0, none⟩) (compact l).length c (i64s (compact l)) := by
   refine fr_of_rowcap (by rw [Nat.mul_one]; exact hr2) h1 h2 (by omega) h5 (by simp [i64s]) fun j u hu => ?_
   have hj : j < (compact l).length := by
    have := (List.getElem?_eq_some_iff.1 hu).1
    simpa [i64s] using this
   have hj2 : j < (compact l ++ List.replicate (l.length - (compact l).length) 0).toArray.size := by simp; omega
   rw [if_pos hj2]
   unfold i64s at hu
   obtain ⟨z, hz, rfl⟩ := map_get _ _ _ _ hu
   have hz2 : (compact l ++ List.replicate (l.length - (compact l).length) 0).toArray[j]! = z := by
    simp only [List.getElem!_toArray, List.getElem!_eq_getElem?_getD, List.getElem?_append_left hj, hz, Option.getD_some]
   rw [hz2]
  exact ⟨rfl, hF2, hc1⟩
/-- The program's ascending, at a slice of the caller's own. -/
theorem ascending_any (l : List Int) (A : Option Addr) (n c lo hi : Nat) (w : World) (hn : n ≤ 1099511627776) (hF : Fr w lo hi 3 1 A n c (i64s l)) :
  Calls Tryz.prog 209 #[.slice A n c] w fun e w' => e = .returned (.slice A (mAsd l).length c) ∧ Fr w' lo hi 3 1 A (mAsd l).length c (i64s (mAsd l)) ∧ Chg lo hi w w' := by
 have HF := Lib.hid hF
 clear hF
 go_enter Tryz.func209, Tryz.ntmps209
 go_wp2_with fail
 refine (sort_fr l A n c lo hi w hn HF.out).mono ?_
 rintro e w1 ⟨rfl, h1, h2⟩
 have H1 := Lib.hid h1
 have C1 := Lib.hid h2
 clear h1 h2
 have CC := compact_fr (l.mergeSort fun x y => decide (x ≤ y)) A n c lo hi w1 hn H1.out
 rw [asc_compact l] at CC
 replace CC := Lib.hid CC
 go_wp2_with fail
 refine CC.out.mono ?_
 rintro e w2 ⟨rfl, h3, h4⟩
 have H3 := Lib.hid h3
 have C4 := Lib.hid (C1.out.trans h4)
 clear h3 h4
 go_wp2_with fail
 go_ret
 exact ⟨rfl, H3.out, C4.out⟩
end Go.Proofs.YtkedacmpmancbaaGreatDoor
namespace Go.Proofs.YtkedacmpmancbaaGreatDoor
open Go Go.ChangeShapes Go.WideShapes Go.ChangeAt Go.RowKit Go.Lib
set_option linter.unusedVariables false
set_option linter.unusedSimpArgs false
set_option maxRecDepth 100000
theorem rd_boxp {w : World} {g : Nat} {t : TypeId} {cs : Array Value} (h : BoxAt w g t cs) (n : Nat) (hn : cs.size = n) : Rd w g (g + 1) 1 (some ⟨g, 0, none⟩) n cs.toList :=
 ⟨by simpa using hn, fun _ => ⟨g, 0, rfl, Nat.le_refl _, by omega, fun j u hu => by rw [Nat.zero_add]; exact h.at_ (by simpa using hu)⟩⟩
theorem mPut_low {n : Int} : ∀ {l : List Int} {k : Nat}, (∀ x ∈ l.take k, x < n) → k ≤ l.length → mPut n l = l.take k ++ mPut n (l.drop k)
 | l, 0, _, _ => by simp
 | [], k + 1, _, h => by simp at h
 | x :: l, k + 1, h, hk => by
  have hx : x < n := h x (by simp)
  rw [List.take_succ_cons, List.drop_succ_cons, mPut, if_pos hx, mPut_low (l := l) (k := k) (fun y hy => h y (by simp [hy])) (by simpa using hk)]
  simp
theorem mPut_in {n : Int} {l : List Int} {k : Nat} (h : ∀ x ∈ l.take k, x < n) (hk : l[k]? = some n) : mPut n l = l := by
 have hlt := (List.getElem?_eq_some_iff.1 hk).1
 rw [mPut_low h (by omega), List.drop_eq_getElem_cons hlt]
 have e : l[k] = n := (List.getElem?_eq_some_iff.1 hk).2
 rw [e, mPut, if_neg (by omega), if_pos rfl, ← e, ← List.drop_eq_getElem_cons hlt, List.take_append_drop]
theorem mPut_new {n : Int} {l : List Int} {k : Nat} (h : ∀ x ∈ l.take k, x < n) (hk : k ≤ l.length) (hx : ∀ y, l[k]? = some y → n < y) : mPut n l = l.take k ++ [n] ++ l.drop k := by
 rw [mPut_low h hk]
 by_cases e : k < l.length
 ·
  have := hx _ (List.getElem?_eq_getElem e)
  rw [List.drop_eq_getElem_cons e, mPut, if_neg (by omega), if_neg (by omega)]
  simp
 ·
  rw [List.drop_eq_nil_of_le (by omega)]; simp [mPut]
theorem low_step {n z : Int} {l : List Int} {k : Nat} (h : ∀ x ∈ l.take k, x < n) (hz : l[k]? = some z) (hlt : z < n) : ∀ x ∈ l.take (k + 1), x < n := by
 intro x hx
 rw [List.take_add_one, hz] at hx
 rcases List.mem_append.1 hx with hx | hx
 ·
  exact h x hx
 ·
  simp at hx; omega
theorem rd_take {w : World} {lo hi n k : Nat} {A : Option Addr} {l : List Int} (h : Rd w lo hi 1 A n (i64s l)) (hk : k ≤ n) : Rd w lo hi 1 A k (i64s (l.take k)) := by
 have hl : l.length = n := by have := h.1; simpa [i64s] using this
 refine ⟨by simp [i64s]; omega, fun h0 => ?_⟩
 obtain ⟨b, off, e, h1, h2, hc⟩ := h.2 (by omega)
 refine ⟨b, off, e, h1, h2, fun j u hu => hc j u ?_⟩
 unfold i64s at hu ⊢
 rw [List.map_take, List.getElem?_take] at hu
 split at hu
 ·
  exact hu
 ·
  cases hu
theorem rd_drop {w : World} {lo hi n k : Nat} {b off : Nat} {l : List Int} (h : Rd w lo hi 1 (some ⟨b, off, none⟩) n (i64s l)) (hk : k ≤ n) : Rd w lo hi 1 (some ⟨b, off + k, none⟩) (n - k) (i64s (l.drop k)) := by
 have hl : l.length = n := by have := h.1; simpa [i64s] using this
 refine ⟨by simp [i64s]; omega, fun h0 => ?_⟩
 obtain ⟨b', off', e, h1, h2, hc⟩ := h.2 (by omega)
 injection e with e; injection e with e1 e2; subst e1; subst e2
 refine ⟨_, _, rfl, h1, h2, fun j u hu => ?_⟩
 rw [Nat.add_assoc]
 refine hc (k + j) u ?_
 unfold i64s at hu ⊢
 rw [List.map_drop, List.getElem?_drop] at hu
 exact hu
set_option maxHeartbeats 8000000 in
theorem spec_l6Put (l : List Int) (A : Option Addr) (n c lo hi : Nat) (a : Int) (w : World) (hn : n ≤ 1099511627000) (hr : Rd w lo hi 1 A n (i64s l)) (hcap : n ≤ c) :
  Calls Tryz.prog 172 #[.slice A n c, .int .i64 a] w (Makes 3 1 (mPut a l).length (i64s (mPut a l)) w) := by
 have HL := Lib.hid (show l.length = n by have := hr.1; simpa [i64s] using this)
 have HR := Lib.hid hr
 have HC := Lib.hid hcap
 have fin : ∀ k, k ≤ n → (∀ x ∈ l.take k, x < a) → (∀ y, l[k]? = some y → a < y) → True := fun _ _ _ _ => trivial
 clear hr hcap fin
 go_enter Tryz.func172, Tryz.ntmps172
 go_wp2_with fail
 go_loopg [5] n (fun gg i wr => ∃ k : Nat, k ≤ n ∧ n - k ≤ gg ∧ i = .int .i64 k ∧ w = wr ∧ Hid (∀ x ∈ l.take k, x < a))
 case atStart => exact ⟨0, Nat.zero_le _, by omega, rfl, rfl, Lib.hid (fun x hx => by simp at hx)⟩
 case round =>
  obtain ⟨k, hk, hg, rfl, rfl, HM⟩ := hrel
  by_cases hlt : k < n
  ·
   obtain ⟨b, off, z, rfl, _, _, hz, hc⟩ := rd_int HR.out hlt
   by_cases hza : z < a
   ·
    have HM1 := Lib.hid (low_step HM.out hz hza)
    clear hz
    go_wp2_with fail
    go_roundg (n - (k + 1))
    case rel => exact ⟨k + 1, by omega, by omega, by go_num, rfl, HM1⟩
    case measure => omega
   ·
    by_cases hzb : z = a
    ·
     subst hzb
     have HE := Lib.hid (mPut_in HM.out hz)
     clear hza
     go_wp2_with (at_builtin; refine wp_app rfl _ _ _ rfl w.heap.size 3 (.int .i64 0) 1 8 Tryz.underlying116 info_int rfl (by decide) _ _ _ rfl (World.ownsRow_lit w #[] 0 (Nat.le_refl _) (by unfold maxLen; omega) rfl) lo hi _ n c (i64s l) rfl (HR.out.alloc _) (ints_oneCell _ _) (by unfold maxLen; omega) (by omega) (by simp) ?_; intro v1 w1 ho1 hb1 _ _)
     go_ret
     have HB := Lib.hid (((Below.refl w.heap.size w).alloc (Nat.le_refl _) _).trans hb1)
     exact makes_of_own (by rw [HE.out, HL.out]; simpa using ho1) HB.out
    ·
     have HE := Lib.hid (mPut_new HM.out (by have := HL.out; omega) (fun y hy => by rw [hz] at hy; injection hy with hy; omega))
     have HT := Lib.hid (rd_take HR.out (show k ≤ n by omega))
     have HD := Lib.hid (rd_drop HR.out (show k ≤ n by omega))
     have hkc : k ≤ c := by have := HC.out; omega
     have hck : ¬ c = k := by have := HC.out; omega
     clear hz
     go_wp2_with fail
     refine wp_region_held_drew (S := fun w' => Below w.heap.size w w') (by kernel_rfl) ?_ (fun hHeld => ?_)
     ·
      exact (Below.refl w.heap.size w).drew
     generalize (World.drew _) = x0 at hHeld ⊢
     refine tz 1 36 hHeld ?_; try simp only [ptl]
     refine tz 2 37 hHeld ?_; try simp only [ptl]
     refine tz 3 38 hHeld ?_; try simp only [ptl]
     refine tz 5 40 hHeld ?_; try simp only [ptl]
     refine tz 8 43 hHeld ?_; try simp only [ptl]
     refine tz 9 44 hHeld ?_; try simp only [ptl]
     refine tz 10 45 hHeld ?_; try simp only [ptl]
     refine wpAnyH_ready (rs := [0, 6]) (by kernel_rfl) (by simp) ?_
     refine AllReadyH.cons (o := ⟨some 35, _, _, _, _, _⟩) rfl (fun K hK => ?_) ?_
     ·
      go_simp
      have Gb0 := box_new (x0) 3 #[]
      have hb1 := (Below.refl (x0).heap.size (x0)).alloc (Nat.le_refl _) (.cells #[] 3)
      have Lb0 : w.heap.size ≤ (x0).heap.size := by have := (hHeld).size; omega
      generalize (x0).alloc (.cells #[] 3) = x1 at hb1 Gb0  ⊢
      generalize hg : (x0).heap.size = gb0 at Gb0 Lb0  ⊢
      clear hg
      refine hK.out _ _ (below_trans hHeld hb1 (Nat.le_refl _)) (fun hHeld' => ?_)
      clear hK K hHeld hb1; have hHeld := hHeld'; clear hHeld'
      try simp only [ptl]
      refine wpAnyH_ready (rs := [4, 6]) (by kernel_rfl) (by simp) ?_
      refine AllReadyH.cons (o := ⟨some 39, _, _, _, _, _⟩) rfl (fun K hK => ?_) ?_
      ·
       refine step_appo rfl _ _ _ (by rfl) w.heap.size 3 (.int .i64 0) 1 8 Tryz.underlying116 info_int rfl (by decide) (.slice (some ⟨gb0, 0, none⟩) 0 0) (by rfl) (0) ([]) (own_of_box Gb0 (by have := Lb0; omega)) lo hi (some ⟨b, off, none⟩) k c (i64s (l.take k)) (by rfl) (HT.out.new hHeld) (ints_oneCell _ _) (by unfold maxLen; omega) (by omega) (by have := (hHeld).size; omega) ?_
       intro Vp1 x2 hO hb0 hgr
       have hsz0 := hb0.size
       clear Gb0
       have OWp1 := hO
       have hb1 := hb0.mono (show w.heap.size ≤ w.heap.size by omega)
       refine hK.out _ _ ((hHeld).trans hb1) (fun hHeld' => ?_)
       clear hK K hHeld hb1 hb0 hgr hO; have hHeld := hHeld'; clear hHeld'
       try simp only [ptl]
       refine rd1 (i := 6) (o := ⟨some 41, _, _, _, _, _⟩) rfl (fun K hK => ?_)
       go_simp
       have Gb6 := box_new (x2) 3 #[.int .i64 a]
       have hb1 := (Below.refl (x2).heap.size (x2)).alloc (Nat.le_refl _) (.cells #[.int .i64 a] 3)
       have Lb6 : w.heap.size ≤ (x2).heap.size := by have := (hHeld).size; omega
       replace OWp1 := own_newer OWp1 hb1
       generalize (x2).alloc (.cells #[.int .i64 a] 3) = x3 at hb1 Gb6 OWp1 ⊢
       generalize hg : (x2).heap.size = gb6 at Gb6 Lb6  ⊢
       clear hg
       refine hK.out _ _ (below_trans hHeld hb1 (Nat.le_refl _)) (fun hHeld' => ?_)
       clear hK K hHeld hb1; have hHeld := hHeld'; clear hHeld'
       try simp only [ptl]
       refine rd1 (i := 7) (o := ⟨some 42, _, _, _, _, _⟩) rfl (fun K hK => ?_)
       refine step_appo rfl _ _ _ (by rfl) w.heap.size 3 (.int .i64 0) 1 8 Tryz.underlying116 info_int rfl (by decide) Vp1 (by rfl) ((0 + k)) (([] ++ i64s (l.take k))) OWp1 gb6 (gb6 + 1) (some ⟨gb6, 0, none⟩) 1 1 (#[Value.int .i64 a]).toList (by rfl) (rd_boxp Gb6 1 rfl) (one_int a) (by unfold maxLen; omega) (by omega) (by have := (hHeld).size; omega) ?_
       intro Vp2 x4 hO hb0 hgr
       have hsz0 := hb0.size
       clear Gb6
       have OWp2 := hO
       have hb1 := hb0.mono (show w.heap.size ≤ w.heap.size by omega)
       refine hK.out _ _ ((hHeld).trans hb1) (fun hHeld' => ?_)
       clear hK K hHeld hb1 hb0 hgr hO; have hHeld := hHeld'; clear hHeld'
       try simp only [ptl]
       refine rd1 (i := 11) (o := ⟨some 46, _, _, _, _, _⟩) rfl (fun K hK => ?_)
       refine step_appo rfl _ _ _ (by rfl) w.heap.size 3 (.int .i64 0) 1 8 Tryz.underlying116 info_int rfl (by decide) Vp2 (by rfl) ((0 + k + 1)) (([] ++ i64s (l.take k) ++ (#[Value.int .i64 a]).toList)) OWp2 lo hi _ (n - k) _ (i64s (l.drop k)) (by rfl) (HD.out.new hHeld) (ints_oneCell _ _) (by unfold maxLen; omega) (by omega) (by have := (hHeld).size; omega) ?_
       intro Vp3 x5 hO hb0 hgr
       have hsz0 := hb0.size
       have OWp3 := hO
       have hb1 := hb0.mono (show w.heap.size ≤ w.heap.size by omega)
       refine hK.out _ _ ((hHeld).trans hb1) (fun hHeld' => ?_)
       clear hK K hHeld hb1 hb0 hgr hO; have hHeld := hHeld'; clear hHeld'
       try simp only [ptl]
       refine tz 12 4 hHeld ?_; try simp only [ptl]
       refine wpAnyH_done (by kernel_rfl) ?_ _
       go_wp2_with fail
       go_ret
       have hO := OWp3
       have e1 : 0 + k + 1 + (n - k) = (l.take k ++ [a] ++ l.drop k).length := by have := HL.out; simp; omega
       have hdn : l.drop n = [] := List.drop_eq_nil_of_le (by have := HL.out; omega)
       have e2 : ([] ++ i64s (l.take k) ++ (#[Value.int .i64 a]).toList ++ i64s (l.drop k)) = i64s (l.take k ++ [a] ++ l.drop k) := by simp [i64s, hdn]
       rw [e1, e2, ← HE.out] at hO
       exact makes_of_own hO hHeld
      refine AllReadyH.cons (o := ⟨some 41, _, _, _, _, _⟩) rfl (fun K hK => ?_) ?_
      ·
       go_simp
       have Gb6 := box_new (x1) 3 #[.int .i64 a]
       have hb1 := (Below.refl (x1).heap.size (x1)).alloc (Nat.le_refl _) (.cells #[.int .i64 a] 3)
       have Lb6 : w.heap.size ≤ (x1).heap.size := by have := (hHeld).size; omega
       have Nb0b6 : gb0 < (x1).heap.size := Gb0.lt
       replace Gb0 := Gb0.new hb1
       generalize (x1).alloc (.cells #[.int .i64 a] 3) = x2 at hb1 Gb6 Gb0 ⊢
       generalize hg : (x1).heap.size = gb6 at Gb6 Lb6 Nb0b6 ⊢
       clear hg
       refine hK.out _ _ (below_trans hHeld hb1 (Nat.le_refl _)) (fun hHeld' => ?_)
       clear hK K hHeld hb1; have hHeld := hHeld'; clear hHeld'
       try simp only [ptl]
       refine rd1 (i := 4) (o := ⟨some 39, _, _, _, _, _⟩) rfl (fun K hK => ?_)
       refine step_appo rfl _ _ _ (by rfl) w.heap.size 3 (.int .i64 0) 1 8 Tryz.underlying116 info_int rfl (by decide) (.slice (some ⟨gb0, 0, none⟩) 0 0) (by rfl) (0) ([]) (own_of_box Gb0 (by have := Lb0; omega)) lo hi (some ⟨b, off, none⟩) k c (i64s (l.take k)) (by rfl) (HT.out.new hHeld) (ints_oneCell _ _) (by unfold maxLen; omega) (by omega) (by have := (hHeld).size; omega) ?_
       intro Vp1 x3 hO hb0 hgr
       have hsz0 := hb0.size
       clear Gb0
       replace Gb6 := Gb6.grown (r := gb0) hgr (by omega)
       have OWp1 := hO
       have hb1 := hb0.mono (show w.heap.size ≤ w.heap.size by omega)
       refine hK.out _ _ ((hHeld).trans hb1) (fun hHeld' => ?_)
       clear hK K hHeld hb1 hb0 hgr hO; have hHeld := hHeld'; clear hHeld'
       try simp only [ptl]
       refine rd1 (i := 7) (o := ⟨some 42, _, _, _, _, _⟩) rfl (fun K hK => ?_)
       refine step_appo rfl _ _ _ (by rfl) w.heap.size 3 (.int .i64 0) 1 8 Tryz.underlying116 info_int rfl (by decide) Vp1 (by rfl) ((0 + k)) (([] ++ i64s (l.take k))) OWp1 gb6 (gb6 + 1) (some ⟨gb6, 0, none⟩) 1 1 (#[Value.int .i64 a]).toList (by rfl) (rd_boxp Gb6 1 rfl) (one_int a) (by unfold maxLen; omega) (by omega) (by have := (hHeld).size; omega) ?_
       intro Vp2 x4 hO hb0 hgr
       have hsz0 := hb0.size
       clear Gb6
       have OWp2 := hO
       have hb1 := hb0.mono (show w.heap.size ≤ w.heap.size by omega)
       refine hK.out _ _ ((hHeld).trans hb1) (fun hHeld' => ?_)
       clear hK K hHeld hb1 hb0 hgr hO; have hHeld := hHeld'; clear hHeld'
       try simp only [ptl]
       refine rd1 (i := 11) (o := ⟨some 46, _, _, _, _, _⟩) rfl (fun K hK => ?_)
       refine step_appo rfl _ _ _ (by rfl) w.heap.size 3 (.int .i64 0) 1 8 Tryz.underlying116 info_int rfl (by decide) Vp2 (by rfl) ((0 + k + 1)) (([] ++ i64s (l.take k) ++ (#[Value.int .i64 a]).toList)) OWp2 lo hi _ (n - k) _ (i64s (l.drop k)) (by rfl) (HD.out.new hHeld) (ints_oneCell _ _) (by unfold maxLen; omega) (by omega) (by have := (hHeld).size; omega) ?_
       intro Vp3 x5 hO hb0 hgr
       have hsz0 := hb0.size
       have OWp3 := hO
       have hb1 := hb0.mono (show w.heap.size ≤ w.heap.size by omega)
       refine hK.out _ _ ((hHeld).trans hb1) (fun hHeld' => ?_)
       clear hK K hHeld hb1 hb0 hgr hO; have hHeld := hHeld'; clear hHeld'
       try simp only [ptl]
       refine tz 12 4 hHeld ?_; try simp only [ptl]
       refine wpAnyH_done (by kernel_rfl) ?_ _
       go_wp2_with fail
       go_ret
       have hO := OWp3
       have e1 : 0 + k + 1 + (n - k) = (l.take k ++ [a] ++ l.drop k).length := by have := HL.out; simp; omega
       have hdn : l.drop n = [] := List.drop_eq_nil_of_le (by have := HL.out; omega)
       have e2 : ([] ++ i64s (l.take k) ++ (#[Value.int .i64 a]).toList ++ i64s (l.drop k)) = i64s (l.take k ++ [a] ++ l.drop k) := by simp [i64s, hdn]
       rw [e1, e2, ← HE.out] at hO
       exact makes_of_own hO hHeld
      exact AllReadyH.nil
     refine AllReadyH.cons (o := ⟨some 41, _, _, _, _, _⟩) rfl (fun K hK => ?_) ?_
     ·
      go_simp
      have Gb6 := box_new (x0) 3 #[.int .i64 a]
      have hb1 := (Below.refl (x0).heap.size (x0)).alloc (Nat.le_refl _) (.cells #[.int .i64 a] 3)
      have Lb6 : w.heap.size ≤ (x0).heap.size := by have := (hHeld).size; omega
      generalize (x0).alloc (.cells #[.int .i64 a] 3) = x1 at hb1 Gb6  ⊢
      generalize hg : (x0).heap.size = gb6 at Gb6 Lb6  ⊢
      clear hg
      refine hK.out _ _ (below_trans hHeld hb1 (Nat.le_refl _)) (fun hHeld' => ?_)
      clear hK K hHeld hb1; have hHeld := hHeld'; clear hHeld'
      try simp only [ptl]
      refine rd1 (i := 0) (o := ⟨some 35, _, _, _, _, _⟩) rfl (fun K hK => ?_)
      go_simp
      have Gb0 := box_new (x1) 3 #[]
      have hb1 := (Below.refl (x1).heap.size (x1)).alloc (Nat.le_refl _) (.cells #[] 3)
      have Lb0 : w.heap.size ≤ (x1).heap.size := by have := (hHeld).size; omega
      have Nb6b0 : gb6 < (x1).heap.size := Gb6.lt
      replace Gb6 := Gb6.new hb1
      generalize (x1).alloc (.cells #[] 3) = x2 at hb1 Gb0 Gb6 ⊢
      generalize hg : (x1).heap.size = gb0 at Gb0 Lb0 Nb6b0 ⊢
      clear hg
      refine hK.out _ _ (below_trans hHeld hb1 (Nat.le_refl _)) (fun hHeld' => ?_)
      clear hK K hHeld hb1; have hHeld := hHeld'; clear hHeld'
      try simp only [ptl]
      refine rd1 (i := 4) (o := ⟨some 39, _, _, _, _, _⟩) rfl (fun K hK => ?_)
      refine step_appo rfl _ _ _ (by rfl) w.heap.size 3 (.int .i64 0) 1 8 Tryz.underlying116 info_int rfl (by decide) (.slice (some ⟨gb0, 0, none⟩) 0 0) (by rfl) (0) ([]) (own_of_box Gb0 (by have := Lb0; omega)) lo hi (some ⟨b, off, none⟩) k c (i64s (l.take k)) (by rfl) (HT.out.new hHeld) (ints_oneCell _ _) (by unfold maxLen; omega) (by omega) (by have := (hHeld).size; omega) ?_
      intro Vp1 x3 hO hb0 hgr
      have hsz0 := hb0.size
      replace Gb6 := Gb6.grown (r := gb0) hgr (by omega)
      clear Gb0
      have OWp1 := hO
      have hb1 := hb0.mono (show w.heap.size ≤ w.heap.size by omega)
      refine hK.out _ _ ((hHeld).trans hb1) (fun hHeld' => ?_)
      clear hK K hHeld hb1 hb0 hgr hO; have hHeld := hHeld'; clear hHeld'
      try simp only [ptl]
      refine rd1 (i := 7) (o := ⟨some 42, _, _, _, _, _⟩) rfl (fun K hK => ?_)
      refine step_appo rfl _ _ _ (by rfl) w.heap.size 3 (.int .i64 0) 1 8 Tryz.underlying116 info_int rfl (by decide) Vp1 (by rfl) ((0 + k)) (([] ++ i64s (l.take k))) OWp1 gb6 (gb6 + 1) (some ⟨gb6, 0, none⟩) 1 1 (#[Value.int .i64 a]).toList (by rfl) (rd_boxp Gb6 1 rfl) (one_int a) (by unfold maxLen; omega) (by omega) (by have := (hHeld).size; omega) ?_
      intro Vp2 x4 hO hb0 hgr
      have hsz0 := hb0.size
      clear Gb6
      have OWp2 := hO
      have hb1 := hb0.mono (show w.heap.size ≤ w.heap.size by omega)
      refine hK.out _ _ ((hHeld).trans hb1) (fun hHeld' => ?_)
      clear hK K hHeld hb1 hb0 hgr hO; have hHeld := hHeld'; clear hHeld'
      try simp only [ptl]
      refine rd1 (i := 11) (o := ⟨some 46, _, _, _, _, _⟩) rfl (fun K hK => ?_)
      refine step_appo rfl _ _ _ (by rfl) w.heap.size 3 (.int .i64 0) 1 8 Tryz.underlying116 info_int rfl (by decide) Vp2 (by rfl) ((0 + k + 1)) (([] ++ i64s (l.take k) ++ (#[Value.int .i64 a]).toList)) OWp2 lo hi _ (n - k) _ (i64s (l.drop k)) (by rfl) (HD.out.new hHeld) (ints_oneCell _ _) (by unfold maxLen; omega) (by omega) (by have := (hHeld).size; omega) ?_
      intro Vp3 x5 hO hb0 hgr
      have hsz0 := hb0.size
      have OWp3 := hO
      have hb1 := hb0.mono (show w.heap.size ≤ w.heap.size by omega)
      refine hK.out _ _ ((hHeld).trans hb1) (fun hHeld' => ?_)
      clear hK K hHeld hb1 hb0 hgr hO; have hHeld := hHeld'; clear hHeld'
      try simp only [ptl]
      refine tz 12 4 hHeld ?_; try simp only [ptl]
      refine wpAnyH_done (by kernel_rfl) ?_ _
      go_wp2_with fail
      go_ret
      have hO := OWp3
      have e1 : 0 + k + 1 + (n - k) = (l.take k ++ [a] ++ l.drop k).length := by have := HL.out; simp; omega
      have hdn : l.drop n = [] := List.drop_eq_nil_of_le (by have := HL.out; omega)
      have e2 : ([] ++ i64s (l.take k) ++ (#[Value.int .i64 a]).toList ++ i64s (l.drop k)) = i64s (l.take k ++ [a] ++ l.drop k) := by simp [i64s, hdn]
      rw [e1, e2, ← HE.out] at hO
      exact makes_of_own hO hHeld
     exact AllReadyH.nil
  ·
   obtain rfl : n = k := by omega
   have HE := Lib.hid (mPut_new HM.out (by have := HL.out; omega) (fun y hy => by have := (List.getElem?_eq_some_iff.1 hy).1; have := HL.out; omega))
   have HT := Lib.hid (rd_take HR.out (Nat.le_refl n))
   have hkc : n ≤ c := HC.out
   by_cases hcn : c = n
   ·
    obtain rfl : n = c := hcn.symm
    go_wp2_with fail
    refine wp_region_held_drew (S := fun w' => Below w.heap.size w w') (by kernel_rfl) ?_ (fun hHeld => ?_)
    ·
     exact (Below.refl w.heap.size w).drew
    generalize (World.drew _) = x0 at hHeld ⊢
    refine tz 1 36 hHeld ?_; try simp only [ptl]
    refine tz 2 37 hHeld ?_; try simp only [ptl]
    refine tz 3 38 hHeld ?_; try simp only [ptl]
    refine tz 5 40 hHeld ?_; try simp only [ptl]
    refine tz 8 43 hHeld ?_; try simp only [ptl]
    refine tz 9 44 hHeld ?_; try simp only [ptl]
    refine tz 10 45 hHeld ?_; try simp only [ptl]
    refine wpAnyH_ready (rs := [0, 6]) (by kernel_rfl) (by simp) ?_
    refine AllReadyH.cons (o := ⟨some 35, _, _, _, _, _⟩) rfl (fun K hK => ?_) ?_
    ·
     go_simp
     have Gb0 := box_new (x0) 3 #[]
     have hb1 := (Below.refl (x0).heap.size (x0)).alloc (Nat.le_refl _) (.cells #[] 3)
     have Lb0 : w.heap.size ≤ (x0).heap.size := by have := (hHeld).size; omega
     generalize (x0).alloc (.cells #[] 3) = x1 at hb1 Gb0  ⊢
     generalize hg : (x0).heap.size = gb0 at Gb0 Lb0  ⊢
     clear hg
     refine hK.out _ _ (below_trans hHeld hb1 (Nat.le_refl _)) (fun hHeld' => ?_)
     clear hK K hHeld hb1; have hHeld := hHeld'; clear hHeld'
     try simp only [ptl]
     refine wpAnyH_ready (rs := [4, 6]) (by kernel_rfl) (by simp) ?_
     refine AllReadyH.cons (o := ⟨some 39, _, _, _, _, _⟩) rfl (fun K hK => ?_) ?_
     ·
      refine step_appo rfl _ _ _ (by rfl) w.heap.size 3 (.int .i64 0) 1 8 Tryz.underlying116 info_int rfl (by decide) (.slice (some ⟨gb0, 0, none⟩) 0 0) (by rfl) (0) ([]) (own_of_box Gb0 (by have := Lb0; omega)) lo hi A n n (i64s (l.take n)) (by rfl) (HT.out.new hHeld) (ints_oneCell _ _) (by unfold maxLen; omega) (by omega) (by have := (hHeld).size; omega) ?_
      intro Vp1 x2 hO hb0 hgr
      have hsz0 := hb0.size
      clear Gb0
      have OWp1 := hO
      have hb1 := hb0.mono (show w.heap.size ≤ w.heap.size by omega)
      refine hK.out _ _ ((hHeld).trans hb1) (fun hHeld' => ?_)
      clear hK K hHeld hb1 hb0 hgr hO; have hHeld := hHeld'; clear hHeld'
      try simp only [ptl]
      refine rd1 (i := 6) (o := ⟨some 41, _, _, _, _, _⟩) rfl (fun K hK => ?_)
      go_simp
      have Gb6 := box_new (x2) 3 #[.int .i64 a]
      have hb1 := (Below.refl (x2).heap.size (x2)).alloc (Nat.le_refl _) (.cells #[.int .i64 a] 3)
      have Lb6 : w.heap.size ≤ (x2).heap.size := by have := (hHeld).size; omega
      replace OWp1 := own_newer OWp1 hb1
      generalize (x2).alloc (.cells #[.int .i64 a] 3) = x3 at hb1 Gb6 OWp1 ⊢
      generalize hg : (x2).heap.size = gb6 at Gb6 Lb6  ⊢
      clear hg
      refine hK.out _ _ (below_trans hHeld hb1 (Nat.le_refl _)) (fun hHeld' => ?_)
      clear hK K hHeld hb1; have hHeld := hHeld'; clear hHeld'
      try simp only [ptl]
      refine rd1 (i := 7) (o := ⟨some 42, _, _, _, _, _⟩) rfl (fun K hK => ?_)
      refine step_appo rfl _ _ _ (by rfl) w.heap.size 3 (.int .i64 0) 1 8 Tryz.underlying116 info_int rfl (by decide) Vp1 (by rfl) ((0 + n)) (([] ++ i64s (l.take n))) OWp1 gb6 (gb6 + 1) (some ⟨gb6, 0, none⟩) 1 1 (#[Value.int .i64 a]).toList (by rfl) (rd_boxp Gb6 1 rfl) (one_int a) (by unfold maxLen; omega) (by omega) (by have := (hHeld).size; omega) ?_
      intro Vp2 x4 hO hb0 hgr
      have hsz0 := hb0.size
      clear Gb6
      have OWp2 := hO
      have hb1 := hb0.mono (show w.heap.size ≤ w.heap.size by omega)
      refine hK.out _ _ ((hHeld).trans hb1) (fun hHeld' => ?_)
      clear hK K hHeld hb1 hb0 hgr hO; have hHeld := hHeld'; clear hHeld'
      try simp only [ptl]
      refine rd1 (i := 11) (o := ⟨some 46, _, _, _, _, _⟩) rfl (fun K hK => ?_)
      refine step_appo rfl _ _ _ (by rfl) w.heap.size 3 (.int .i64 0) 1 8 Tryz.underlying116 info_int rfl (by decide) Vp2 (by rfl) ((0 + n + 1)) (([] ++ i64s (l.take n) ++ (#[Value.int .i64 a]).toList)) OWp2 0 0 _ 0 _ [] (by rfl) (Rd.empty) (fun u hu => by cases hu) (by unfold maxLen; omega) (by omega) (by have := (hHeld).size; omega) ?_
      intro Vp3 x5 hO hb0 hgr
      have hsz0 := hb0.size
      have OWp3 := hO
      have hb1 := hb0.mono (show w.heap.size ≤ w.heap.size by omega)
      refine hK.out _ _ ((hHeld).trans hb1) (fun hHeld' => ?_)
      clear hK K hHeld hb1 hb0 hgr hO; have hHeld := hHeld'; clear hHeld'
      try simp only [ptl]
      refine tz 12 4 hHeld ?_; try simp only [ptl]
      refine wpAnyH_done (by kernel_rfl) ?_ _
      go_wp2_with fail
      go_ret
      have hO := OWp3
      have e1 : 0 + n + 1 + 0 = (l.take n ++ [a] ++ l.drop n).length := by have := HL.out; simp; omega
      have hdn : l.drop n = [] := List.drop_eq_nil_of_le (by have := HL.out; omega)
      have e2 : ([] ++ i64s (l.take n) ++ (#[Value.int .i64 a]).toList ++ []) = i64s (l.take n ++ [a] ++ l.drop n) := by simp [i64s, hdn]
      rw [e1, e2, ← HE.out] at hO
      exact makes_of_own hO hHeld
     refine AllReadyH.cons (o := ⟨some 41, _, _, _, _, _⟩) rfl (fun K hK => ?_) ?_
     ·
      go_simp
      have Gb6 := box_new (x1) 3 #[.int .i64 a]
      have hb1 := (Below.refl (x1).heap.size (x1)).alloc (Nat.le_refl _) (.cells #[.int .i64 a] 3)
      have Lb6 : w.heap.size ≤ (x1).heap.size := by have := (hHeld).size; omega
      have Nb0b6 : gb0 < (x1).heap.size := Gb0.lt
      replace Gb0 := Gb0.new hb1
      generalize (x1).alloc (.cells #[.int .i64 a] 3) = x2 at hb1 Gb6 Gb0 ⊢
      generalize hg : (x1).heap.size = gb6 at Gb6 Lb6 Nb0b6 ⊢
      clear hg
      refine hK.out _ _ (below_trans hHeld hb1 (Nat.le_refl _)) (fun hHeld' => ?_)
      clear hK K hHeld hb1; have hHeld := hHeld'; clear hHeld'
      try simp only [ptl]
      refine rd1 (i := 4) (o := ⟨some 39, _, _, _, _, _⟩) rfl (fun K hK => ?_)
      refine step_appo rfl _ _ _ (by rfl) w.heap.size 3 (.int .i64 0) 1 8 Tryz.underlying116 info_int rfl (by decide) (.slice (some ⟨gb0, 0, none⟩) 0 0) (by rfl) (0) ([]) (own_of_box Gb0 (by have := Lb0; omega)) lo hi A n n (i64s (l.take n)) (by rfl) (HT.out.new hHeld) (ints_oneCell _ _) (by unfold maxLen; omega) (by omega) (by have := (hHeld).size; omega) ?_
      intro Vp1 x3 hO hb0 hgr
      have hsz0 := hb0.size
      clear Gb0
      replace Gb6 := Gb6.grown (r := gb0) hgr (by omega)
      have OWp1 := hO
      have hb1 := hb0.mono (show w.heap.size ≤ w.heap.size by omega)
      refine hK.out _ _ ((hHeld).trans hb1) (fun hHeld' => ?_)
      clear hK K hHeld hb1 hb0 hgr hO; have hHeld := hHeld'; clear hHeld'
      try simp only [ptl]
      refine rd1 (i := 7) (o := ⟨some 42, _, _, _, _, _⟩) rfl (fun K hK => ?_)
      refine step_appo rfl _ _ _ (by rfl) w.heap.size 3 (.int .i64 0) 1 8 Tryz.underlying116 info_int rfl (by decide) Vp1 (by rfl) ((0 + n)) (([] ++ i64s (l.take n))) OWp1 gb6 (gb6 + 1) (some ⟨gb6, 0, none⟩) 1 1 (#[Value.int .i64 a]).toList (by rfl) (rd_boxp Gb6 1 rfl) (one_int a) (by unfold maxLen; omega) (by omega) (by have := (hHeld).size; omega) ?_
      intro Vp2 x4 hO hb0 hgr
      have hsz0 := hb0.size
      clear Gb6
      have OWp2 := hO
      have hb1 := hb0.mono (show w.heap.size ≤ w.heap.size by omega)
      refine hK.out _ _ ((hHeld).trans hb1) (fun hHeld' => ?_)
      clear hK K hHeld hb1 hb0 hgr hO; have hHeld := hHeld'; clear hHeld'
      try simp only [ptl]
      refine rd1 (i := 11) (o := ⟨some 46, _, _, _, _, _⟩) rfl (fun K hK => ?_)
      refine step_appo rfl _ _ _ (by rfl) w.heap.size 3 (.int .i64 0) 1 8 Tryz.underlying116 info_int rfl (by decide) Vp2 (by rfl) ((0 + n + 1)) (([] ++ i64s (l.take n) ++ (#[Value.int .i64 a]).toList)) OWp2 0 0 _ 0 _ [] (by rfl) (Rd.empty) (fun u hu => by cases hu) (by unfold maxLen; omega) (by omega) (by have := (hHeld).size; omega) ?_
      intro Vp3 x5 hO hb0 hgr
      have hsz0 := hb0.size
      have OWp3 := hO
      have hb1 := hb0.mono (show w.heap.size ≤ w.heap.size by omega)
      refine hK.out _ _ ((hHeld).trans hb1) (fun hHeld' => ?_)
      clear hK K hHeld hb1 hb0 hgr hO; have hHeld := hHeld'; clear hHeld'
      try simp only [ptl]
      refine tz 12 4 hHeld ?_; try simp only [ptl]
      refine wpAnyH_done (by kernel_rfl) ?_ _
      go_wp2_with fail
      go_ret
      have hO := OWp3
      have e1 : 0 + n + 1 + 0 = (l.take n ++ [a] ++ l.drop n).length := by have := HL.out; simp; omega
      have hdn : l.drop n = [] := List.drop_eq_nil_of_le (by have := HL.out; omega)
      have e2 : ([] ++ i64s (l.take n) ++ (#[Value.int .i64 a]).toList ++ []) = i64s (l.take n ++ [a] ++ l.drop n) := by simp [i64s, hdn]
      rw [e1, e2, ← HE.out] at hO
      exact makes_of_own hO hHeld
     exact AllReadyH.nil
    refine AllReadyH.cons (o := ⟨some 41, _, _, _, _, _⟩) rfl (fun K hK => ?_) ?_
    ·
     go_simp
     have Gb6 := box_new (x0) 3 #[.int .i64 a]
     have hb1 := (Below.refl (x0).heap.size (x0)).alloc (Nat.le_refl _) (.cells #[.int .i64 a] 3)
     have Lb6 : w.heap.size ≤ (x0).heap.size := by have := (hHeld).size; omega
     generalize (x0).alloc (.cells #[.int .i64 a] 3) = x1 at hb1 Gb6  ⊢
     generalize hg : (x0).heap.size = gb6 at Gb6 Lb6  ⊢
     clear hg
     refine hK.out _ _ (below_trans hHeld hb1 (Nat.le_refl _)) (fun hHeld' => ?_)
     clear hK K hHeld hb1; have hHeld := hHeld'; clear hHeld'
     try simp only [ptl]
     refine rd1 (i := 0) (o := ⟨some 35, _, _, _, _, _⟩) rfl (fun K hK => ?_)
     go_simp
     have Gb0 := box_new (x1) 3 #[]
     have hb1 := (Below.refl (x1).heap.size (x1)).alloc (Nat.le_refl _) (.cells #[] 3)
     have Lb0 : w.heap.size ≤ (x1).heap.size := by have := (hHeld).size; omega
     have Nb6b0 : gb6 < (x1).heap.size := Gb6.lt
     replace Gb6 := Gb6.new hb1
     generalize (x1).alloc (.cells #[] 3) = x2 at hb1 Gb0 Gb6 ⊢
     generalize hg : (x1).heap.size = gb0 at Gb0 Lb0 Nb6b0 ⊢
     clear hg
     refine hK.out _ _ (below_trans hHeld hb1 (Nat.le_refl _)) (fun hHeld' => ?_)
     clear hK K hHeld hb1; have hHeld := hHeld'; clear hHeld'
     try simp only [ptl]
     refine rd1 (i := 4) (o := ⟨some 39, _, _, _, _, _⟩) rfl (fun K hK => ?_)
     refine step_appo rfl _ _ _ (by rfl) w.heap.size 3 (.int .i64 0) 1 8 Tryz.underlying116 info_int rfl (by decide) (.slice (some ⟨gb0, 0, none⟩) 0 0) (by rfl) (0) ([]) (own_of_box Gb0 (by have := Lb0; omega)) lo hi A n n (i64s (l.take n)) (by rfl) (HT.out.new hHeld) (ints_oneCell _ _) (by unfold maxLen; omega) (by omega) (by have := (hHeld).size; omega) ?_
     intro Vp1 x3 hO hb0 hgr
     have hsz0 := hb0.size
     replace Gb6 := Gb6.grown (r := gb0) hgr (by omega)
     clear Gb0
     have OWp1 := hO
     have hb1 := hb0.mono (show w.heap.size ≤ w.heap.size by omega)
     refine hK.out _ _ ((hHeld).trans hb1) (fun hHeld' => ?_)
     clear hK K hHeld hb1 hb0 hgr hO; have hHeld := hHeld'; clear hHeld'
     try simp only [ptl]
     refine rd1 (i := 7) (o := ⟨some 42, _, _, _, _, _⟩) rfl (fun K hK => ?_)
     refine step_appo rfl _ _ _ (by rfl) w.heap.size 3 (.int .i64 0) 1 8 Tryz.underlying116 info_int rfl (by decide) Vp1 (by rfl) ((0 + n)) (([] ++ i64s (l.take n))) OWp1 gb6 (gb6 + 1) (some ⟨gb6, 0, none⟩) 1 1 (#[Value.int .i64 a]).toList (by rfl) (rd_boxp Gb6 1 rfl) (one_int a) (by unfold maxLen; omega) (by omega) (by have := (hHeld).size; omega) ?_
     intro Vp2 x4 hO hb0 hgr
     have hsz0 := hb0.size
     clear Gb6
     have OWp2 := hO
     have hb1 := hb0.mono (show w.heap.size ≤ w.heap.size by omega)
     refine hK.out _ _ ((hHeld).trans hb1) (fun hHeld' => ?_)
     clear hK K hHeld hb1 hb0 hgr hO; have hHeld := hHeld'; clear hHeld'
     try simp only [ptl]
     refine rd1 (i := 11) (o := ⟨some 46, _, _, _, _, _⟩) rfl (fun K hK => ?_)
     refine step_appo rfl _ _ _ (by rfl) w.heap.size 3 (.int .i64 0) 1 8 Tryz.underlying116 info_int rfl (by decide) Vp2 (by rfl) ((0 + n + 1)) (([] ++ i64s (l.take n) ++ (#[Value.int .i64 a]).toList)) OWp2 0 0 _ 0 _ [] (by rfl) (Rd.empty) (fun u hu => by cases hu) (by unfold maxLen; omega) (by omega) (by have := (hHeld).size; omega) ?_
     intro Vp3 x5 hO hb0 hgr
     have hsz0 := hb0.size
     have OWp3 := hO
     have hb1 := hb0.mono (show w.heap.size ≤ w.heap.size by omega)
     refine hK.out _ _ ((hHeld).trans hb1) (fun hHeld' => ?_)
     clear hK K hHeld hb1 hb0 hgr hO; have hHeld := hHeld'; clear hHeld'
     try simp only [ptl]
     refine tz 12 4 hHeld ?_; try simp only [ptl]
     refine wpAnyH_done (by kernel_rfl) ?_ _
     go_wp2_with fail
     go_ret
     have hO := OWp3
     have e1 : 0 + n + 1 + 0 = (l.take n ++ [a] ++ l.drop n).length := by have := HL.out; simp; omega
     have hdn : l.drop n = [] := List.drop_eq_nil_of_le (by have := HL.out; omega)
     have e2 : ([] ++ i64s (l.take n) ++ (#[Value.int .i64 a]).toList ++ []) = i64s (l.take n ++ [a] ++ l.drop n) := by simp [i64s, hdn]
     rw [e1, e2, ← HE.out] at hO
     exact makes_of_own hO hHeld
    exact AllReadyH.nil
   ·
    go_wp2_with fail
    refine wp_region_held_drew (S := fun w' => Below w.heap.size w w') (by kernel_rfl) ?_ (fun hHeld => ?_)
    ·
     exact (Below.refl w.heap.size w).drew
    generalize (World.drew _) = x0 at hHeld ⊢
    refine tz 1 36 hHeld ?_; try simp only [ptl]
    refine tz 2 37 hHeld ?_; try simp only [ptl]
    refine tz 3 38 hHeld ?_; try simp only [ptl]
    refine tz 5 40 hHeld ?_; try simp only [ptl]
    refine tz 8 43 hHeld ?_; try simp only [ptl]
    refine tz 9 44 hHeld ?_; try simp only [ptl]
    refine tz 10 45 hHeld ?_; try simp only [ptl]
    refine wpAnyH_ready (rs := [0, 6]) (by kernel_rfl) (by simp) ?_
    refine AllReadyH.cons (o := ⟨some 35, _, _, _, _, _⟩) rfl (fun K hK => ?_) ?_
    ·
     go_simp
     have Gb0 := box_new (x0) 3 #[]
     have hb1 := (Below.refl (x0).heap.size (x0)).alloc (Nat.le_refl _) (.cells #[] 3)
     have Lb0 : w.heap.size ≤ (x0).heap.size := by have := (hHeld).size; omega
     generalize (x0).alloc (.cells #[] 3) = x1 at hb1 Gb0  ⊢
     generalize hg : (x0).heap.size = gb0 at Gb0 Lb0  ⊢
     clear hg
     refine hK.out _ _ (below_trans hHeld hb1 (Nat.le_refl _)) (fun hHeld' => ?_)
     clear hK K hHeld hb1; have hHeld := hHeld'; clear hHeld'
     try simp only [ptl]
     refine wpAnyH_ready (rs := [4, 6]) (by kernel_rfl) (by simp) ?_
     refine AllReadyH.cons (o := ⟨some 39, _, _, _, _, _⟩) rfl (fun K hK => ?_) ?_
     ·
      refine step_appo rfl _ _ _ (by rfl) w.heap.size 3 (.int .i64 0) 1 8 Tryz.underlying116 info_int rfl (by decide) (.slice (some ⟨gb0, 0, none⟩) 0 0) (by rfl) (0) ([]) (own_of_box Gb0 (by have := Lb0; omega)) lo hi A n c (i64s (l.take n)) (by rfl) (HT.out.new hHeld) (ints_oneCell _ _) (by unfold maxLen; omega) (by omega) (by have := (hHeld).size; omega) ?_
      intro Vp1 x2 hO hb0 hgr
      have hsz0 := hb0.size
      clear Gb0
      have OWp1 := hO
      have hb1 := hb0.mono (show w.heap.size ≤ w.heap.size by omega)
      refine hK.out _ _ ((hHeld).trans hb1) (fun hHeld' => ?_)
      clear hK K hHeld hb1 hb0 hgr hO; have hHeld := hHeld'; clear hHeld'
      try simp only [ptl]
      refine rd1 (i := 6) (o := ⟨some 41, _, _, _, _, _⟩) rfl (fun K hK => ?_)
      go_simp
      have Gb6 := box_new (x2) 3 #[.int .i64 a]
      have hb1 := (Below.refl (x2).heap.size (x2)).alloc (Nat.le_refl _) (.cells #[.int .i64 a] 3)
      have Lb6 : w.heap.size ≤ (x2).heap.size := by have := (hHeld).size; omega
      replace OWp1 := own_newer OWp1 hb1
      generalize (x2).alloc (.cells #[.int .i64 a] 3) = x3 at hb1 Gb6 OWp1 ⊢
      generalize hg : (x2).heap.size = gb6 at Gb6 Lb6  ⊢
      clear hg
      refine hK.out _ _ (below_trans hHeld hb1 (Nat.le_refl _)) (fun hHeld' => ?_)
      clear hK K hHeld hb1; have hHeld := hHeld'; clear hHeld'
      try simp only [ptl]
      refine rd1 (i := 7) (o := ⟨some 42, _, _, _, _, _⟩) rfl (fun K hK => ?_)
      refine step_appo rfl _ _ _ (by rfl) w.heap.size 3 (.int .i64 0) 1 8 Tryz.underlying116 info_int rfl (by decide) Vp1 (by rfl) ((0 + n)) (([] ++ i64s (l.take n))) OWp1 gb6 (gb6 + 1) (some ⟨gb6, 0, none⟩) 1 1 (#[Value.int .i64 a]).toList (by rfl) (rd_boxp Gb6 1 rfl) (one_int a) (by unfold maxLen; omega) (by omega) (by have := (hHeld).size; omega) ?_
      intro Vp2 x4 hO hb0 hgr
      have hsz0 := hb0.size
      clear Gb6
      have OWp2 := hO
      have hb1 := hb0.mono (show w.heap.size ≤ w.heap.size by omega)
      refine hK.out _ _ ((hHeld).trans hb1) (fun hHeld' => ?_)
      clear hK K hHeld hb1 hb0 hgr hO; have hHeld := hHeld'; clear hHeld'
      try simp only [ptl]
      refine rd1 (i := 11) (o := ⟨some 46, _, _, _, _, _⟩) rfl (fun K hK => ?_)
      refine step_appo rfl _ _ _ (by rfl) w.heap.size 3 (.int .i64 0) 1 8 Tryz.underlying116 info_int rfl (by decide) Vp2 (by rfl) ((0 + n + 1)) (([] ++ i64s (l.take n) ++ (#[Value.int .i64 a]).toList)) OWp2 0 0 _ 0 _ [] (by rfl) (Rd.empty) (fun u hu => by cases hu) (by unfold maxLen; omega) (by omega) (by have := (hHeld).size; omega) ?_
      intro Vp3 x5 hO hb0 hgr
      have hsz0 := hb0.size
      have OWp3 := hO
      have hb1 := hb0.mono (show w.heap.size ≤ w.heap.size by omega)
      refine hK.out _ _ ((hHeld).trans hb1) (fun hHeld' => ?_)
      clear hK K hHeld hb1 hb0 hgr hO; have hHeld := hHeld'; clear hHeld'
      try simp only [ptl]
      refine tz 12 4 hHeld ?_; try simp only [ptl]
      refine wpAnyH_done (by kernel_rfl) ?_ _
      go_wp2_with fail
      go_ret
      have hO := OWp3
      have e1 : 0 + n + 1 + 0 = (l.take n ++ [a] ++ l.drop n).length := by have := HL.out; simp; omega
      have hdn : l.drop n = [] := List.drop_eq_nil_of_le (by have := HL.out; omega)
      have e2 : ([] ++ i64s (l.take n) ++ (#[Value.int .i64 a]).toList ++ []) = i64s (l.take n ++ [a] ++ l.drop n) := by simp [i64s, hdn]
      rw [e1, e2, ← HE.out] at hO
      exact makes_of_own hO hHeld
     refine AllReadyH.cons (o := ⟨some 41, _, _, _, _, _⟩) rfl (fun K hK => ?_) ?_
     ·
      go_simp
      have Gb6 := box_new (x1) 3 #[.int .i64 a]
      have hb1 := (Below.refl (x1).heap.size (x1)).alloc (Nat.le_refl _) (.cells #[.int .i64 a] 3)
      have Lb6 : w.heap.size ≤ (x1).heap.size := by have := (hHeld).size; omega
      have Nb0b6 : gb0 < (x1).heap.size := Gb0.lt
      replace Gb0 := Gb0.new hb1
      generalize (x1).alloc (.cells #[.int .i64 a] 3) = x2 at hb1 Gb6 Gb0 ⊢
      generalize hg : (x1).heap.size = gb6 at Gb6 Lb6 Nb0b6 ⊢
      clear hg
      refine hK.out _ _ (below_trans hHeld hb1 (Nat.le_refl _)) (fun hHeld' => ?_)
      clear hK K hHeld hb1; have hHeld := hHeld'; clear hHeld'
      try simp only [ptl]
      refine rd1 (i := 4) (o := ⟨some 39, _, _, _, _, _⟩) rfl (fun K hK => ?_)
      refine step_appo rfl _ _ _ (by rfl) w.heap.size 3 (.int .i64 0) 1 8 Tryz.underlying116 info_int rfl (by decide) (.slice (some ⟨gb0, 0, none⟩) 0 0) (by rfl) (0) ([]) (own_of_box Gb0 (by have := Lb0; omega)) lo hi A n c (i64s (l.take n)) (by rfl) (HT.out.new hHeld) (ints_oneCell _ _) (by unfold maxLen; omega) (by omega) (by have := (hHeld).size; omega) ?_
      intro Vp1 x3 hO hb0 hgr
      have hsz0 := hb0.size
      clear Gb0
      replace Gb6 := Gb6.grown (r := gb0) hgr (by omega)
      have OWp1 := hO
      have hb1 := hb0.mono (show w.heap.size ≤ w.heap.size by omega)
      refine hK.out _ _ ((hHeld).trans hb1) (fun hHeld' => ?_)
      clear hK K hHeld hb1 hb0 hgr hO; have hHeld := hHeld'; clear hHeld'
      try simp only [ptl]
      refine rd1 (i := 7) (o := ⟨some 42, _, _, _, _, _⟩) rfl (fun K hK => ?_)
      refine step_appo rfl _ _ _ (by rfl) w.heap.size 3 (.int .i64 0) 1 8 Tryz.underlying116 info_int rfl (by decide) Vp1 (by rfl) ((0 + n)) (([] ++ i64s (l.take n))) OWp1 gb6 (gb6 + 1) (some ⟨gb6, 0, none⟩) 1 1 (#[Value.int .i64 a]).toList (by rfl) (rd_boxp Gb6 1 rfl) (one_int a) (by unfold maxLen; omega) (by omega) (by have := (hHeld).size; omega) ?_
      intro Vp2 x4 hO hb0 hgr
      have hsz0 := hb0.size
      clear Gb6
      have OWp2 := hO
      have hb1 := hb0.mono (show w.heap.size ≤ w.heap.size by omega)
      refine hK.out _ _ ((hHeld).trans hb1) (fun hHeld' => ?_)
      clear hK K hHeld hb1 hb0 hgr hO; have hHeld := hHeld'; clear hHeld'
      try simp only [ptl]
      refine rd1 (i := 11) (o := ⟨some 46, _, _, _, _, _⟩) rfl (fun K hK => ?_)
      refine step_appo rfl _ _ _ (by rfl) w.heap.size 3 (.int .i64 0) 1 8 Tryz.underlying116 info_int rfl (by decide) Vp2 (by rfl) ((0 + n + 1)) (([] ++ i64s (l.take n) ++ (#[Value.int .i64 a]).toList)) OWp2 0 0 _ 0 _ [] (by rfl) (Rd.empty) (fun u hu => by cases hu) (by unfold maxLen; omega) (by omega) (by have := (hHeld).size; omega) ?_
      intro Vp3 x5 hO hb0 hgr
      have hsz0 := hb0.size
      have OWp3 := hO
      have hb1 := hb0.mono (show w.heap.size ≤ w.heap.size by omega)
      refine hK.out _ _ ((hHeld).trans hb1) (fun hHeld' => ?_)
      clear hK K hHeld hb1 hb0 hgr hO; have hHeld := hHeld'; clear hHeld'
      try simp only [ptl]
      refine tz 12 4 hHeld ?_; try simp only [ptl]
      refine wpAnyH_done (by kernel_rfl) ?_ _
      go_wp2_with fail
      go_ret
      have hO := OWp3
      have e1 : 0 + n + 1 + 0 = (l.take n ++ [a] ++ l.drop n).length := by have := HL.out; simp; omega
      have hdn : l.drop n = [] := List.drop_eq_nil_of_le (by have := HL.out; omega)
      have e2 : ([] ++ i64s (l.take n) ++ (#[Value.int .i64 a]).toList ++ []) = i64s (l.take n ++ [a] ++ l.drop n) := by simp [i64s, hdn]
      rw [e1, e2, ← HE.out] at hO
      exact makes_of_own hO hHeld
     exact AllReadyH.nil
    refine AllReadyH.cons (o := ⟨some 41, _, _, _, _, _⟩) rfl (fun K hK => ?_) ?_
    ·
     go_simp
     have Gb6 := box_new (x0) 3 #[.int .i64 a]
     have hb1 := (Below.refl (x0).heap.size (x0)).alloc (Nat.le_refl _) (.cells #[.int .i64 a] 3)
     have Lb6 : w.heap.size ≤ (x0).heap.size := by have := (hHeld).size; omega
     generalize (x0).alloc (.cells #[.int .i64 a] 3) = x1 at hb1 Gb6  ⊢
     generalize hg : (x0).heap.size = gb6 at Gb6 Lb6  ⊢
     clear hg
     refine hK.out _ _ (below_trans hHeld hb1 (Nat.le_refl _)) (fun hHeld' => ?_)
     clear hK K hHeld hb1; have hHeld := hHeld'; clear hHeld'
     try simp only [ptl]
     refine rd1 (i := 0) (o := ⟨some 35, _, _, _, _, _⟩) rfl (fun K hK => ?_)
     go_simp
     have Gb0 := box_new (x1) 3 #[]
     have hb1 := (Below.refl (x1).heap.size (x1)).alloc (Nat.le_refl _) (.cells #[] 3)
     have Lb0 : w.heap.size ≤ (x1).heap.size := by have := (hHeld).size; omega
     have Nb6b0 : gb6 < (x1).heap.size := Gb6.lt
     replace Gb6 := Gb6.new hb1
     generalize (x1).alloc (.cells #[] 3) = x2 at hb1 Gb0 Gb6 ⊢
     generalize hg : (x1).heap.size = gb0 at Gb0 Lb0 Nb6b0 ⊢
     clear hg
     refine hK.out _ _ (below_trans hHeld hb1 (Nat.le_refl _)) (fun hHeld' => ?_)
     clear hK K hHeld hb1; have hHeld := hHeld'; clear hHeld'
     try simp only [ptl]
     refine rd1 (i := 4) (o := ⟨some 39, _, _, _, _, _⟩) rfl (fun K hK => ?_)
     refine step_appo rfl _ _ _ (by rfl) w.heap.size 3 (.int .i64 0) 1 8 Tryz.underlying116 info_int rfl (by decide) (.slice (some ⟨gb0, 0, none⟩) 0 0) (by rfl) (0) ([]) (own_of_box Gb0 (by have := Lb0; omega)) lo hi A n c (i64s (l.take n)) (by rfl) (HT.out.new hHeld) (ints_oneCell _ _) (by unfold maxLen; omega) (by omega) (by have := (hHeld).size; omega) ?_
     intro Vp1 x3 hO hb0 hgr
     have hsz0 := hb0.size
     replace Gb6 := Gb6.grown (r := gb0) hgr (by omega)
     clear Gb0
     have OWp1 := hO
     have hb1 := hb0.mono (show w.heap.size ≤ w.heap.size by omega)
     refine hK.out _ _ ((hHeld).trans hb1) (fun hHeld' => ?_)
     clear hK K hHeld hb1 hb0 hgr hO; have hHeld := hHeld'; clear hHeld'
     try simp only [ptl]
     refine rd1 (i := 7) (o := ⟨some 42, _, _, _, _, _⟩) rfl (fun K hK => ?_)
     refine step_appo rfl _ _ _ (by rfl) w.heap.size 3 (.int .i64 0) 1 8 Tryz.underlying116 info_int rfl (by decide) Vp1 (by rfl) ((0 + n)) (([] ++ i64s (l.take n))) OWp1 gb6 (gb6 + 1) (some ⟨gb6, 0, none⟩) 1 1 (#[Value.int .i64 a]).toList (by rfl) (rd_boxp Gb6 1 rfl) (one_int a) (by unfold maxLen; omega) (by omega) (by have := (hHeld).size; omega) ?_
     intro Vp2 x4 hO hb0 hgr
     have hsz0 := hb0.size
     clear Gb6
     have OWp2 := hO
     have hb1 := hb0.mono (show w.heap.size ≤ w.heap.size by omega)
     refine hK.out _ _ ((hHeld).trans hb1) (fun hHeld' => ?_)
     clear hK K hHeld hb1 hb0 hgr hO; have hHeld := hHeld'; clear hHeld'
     try simp only [ptl]
     refine rd1 (i := 11) (o := ⟨some 46, _, _, _, _, _⟩) rfl (fun K hK => ?_)
     refine step_appo rfl _ _ _ (by rfl) w.heap.size 3 (.int .i64 0) 1 8 Tryz.underlying116 info_int rfl (by decide) Vp2 (by rfl) ((0 + n + 1)) (([] ++ i64s (l.take n) ++ (#[Value.int .i64 a]).toList)) OWp2 0 0 _ 0 _ [] (by rfl) (Rd.empty) (fun u hu => by cases hu) (by unfold maxLen; omega) (by omega) (by have := (hHeld).size; omega) ?_
     intro Vp3 x5 hO hb0 hgr
     have hsz0 := hb0.size
     have OWp3 := hO
     have hb1 := hb0.mono (show w.heap.size ≤ w.heap.size by omega)
     refine hK.out _ _ ((hHeld).trans hb1) (fun hHeld' => ?_)
     clear hK K hHeld hb1 hb0 hgr hO; have hHeld := hHeld'; clear hHeld'
     try simp only [ptl]
     refine tz 12 4 hHeld ?_; try simp only [ptl]
     refine wpAnyH_done (by kernel_rfl) ?_ _
     go_wp2_with fail
     go_ret
     have hO := OWp3
     have e1 : 0 + n + 1 + 0 = (l.take n ++ [a] ++ l.drop n).length := by have := HL.out; simp; omega
     have hdn : l.drop n = [] := List.drop_eq_nil_of_le (by have := HL.out; omega)
     have e2 : ([] ++ i64s (l.take n) ++ (#[Value.int .i64 a]).toList ++ []) = i64s (l.take n ++ [a] ++ l.drop n) := by simp [i64s, hdn]
     rw [e1, e2, ← HE.out] at hO
     exact makes_of_own hO hHeld
    exact AllReadyH.nil
end Go.Proofs.YtkedacmpmancbaaGreatDoor
namespace Go.Proofs.YtkedacmpmancbaaGreatDoor
open Go Go.ChangeShapes Go.WideShapes Go.ChangeAt Go.RowKit Go.Lib
set_option linter.unusedVariables false
set_option linter.unusedSimpArgs false
set_option maxRecDepth 100000
/-- Of the elements that p holds of, what f gives. -/
def mFm {α : Type} (p : α → Bool) (f : α → Int) (l : List α) : List Int := (l.filter p).map f
section
variable {α : Type} {p : α → Bool} {f : α → Int} {l : List α} {k : Nat} {x : α}
theorem fm_yes (h : l[k]? = some x) (hp : p x = true) : mFm p f (l.take (k + 1)) = mFm p f (l.take k) ++ [f x] := by
 unfold mFm; rw [List.take_add_one, h]; simp [hp]
theorem fm_no (h : l[k]? = some x) (hp : p x = false) : mFm p f (l.take (k + 1)) = mFm p f (l.take k) := by
 unfold mFm; rw [List.take_add_one, h]; simp [hp]
theorem fm_len : (mFm p f l).length ≤ l.length := by unfold mFm; rw [List.length_map]; exact List.length_filter_le _ _
end
end Go.Proofs.YtkedacmpmancbaaGreatDoor
namespace Go.Proofs.YtkedacmpmancbaaGreatDoor
open Go Go.ChangeShapes Go.WideShapes Go.ChangeAt Go.RowKit Go.Lib
set_option linter.unusedVariables false
set_option linter.unusedSimpArgs false
set_option maxRecDepth 100000
def mOwners (l : List TOp) (a : Int) : List Int := if mAreOps l = true then mAsd (mFm (fun x : TOp => x.f0 == a) TOp.f2 l) else []
theorem mOwners_len (l : List TOp) (a : Int) : (mOwners l a).length ≤ l.length := by
 unfold mOwners
 split
 ·
  exact Nat.le_trans (mAsd_len _) fm_len
 ·
  simp
theorem fr_nil {w : World} {lo hi size : Nat} {E : TypeId} {c : Nat} {A : Option Addr} : Fr w lo hi E size A 0 c [] := ⟨by simp, fun h => absurd h (by omega)⟩
set_option maxHeartbeats 8000000 in
theorem impl_ownersOf (l : List TOp) (A : Option Addr) (n c lo hi : Nat) (a : Int) (w : World) (hn : n ≤ 1048576) (hr : Rd w lo hi 4 A n (cOp l)) (hcap : n ≤ c) (H : Hid (cOpOk l)) :
  Calls Tryz.prog 188 #[.slice A n c, .int .i64 a] w (Makes 3 1 (mOwners l a).length (i64s (mOwners l a)) w) := by
 have HL := Lib.hid (rd_len TOp.len hr (by decide))
 have CQ := impl_AreOpsC l A n c lo hi (w.alloc (.cells #[] 3)) hn (hr.alloc _) hcap H
 have HR := Lib.hid hr
 have HB0 := Lib.hid ((Below.refl w.heap.size w).alloc (Nat.le_refl _) (.cells #[] 3))
 have HOz := Lib.hid (World.ownsRow_lit (e := 3) (size := 1) w #[] 0 (Nat.le_refl _) (by unfold maxLen; omega) rfl)
 clear hr
 cases hq : mAreOps l with
 | false =>
  rw [hq] at CQ
  replace CQ := Lib.hid CQ
  rw [show mOwners l a = [] by unfold mOwners; rw [hq]; rfl]
  clear hq
  go_enter Tryz.func188, Tryz.ntmps188
  go_wp2_with fail
  refine CQ.out.mono ?_
  rintro e w1 ⟨rfl, hb⟩
  have HB := Lib.hid (below_trans HB0.out hb (by simp))
  clear hb
  go_wp2_with fail
  go_ret
  exact ⟨_, _, rfl, fr_nil, HB.out⟩
 | true =>
  rw [hq] at CQ
  replace CQ := Lib.hid CQ
  rw [show mOwners l a = mAsd (mFm (fun x : TOp => x.f0 == a) TOp.f2 l) by unfold mOwners; rw [hq]; rfl]
  clear hq
  go_enter Tryz.func188, Tryz.ntmps188
  go_wp2_with fail
  refine CQ.out.mono ?_
  rintro e w1 ⟨rfl, hb⟩
  replace HOz := Lib.hid (own_newer HOz.out hb)
  replace HB0 := Lib.hid (below_trans HB0.out hb (by simp))
  clear hb
  go_wp2_with fail
  go_loopg [5, 15] n (fun gg v i wr => ∃ (k m : Nat), k ≤ n ∧ n - k ≤ gg ∧ i = .int .i64 k ∧ m ≤ k ∧ Hid (m = (mFm (fun x : TOp => x.f0 == a) TOp.f2 (l.take k)).length) ∧ Hid (wr.ownsRow w.heap.size 3 1 v m (i64s (mFm (fun x : TOp => x.f0 == a) TOp.f2 (l.take k)))) ∧ Hid (Below w.heap.size w wr))
  case atStart => exact ⟨0, 0, Nat.zero_le _, by omega, rfl, Nat.le_refl _, Lib.hid rfl, HOz, HB0⟩
  case round =>
   obtain ⟨k, m, hk, hg, rfl, hmk, HM, HO, HB⟩ := hrel
   by_cases hlt : k < n
   ·
    obtain ⟨b, off, x, rfl, _, _, hz, hc⟩ := rd_elem TOp.len (HR.out.new HB.out) HL.out hlt
    have c0 : wr.cell? ⟨b, off + k * 4, none⟩ = _ := hc 0 _ rfl
    have c1 := hc 1 _ rfl
    have c2 := hc 2 _ rfl
    have c3 := hc 3 _ rfl
    have HS0 := Lib.hid HB.out.size
    replace HO := Lib.hid (HO.out.alloc (.cells #[.int .i64 x.f0, .int .i64 x.f1, .int .i64 x.f2, .int .i64 x.f3] 130))
    have HB0 := Lib.hid (HB.out.alloc HS0.out (.cells #[.int .i64 x.f0, .int .i64 x.f1, .int .i64 x.f2, .int .i64 x.f3] 130))
    have HS := Lib.hid HB0.out.size
    by_cases h0 : (x.f0 == a) = true
    ·
     have HE := Lib.hid (show mFm (fun x : TOp => x.f0 == a) TOp.f2 (l.take (k + 1)) = mFm (fun x : TOp => x.f0 == a) TOp.f2 (l.take k) ++ [x.f2] from fm_yes hz (by simpa using h0))
     generalize mFm (fun x : TOp => x.f0 == a) TOp.f2 (l.take k) = L at HE HM HO
     clear hz hc
     go_wp2_with (at_builtin; refine wp_app_lit rfl _ _ _ rfl w.heap.size 3 (.int .i64 0) 1 8 Tryz.underlying116 info_int rfl (by decide) _ _ _ rfl HO.out #[.int .i64 x.f2] 1 1 _ rfl (by simp) rfl (one_int _) (by unfold maxLen; omega) (by omega) (by have := HS.out; simp at this ⊢; omega) ?_; intro v1 w2 ho1 hb1)
     have HO1 := Lib.hid (show w2.ownsRow w.heap.size 3 1 v1 (m + 1) (i64s (mFm (fun x : TOp => x.f0 == a) TOp.f2 (l.take (k + 1)))) by rw [HE.out]; simpa [i64s] using ho1)
     have HB1 := Lib.hid (HB0.out.trans hb1)
     clear ho1 hb1
     go_wp2_with fail
     go_roundg (n - (k + 1))
     case measure => omega
     case rel => exact ⟨k + 1, m + 1, by omega, by omega, by go_num, by omega, Lib.hid (by rw [HE.out]; have := HM.out; simp; omega), HO1, HB1⟩
    ·
     have h0 : (x.f0 == a) = false := by simpa using h0
     have HE := Lib.hid (show mFm (fun x : TOp => x.f0 == a) TOp.f2 (l.take (k + 1)) = mFm (fun x : TOp => x.f0 == a) TOp.f2 (l.take k) from fm_no hz (by simpa using h0))
     clear hz hc
     go_wp2_with fail
     go_roundg (n - (k + 1))
     case measure => omega
     case rel => exact ⟨k + 1, m, by omega, by omega, by go_num, by omega, Lib.hid (by rw [HE.out]; exact HM.out), Lib.hid (by rw [HE.out]; exact HO.out), HB0⟩
   ·
    obtain rfl : k = n := by omega
    have HT := Lib.hid (show l.take k = l from List.take_of_length_le (by rw [HL.out]; omega))
    obtain ⟨Aq, cq, rfl, hF⟩ := fr_of_own HO.out
    rw [HT.out] at hF
    have CA := Lib.hid (ascending_any _ Aq m cq _ _ wr (by omega) hF)
    have HS := Lib.hid HB.out.size
    clear hF
    go_wp2_with fail
    refine CA.out.mono ?_
    rintro e w1 ⟨rfl, h1, h2⟩
    have HF := Lib.hid (h1.mono (Nat.le_refl _) h2.size)
    have HB1 := Lib.hid (HB.out.trans (h2.below (.inl (Nat.le_refl _)) HS.out))
    clear h1 h2
    go_wp2_with fail
    go_ret
    exact ⟨_, _, rfl, HF.out, HB1.out⟩

set_option maxHeartbeats 8000000 in
theorem spec_l27Owners (l : List TOp) (A : Option Addr) (n c lo hi : Nat) (a : Int) (w : World) (hn : n ≤ 1048576) (hr : Rd w lo hi 4 A n (cOp l)) (hcap : n ≤ c) (H : Hid (cOpOk l)) :
  Calls Tryz.prog 124 #[.slice A n c, .int .i64 a] w (Makes 3 1 (mOwners l a).length (i64s (mOwners l a)) w) := by
 have HL := Lib.hid (rd_len TOp.len hr (by decide))
 have HQ := Lib.hid (fun (W : World) (h : Rd W lo hi 4 A n (cOp l)) => spec_AreOps l A n c lo hi W hn h hcap H)
 have HR := Lib.hid hr
 clear hr
 cases hq : mAreOps l with
 | false =>
  rw [hq] at HQ
  rw [show mOwners l a = [] by unfold mOwners; rw [hq]; rfl]
  clear hq
  go_enter Tryz.func124, Tryz.ntmps124
  by_cases h0 : 0 < n
  ·
   go_wp2_with fail
   refine wp_loop_rounds 1 ?_
   rw [rounds_succ]
   go_wp2_with fail
   refine (HQ.out _ (HR.out.alloc _)).mono ?_
   rintro e w1 ⟨rfl, hb⟩
   have HB := Lib.hid (below_trans ((Below.refl w.heap.size w).alloc (Nat.le_refl _) (.cells #[] 3)) hb (by simp))
   clear hb
   go_wp2_with fail
   go_ret
   exact ⟨_, _, rfl, fr_nil, HB.out⟩
  ·
   obtain rfl : n = 0 := by omega
   go_wp2_with fail
   refine wp_loop_rounds 1 ?_
   rw [rounds_succ]
   go_wp2_with fail
   go_ret
   exact ⟨_, _, rfl, fr_nil, (Below.refl w.heap.size w).alloc (Nat.le_refl _) _⟩
 | true =>
  rw [hq] at HQ
  rw [show mOwners l a = mAsd (mFm (fun x : TOp => x.f0 == a) TOp.f2 l) by unfold mOwners; rw [hq]; rfl]
  clear hq
  go_enter Tryz.func124, Tryz.ntmps124
  go_wp2_with fail
  go_loopg [5, 6] n (fun gg v i wr => ∃ (k : Nat) (A : Option Addr) (m c : Nat), k ≤ n ∧ n - k ≤ gg ∧ i = .int .i64 k ∧ v = .slice A m c ∧ m ≤ k ∧ Hid (m = (mAsd (mFm (fun x : TOp => x.f0 == a) TOp.f2 (l.take k))).length) ∧ Hid (Fr wr w.heap.size wr.heap.size 3 1 A m c (i64s (mAsd (mFm (fun x : TOp => x.f0 == a) TOp.f2 (l.take k))))) ∧ Hid (Below w.heap.size w wr))
  case atStart => exact ⟨0, _, 0, 0, Nat.zero_le _, by omega, rfl, rfl, Nat.le_refl _, Lib.hid rfl, Lib.hid ⟨rfl, fun h => absurd h (by omega)⟩, Lib.hid ((Below.refl _ _).alloc (Nat.le_refl _) _)⟩
  case round =>
   obtain ⟨k, A', m, c', hk, hg, rfl, rfl, hmk, HM, HF, HB⟩ := hrel
   by_cases hlt : k < n
   ·
    obtain ⟨b, off, x, rfl, _, _, hz, hc⟩ := rd_elem TOp.len (HR.out.new HB.out) HL.out hlt
    have c0 : wr.cell? ⟨b, off + k * 4, none⟩ = _ := hc 0 _ rfl
    have c1 := hc 1 _ rfl
    have c2 := hc 2 _ rfl
    have c3 := hc 3 _ rfl
    have hlq : b < wr.heap.size := World.block_lt_of_cell? _ _ c0
    have HQ1 := Lib.hid (HQ.out wr (HR.out.new HB.out))
    by_cases h0 : (x.f0 == a) = true
    ·
     have HE := Lib.hid (show mAsd (mFm (fun x : TOp => x.f0 == a) TOp.f2 (l.take (k + 1))) = mPut x.f2 (mAsd (mFm (fun x : TOp => x.f0 == a) TOp.f2 (l.take k))) by rw [fm_yes hz (by simpa using h0), mAsd_snoc])
     generalize mAsd (mFm (fun x : TOp => x.f0 == a) TOp.f2 (l.take k)) = L at HE HM HF
     have HN := Lib.hid (mPut_len x.f2 L)
     clear hz hc
     go_wp2_with fail
     refine HQ1.out.mono ?_
     rintro e wq ⟨rfl, hbq⟩
     obtain ⟨hcq, hfq⟩ := bcell hbq
     have hsq := hbq.size
     have HFq := Lib.hid ((HF.out.new hbq).mono (Nat.le_refl _) hbq.size)
     have HBq := Lib.hid (below_trans HB.out hbq (Nat.le_refl _))
     have HS := Lib.hid HBq.out.size
     clear hbq
     go_wp2_with fail
     refine (spec_l6Put L A' m c' _ _ x.f2 wq (by omega) HFq.out.rd HFq.out.cap).mono ?_
     rintro e w1 ⟨A2, c2, rfl, h1, h2⟩
     have HF1 := Lib.hid (show Fr w1 w.heap.size w1.heap.size 3 1 A2 (mPut x.f2 L).length c2 (i64s (mAsd (mFm (fun x : TOp => x.f0 == a) TOp.f2 (l.take (k + 1))))) by rw [HE.out]; exact h1.mono HS.out (Nat.le_refl _))
     have HB1 := Lib.hid (below_trans HBq.out h2 (Nat.le_refl _))
     clear h1 h2
     go_wp2_with fail
     go_roundg (n - (k + 1))
     case measure => omega
     case rel => exact ⟨k + 1, A2, _, c2, by omega, by omega, by go_num, rfl, by have := HN.out; have := HM.out; omega, Lib.hid (by rw [HE.out]), HF1, HB1⟩
    ·
     have h0 : (x.f0 == a) = false := by simpa using h0
     have HE := Lib.hid (show mFm (fun x : TOp => x.f0 == a) TOp.f2 (l.take (k + 1)) = mFm (fun x : TOp => x.f0 == a) TOp.f2 (l.take k) from fm_no hz (by simpa using h0))
     clear hz hc
     go_wp2_with fail
     refine HQ1.out.mono ?_
     rintro e wq ⟨rfl, hbq⟩
     obtain ⟨hcq, hfq⟩ := bcell hbq
     have hsq := hbq.size
     have HFq := Lib.hid ((HF.out.new hbq).mono (Nat.le_refl _) hbq.size)
     have HBq := Lib.hid (below_trans HB.out hbq (Nat.le_refl _))
     have HS := Lib.hid HBq.out.size
     clear hbq
     go_wp2_with fail
     go_roundg (n - (k + 1))
     case measure => omega
     case rel => exact ⟨k + 1, A', m, c', by omega, by omega, by go_num, rfl, by omega, Lib.hid (by rw [HE.out]; exact HM.out), Lib.hid (by rw [HE.out]; exact HFq.out), HBq⟩
   ·
    obtain rfl : k = n := by omega
    have HT := Lib.hid (show l.take k = l from List.take_of_length_le (by rw [HL.out]; omega))
    have HF1 := Lib.hid (show Fr wr w.heap.size wr.heap.size 3 1 A' m c' (i64s (mAsd (mFm (fun x : TOp => x.f0 == a) TOp.f2 l))) by have h := HF.out; rw [HT.out] at h; exact h)
    have HN := Lib.hid (show m = (mAsd (mFm (fun x : TOp => x.f0 == a) TOp.f2 l)).length by have h := HM.out; rw [HT.out] at h; exact h)
    clear HF HM
    go_wp2_with fail
    go_ret
    refine ⟨A', c', ?_, ?_, HB.out⟩
    ·
     rw [← HN.out]; rfl
    ·
     rw [← HN.out]; exact HF1.out


theorem impl_OwnersReadC (l : List TOp) (A : Option Addr) (n c lo hi : Nat) (w : World) (hn : n ≤ 1048576) (hr : Rd w lo hi 4 A n (cOp l)) (hcap : n ≤ c) (H : Hid (cOpOk l)) :
  Calls Tryz.prog 148 #[.slice A n c] w (Makes 3 1 (mOwners l 1).length (i64s (mOwners l 1)) w) := by
 have C0 := Lib.hid (impl_ownersOf l A n c lo hi 1 w hn hr hcap H)
 go_enter Tryz.func148, Tryz.ntmps148
 go_wp2_with fail
 refine C0.out.mono ?_
 rintro e w1 ⟨A1, c1, rfl, h1, h2⟩
 have H1 := Lib.hid h1
 have H2 := Lib.hid h2
 clear h1 h2
 go_wp2_with fail
 go_ret
 exact ⟨_, _, rfl, H1.out, H2.out⟩
theorem spec_OwnersRead (l : List TOp) (A : Option Addr) (n c lo hi : Nat) (w : World) (hn : n ≤ 1048576) (hr : Rd w lo hi 4 A n (cOp l)) (hcap : n ≤ c) (H : Hid (cOpOk l)) :
  Calls Tryz.prog 77 #[.slice A n c] w (Makes 3 1 (mOwners l 1).length (i64s (mOwners l 1)) w) := by
 have C0 := Lib.hid (spec_l27Owners l A n c lo hi 1 w hn hr hcap H)
 go_enter Tryz.func77, Tryz.ntmps77
 go_wp2_with fail
 refine C0.out.mono ?_
 rintro e w1 ⟨A1, c1, rfl, h1, h2⟩
 have H1 := Lib.hid h1
 have H2 := Lib.hid h2
 clear h1 h2
 go_wp2_with fail
 go_ret
 exact ⟨_, _, rfl, H1.out, H2.out⟩

theorem impl_OwnersSentC (l : List TOp) (A : Option Addr) (n c lo hi : Nat) (w : World) (hn : n ≤ 1048576) (hr : Rd w lo hi 4 A n (cOp l)) (hcap : n ≤ c) (H : Hid (cOpOk l)) :
  Calls Tryz.prog 150 #[.slice A n c] w (Makes 3 1 (mOwners l 5).length (i64s (mOwners l 5)) w) := by
 have C0 := Lib.hid (impl_ownersOf l A n c lo hi 5 w hn hr hcap H)
 go_enter Tryz.func150, Tryz.ntmps150
 go_wp2_with fail
 refine C0.out.mono ?_
 rintro e w1 ⟨A1, c1, rfl, h1, h2⟩
 have H1 := Lib.hid h1
 have H2 := Lib.hid h2
 clear h1 h2
 go_wp2_with fail
 go_ret
 exact ⟨_, _, rfl, H1.out, H2.out⟩
theorem spec_OwnersSent (l : List TOp) (A : Option Addr) (n c lo hi : Nat) (w : World) (hn : n ≤ 1048576) (hr : Rd w lo hi 4 A n (cOp l)) (hcap : n ≤ c) (H : Hid (cOpOk l)) :
  Calls Tryz.prog 78 #[.slice A n c] w (Makes 3 1 (mOwners l 5).length (i64s (mOwners l 5)) w) := by
 have C0 := Lib.hid (spec_l27Owners l A n c lo hi 5 w hn hr hcap H)
 go_enter Tryz.func78, Tryz.ntmps78
 go_wp2_with fail
 refine C0.out.mono ?_
 rintro e w1 ⟨A1, c1, rfl, h1, h2⟩
 have H1 := Lib.hid h1
 have H2 := Lib.hid h2
 clear h1 h2
 go_wp2_with fail
 go_ret
 exact ⟨_, _, rfl, H1.out, H2.out⟩
end Go.Proofs.YtkedacmpmancbaaGreatDoor
