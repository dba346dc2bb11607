/- Merged: AscM, Sorted, Put, Fm, KChN, HoN, Rply, RunE, TabDoc. -/
import Derived.Lib.SlicesCompact
import Derived.Test.YtkegapaococmcaaGreatShelf
import Derived.Test.YtkegapaococmcaaGreatSlI
import Derived.Test.YtkegapaococmcaaGreatRws
import Derived.Test.YtkegapaococmcaaGreatAppO
import Derived.Test.YtkegapaococmcaaGreatFun
import Derived.Test.YtkegapaococmcaaGreatB2I
import Derived.Deep.LoopGhost
import Derived.Test.YtkegapaococmcaaGreatTNode
import Derived.LoopN
import Derived.Test.YtkegapaococmcaaGreatApp
import Derived.Test.YtkegapaococmcaaGreatAplD
import Derived.Test.YtkegapaococmcaaGreatVal
import Derived.Test.YtkegapaococmcaaGreatItB
import Derived.RangeFuncNested
import Derived.RangeFuncBound
import Derived.RangeFuncCalls
import Derived.RangeFuncLeaves
import Derived.RangeFuncBox
import Derived.Shelf.Abstract
import Derived.Shelf.RegionOpen
import Derived.WalkKit
import Derived.OwnWalkIn
import Derived.TacticsInMore
import Derived.LoopNIn
import Derived.LoopIn
import Derived.Maps.AppendAt
import Derived.Test.YtkegapaococmcaaGreatAplT
import Derived.Test.YtkegapaococmcaaGreatTSite
namespace Go.Proofs.YtkegapaococmcaaGreat
open Go Go.Lib
set_option linter.unusedVariables false

/-- A number put into an ascending list. -/
def mPut (n : Int) : List Int → List Int
  | [] => [n]
  | x :: l => if x < n then x :: mPut n l else if x = n then x :: l else n :: x :: l
def mAsd (l : List Int) : List Int := l.foldl (fun a n => mPut n a) []
theorem mem_mPut (n y : Int) : ∀ l : List Int, y ∈ mPut n l ↔ y = n ∨ y ∈ l
  | [] => by simp [mPut]
  | x :: l => by
    unfold mPut
    split
    · simp only [List.mem_cons, mem_mPut n y l]; grind
    · split
      · rename_i h; simp only [List.mem_cons, h]; grind
      · simp only [List.mem_cons]
theorem mPut_len (n : Int) : ∀ l : List Int, (mPut n l).length ≤ l.length + 1
  | [] => by simp [mPut]
  | x :: l => by
    unfold mPut
    have := mPut_len n l
    split
    · simp only [List.length_cons]; omega
    · split <;> simp only [List.length_cons] <;> omega
def Asc (l : List Int) : Prop := l.Pairwise (· < ·)
theorem asc_mPut (n : Int) : ∀ l : List Int, Asc l → Asc (mPut n l)
  | [], _ => by simp [mPut, Asc]
  | x :: l, h => by
    unfold Asc at h
    rw [List.pairwise_cons] at h
    unfold mPut
    split
    · rename_i hx
      unfold Asc
      rw [List.pairwise_cons]
      refine ⟨fun y hy => ?_, asc_mPut n l h.2⟩
      rcases (mem_mPut n y l).1 hy with rfl | hy
      · exact hx
      · exact h.1 y hy
    · split
      · unfold Asc; rw [List.pairwise_cons]; exact h
      · rename_i h1 h2
        unfold Asc
        rw [List.pairwise_cons, List.pairwise_cons]
        refine ⟨fun y hy => ?_, h⟩
        rcases List.mem_cons.1 hy with rfl | hy
        · omega
        · have := h.1 y hy; omega
theorem asc_fold : ∀ (l a : List Int), Asc a → Asc (l.foldl (fun a n => mPut n a) a)
  | [], a, h => h
  | n :: l, a, h => asc_fold l _ (asc_mPut n a h)
theorem mem_fold : ∀ (l a : List Int) (y : Int), y ∈ l.foldl (fun a n => mPut n a) a ↔ y ∈ l ∨ y ∈ a
  | [], a, y => by simp
  | n :: l, a, y => by
    rw [List.foldl_cons, mem_fold l, mem_mPut]
    simp only [List.mem_cons]
    grind
theorem fold_len : ∀ (l a : List Int), (l.foldl (fun a n => mPut n a) a).length ≤ l.length + a.length
  | [], a => by simp
  | n :: l, a => by
    have := fold_len l (mPut n a)
    have := mPut_len n a
    simp only [List.foldl_cons, List.length_cons]
    omega
theorem mAsd_asc (l : List Int) : Asc (mAsd l) := asc_fold l [] List.Pairwise.nil
theorem mem_mAsd (l : List Int) (y : Int) : y ∈ mAsd l ↔ y ∈ l := by
  unfold mAsd; rw [mem_fold]; simp
theorem mAsd_len (l : List Int) : (mAsd l).length ≤ l.length := by
  have := fold_len l []; simpa [mAsd] using this
theorem mAsd_snoc (l : List Int) (n : Int) : mAsd (l ++ [n]) = mPut n (mAsd l) := by
  unfold mAsd; rw [List.foldl_append]; rfl
/-- Two ascending lists of the same members are one. -/
theorem asc_ext : ∀ {a b : List Int}, Asc a → Asc b → (∀ y, y ∈ a ↔ y ∈ b) → a = b
  | [], [], _, _, _ => rfl
  | [], y :: b, _, _, h => by have := (h y).2 (by simp); simp at this
  | x :: a, [], _, _, h => by have := (h x).1 (by simp); simp at this
  | x :: a, y :: b, ha, hb, h => by
    unfold Asc at ha hb
    rw [List.pairwise_cons] at ha hb
    have e : x = y := by
      have h1 := (h x).1 (by simp)
      have h2 := (h y).2 (by simp)
      rcases List.mem_cons.1 h1 with h1 | h1
      · exact h1
      · rcases List.mem_cons.1 h2 with h2 | h2
        · exact h2.symm
        · have := hb.1 x h1; have := ha.1 y h2; omega
    subst e
    rw [asc_ext ha.2 hb.2 (fun z => ⟨fun hz => by
      rcases List.mem_cons.1 ((h z).1 (List.mem_cons_of_mem _ hz)) with rfl | hz'
      · exact absurd (ha.1 _ hz) (by omega)
      · exact hz', fun hz => by
      rcases List.mem_cons.1 ((h z).2 (List.mem_cons_of_mem _ hz)) with rfl | hz'
      · exact absurd (hb.1 _ hz) (by omega)
      · exact hz'⟩)]
/-- What stays of an ascending row with repeats: each once. -/
theorem compact_mem (d : Array Int) (hs : ∀ i j, i < j → j < d.size → d[i]! ≤ d[j]!) : ∀ m, m ≤ d.size → Asc (compactUpTo d m) ∧ (∀ y, y ∈ compactUpTo d m ↔ ∃ i, i < m ∧ d[i]! = y)
  | 0, _ => by simp [compactUpTo, Asc]
  | m + 1, hm => by
    obtain ⟨h1, h2⟩ := compact_mem d hs m (by omega)
    rw [compactUpTo_succ]
    by_cases hk : keeps d m = true
    · rw [if_pos hk]
      constructor
      · unfold Asc at h1 ⊢
        rw [List.pairwise_append]
        refine ⟨h1, by simp, fun a ha b hb => ?_⟩
        simp only [List.mem_singleton] at hb
        subst hb
        obtain ⟨i, hi, rfl⟩ := (h2 a).1 ha
        unfold keeps at hk
        have hle : d[i]! ≤ d[m - 1]! := by
          rcases Nat.lt_or_ge i (m - 1) with h | h
          · exact hs i (m - 1) h (by omega)
          · have : i = m - 1 := by omega
            subst this; exact Int.le_refl _
        have hle2 : d[m - 1]! ≤ d[m]! := hs (m - 1) m (by omega) (by omega)
        have hne : d[m - 1]! ≠ d[m]! := by
          intro e
          simp at hk
          omega
        omega
      · intro y
        rw [List.mem_append, h2 y, List.mem_singleton]
        constructor
        · rintro (⟨i, hi, rfl⟩ | rfl)
          · exact ⟨i, by omega, rfl⟩
          · exact ⟨m, by omega, rfl⟩
        · rintro ⟨i, hi, rfl⟩
          rcases Nat.lt_or_ge i m with h | h
          · exact .inl ⟨i, h, rfl⟩
          · have : i = m := by omega
            subst this; exact .inr rfl
    · rw [if_neg hk, List.append_nil]
      refine ⟨h1, fun y => ?_⟩
      rw [h2 y]
      constructor
      · rintro ⟨i, hi, rfl⟩; exact ⟨i, by omega, rfl⟩
      · rintro ⟨i, hi, rfl⟩
        rcases Nat.lt_or_ge i m with h | h
        · exact ⟨i, h, rfl⟩
        · have : i = m := by omega
          subst this
          unfold keeps at hk
          simp at hk
          exact ⟨i - 1, by omega, by first | exact hk.2 | exact hk.2.symm | omega⟩
theorem asc_compact (l : List Int) : compact (l.mergeSort fun x y => decide (x ≤ y)) = mAsd l := by
  have hp : (l.mergeSort fun x y => decide (x ≤ y)).Pairwise (fun x y => decide (x ≤ y) = true) :=
    List.pairwise_mergeSort (by simp only [decide_eq_true_eq]; intro a b c; omega) (by intro a b; simp only [Bool.or_eq_true, decide_eq_true_eq]; omega) l
  have hm : ∀ y, y ∈ (l.mergeSort fun x y => decide (x ≤ y)) ↔ y ∈ l := fun y => (List.mergeSort_perm l _).mem_iff
  generalize (l.mergeSort fun x y => decide (x ≤ y)) = s at hp hm ⊢
  have hg : ∀ i (h : i < s.length), s.toArray[i]! = s[i] := fun i h => by simp [h]
  obtain ⟨h1, h2⟩ := compact_mem s.toArray (fun i j hij hj => by
    have hj' : j < s.length := by simpa using hj
    rw [hg i (by omega), hg j hj']
    have := List.pairwise_iff_getElem.1 hp i j (by omega) hj' hij
    simpa using this) s.length (by simp)
  refine asc_ext h1 (mAsd_asc l) fun y => ?_
  show y ∈ compactUpTo s.toArray s.length ↔ _
  rw [h2 y, mem_mAsd, ← hm y, List.mem_iff_getElem]
  constructor
  · rintro ⟨i, hi, e⟩; exact ⟨i, hi, by rw [← e, hg i hi]⟩
  · rintro ⟨i, hi, e⟩; exact ⟨i, hi, by rw [hg i hi, e]⟩
end Go.Proofs.YtkegapaococmcaaGreat
namespace Go.Proofs.YtkegapaococmcaaGreat
open Go Go.ChangeShapes Go.WideShapes Go.ChangeAt Go.RowKit Go.Lib Go.Sort
set_option linter.unusedVariables false
set_option linter.unusedSimpArgs false
set_option maxRecDepth 100000
theorem putRow_row {w : World} {g m : Nat} {E : TypeId} {f : Nat → Value} (h : w.rowIs g E m f) (d : Array Int) :
    (putRow (Value.int .i64) w g 0 d).rowIs g E m (fun j => if j < d.size then .int .i64 d[j]! else f j) := by
  obtain ⟨cur, hb, hs, hc⟩ := h
  refine ⟨putCells (Value.int .i64) 0 d cur, ?_, by simp [putCells, hs], fun i hi => ?_⟩
  · unfold putRow mapBlock
    simp only [Array.getElem?_modify, if_true, hb, Option.map_some, onCells]
  · have := hc i hi
    simp only [putCells, Array.getElem?_mapIdx, this, Option.map_some, Nat.zero_le, true_and, Nat.zero_add, Nat.sub_zero]
theorem putRow_below {B g : Nat} (w : World) (d : Array Int) (hB : B ≤ g) : Below B w (putRow (Value.int .i64) w g 0 d) :=
  ⟨rfl, rfl, rfl, by simp [putRow, mapBlock], fun k hk => by
    have e : ¬ g = k := by omega
    simp only [putRow, mapBlock, Array.getElem?_modify, if_neg e]⟩
theorem ahead_below {B : Nat} (w : World) (n : Nat) : Below B w (Sort.ahead w n) := ⟨rfl, rfl, rfl, Nat.le_refl _, fun _ _ => rfl⟩
theorem grow_below (w : World) (os : Array Obj) : Below w.heap.size w (Sort.grow w os) :=
  ⟨rfl, rfl, rfl, by simp, fun k hk => by simp only [Sort.grow, Array.getElem?_append_left hk]⟩
theorem rowIs_ahead {w : World} {g m : Nat} {E : TypeId} {f : Nat → Value} (h : w.rowIs g E m f) (n : Nat) : (Sort.ahead w n).rowIs g E m f := h
theorem holds_of_row {w : World} {g cap n : Nat} {E : TypeId} {f : Nat → Value} {l : List Int} (h : w.rowIs g E cap f) (hl : l.length = n) (hn : n ≤ cap) (hf : ∀ j u, (i64s l)[j]? = some u → f j = u) : Holds (Value.int .i64) w g 0 l.toArray := by
  intro j hj
  have hj' : j < l.length := by simpa using hj
  refine ⟨?_, h.frozen (0 + j)⟩
  rw [Nat.zero_add, h.cell (by omega)]
  have e := hf j (.int .i64 l[j]) (by simp [i64s, hj'])
  rw [e]
  simp [hj']
theorem sort_fr (l : List Int) (A : Option Addr) (n c lo hi : Nat) (w : World) (hn : n ≤ 1099511627776) (hF : Fr w lo hi 3 1 A n c (i64s l)) :
    Calls Tryz.prog 126 #[.slice A n c] w fun e w' => e = .returned (.tuple #[]) ∧ Fr w' lo hi 3 1 A n c (i64s (l.mergeSort fun x y => decide (x ≤ y))) ∧ Chg lo hi w w' := by
  have hl : l.length = n := by have := hF.len; simpa [i64s] using this
  rcases Nat.eq_zero_or_pos n with h0 | h0
  · subst h0
    have e : l = [] := List.eq_nil_of_length_eq_zero hl
    subst e
    refine (Tryz.slices_Sort_int_none A c w).mono ?_
    rintro e w' ⟨rfl, rfl⟩
    exact ⟨rfl, by simpa using hF, Chg.refl _ _ _⟩
  · obtain ⟨g, cap, rfl, h1, h2, h3, rfl, h5, f, hr, hf⟩ := hF.row h0
    rw [Nat.mul_one] at hr
    have hH := holds_of_row hr hl h3 hf
    refine (show Calls Tryz.prog 126 #[.slice (some ⟨g, 0, none⟩) n c] w _ from by rw [← hl]; exact Tryz.slices_Sort_int g 0 c l w hH hr.lt (by omega)).mono ?_
    rintro e w' ⟨rfl, k, os, rfl⟩
    have hr2 := putRow_row (rowIs_ahead hr k) (l.mergeSort fun x y => decide (x ≤ y)).toArray
    have hlen : (l.mergeSort fun x y => decide (x ≤ y)).length = n := by rw [List.length_mergeSort, hl]
    have hc1 : Chg lo hi w (putRow (Value.int .i64) (Sort.ahead w k) g 0 (l.mergeSort fun x y => decide (x ≤ y)).toArray) := by
      have hb := (ahead_below (B := w.heap.size) w k)
      refine ⟨rfl, rfl, rfl, by simp [putRow, mapBlock, Sort.ahead], fun i hi' hn' => ?_⟩
      have e : ¬ g = i := by omega
      simp only [putRow, mapBlock, Array.getElem?_modify, if_neg e, Sort.ahead]
    generalize putRow (Value.int .i64) (Sort.ahead w k) g 0 (l.mergeSort fun x y => decide (x ≤ y)).toArray = W at hr2 hc1 ⊢
    have hF2 : Fr W lo hi 3 1 (some ⟨g, 0, none⟩) n c (i64s (l.mergeSort fun x y => decide (x ≤ y))) := by
      refine fr_of_rowcap (by rw [Nat.mul_one]; exact hr2) h1 h2 h3 h5 (by simp [i64s, hl]) fun j u hu => ?_
      have hj : j < (l.mergeSort fun x y => decide (x ≤ y)).length := by
        have := (List.getElem?_eq_some_iff.1 hu).1
        simpa [i64s] using this
      have hj2 : j < (l.mergeSort fun x y => decide (x ≤ y)).toArray.size := by simpa using hj
      rw [if_pos hj2]
      unfold i64s at hu
      obtain ⟨z, hz, rfl⟩ := map_get _ _ _ _ hu
      have hz2 : (l.mergeSort fun x y => decide (x ≤ y)).toArray[j]! = z := by
        simp only [List.getElem!_toArray, List.getElem!_eq_getElem?_getD, hz, Option.getD_some]
      rw [hz2]
    exact ⟨rfl, hF2.new (grow_below W os), hc1.trans (chg_of_new (grow_below W os))⟩
theorem compact_fr (l : List Int) (A : Option Addr) (n c lo hi : Nat) (w : World) (hn : n ≤ 1099511627776) (hF : Fr w lo hi 3 1 A n c (i64s l)) :
    Calls Tryz.prog 127 #[.slice A n c] w fun e w' => e = .returned (.slice A (compact l).length c) ∧ Fr w' lo hi 3 1 A (compact l).length c (i64s (compact l)) ∧ Chg lo hi w w' := by
  have hl : l.length = n := by have := hF.len; simpa [i64s] using this
  rcases Nat.eq_zero_or_pos n with h0 | h0
  · subst h0
    have e : l = [] := List.eq_nil_of_length_eq_zero hl
    subst e
    refine (Tryz.slices_Compact_int_empty A c w).mono ?_
    rintro e w' ⟨rfl, rfl⟩
    exact ⟨rfl, hF, Chg.refl _ _ _⟩
  · obtain ⟨g, cap, rfl, h1, h2, h3, rfl, h5, f, hr, hf⟩ := hF.row h0
    rw [Nat.mul_one] at hr
    have hH := holds_of_row hr hl h3 hf
    have hle : (compact l).length ≤ n := by
      have h := List.length_filter_le (keeps l.toArray) (List.range l.length)
      unfold compact compactUpTo
      rw [List.length_map]
      simp at h
      omega
    refine (show Calls Tryz.prog 127 #[.slice (some ⟨g, 0, none⟩) n c] w _ from by rw [← hl]; exact Tryz.slices_Compact_int g 0 c l w hH (by omega) (by omega)).mono ?_
    rintro e w' ⟨rfl, k, rfl⟩
    have hr2 := putRow_row (rowIs_ahead hr k) (compact l ++ List.replicate (l.length - (compact l).length) 0).toArray
    have hc1 : Chg lo hi w (putRow (Value.int .i64) (Sort.ahead w k) g 0 (compact l ++ List.replicate (l.length - (compact l).length) 0).toArray) := by
      refine ⟨rfl, rfl, rfl, by simp [putRow, mapBlock, Sort.ahead], fun i hi' hn' => ?_⟩
      have e : ¬ g = i := by omega
      simp only [putRow, mapBlock, Array.getElem?_modify, if_neg e, Sort.ahead]
    generalize putRow (Value.int .i64) (Sort.ahead w k) g 0 (compact l ++ List.replicate (l.length - (compact l).length) 0).toArray = W at hr2 hc1 ⊢
    have hF2 : Fr W lo hi 3 1 (some ⟨g, 0, none⟩) (compact l).length c (i64s (compact l)) := by
      refine fr_of_rowcap (by rw [Nat.mul_one]; exact hr2) h1 h2 (by omega) h5 (by simp [i64s]) fun j u hu => ?_
      have hj : j < (compact l).length := by
        have := (List.getElem?_eq_some_iff.1 hu).1
        simpa [i64s] using this
      have hj2 : j < (compact l ++ List.replicate (l.length - (compact l).length) 0).toArray.size := by simp; omega
      rw [if_pos hj2]
      unfold i64s at hu
      obtain ⟨z, hz, rfl⟩ := map_get _ _ _ _ hu
      have hz2 : (compact l ++ List.replicate (l.length - (compact l).length) 0).toArray[j]! = z := by
        simp only [List.getElem!_toArray, List.getElem!_eq_getElem?_getD, List.getElem?_append_left hj, hz, Option.getD_some]
      rw [hz2]
    exact ⟨rfl, hF2, hc1⟩
/-- The program's ascending, at a slice of the caller's own. -/
theorem ascending_any (l : List Int) (A : Option Addr) (n c lo hi : Nat) (w : World) (hn : n ≤ 1099511627776) (hF : Fr w lo hi 3 1 A n c (i64s l)) :
    Calls Tryz.prog 54 #[.slice A n c] w fun e w' => e = .returned (.slice A (mAsd l).length c) ∧ Fr w' lo hi 3 1 A (mAsd l).length c (i64s (mAsd l)) ∧ Chg lo hi w w' := by
  have HF := Lib.hid hF
  clear hF
  go_enter Tryz.func54, Tryz.ntmps54
  go_wp2_with fail
  refine (sort_fr l A n c lo hi w hn HF.out).mono ?_
  rintro e w1 ⟨rfl, h1, h2⟩
  have H1 := Lib.hid h1
  have C1 := Lib.hid h2
  clear h1 h2
  have CC := compact_fr (l.mergeSort fun x y => decide (x ≤ y)) A n c lo hi w1 hn H1.out
  rw [asc_compact l] at CC
  replace CC := Lib.hid CC
  go_wp2_with fail
  refine CC.out.mono ?_
  rintro e w2 ⟨rfl, h3, h4⟩
  have H3 := Lib.hid h3
  have C4 := Lib.hid (C1.out.trans h4)
  clear h3 h4
  go_wp2_with fail
  go_ret
  exact ⟨rfl, H3.out, C4.out⟩
end Go.Proofs.YtkegapaococmcaaGreat
namespace Go.Proofs.YtkegapaococmcaaGreat
open Go Go.ChangeShapes Go.WideShapes Go.ChangeAt Go.RowKit Go.Lib
set_option linter.unusedVariables false
set_option linter.unusedSimpArgs false
set_option maxRecDepth 100000
theorem rd_boxp {w : World} {g : Nat} {t : TypeId} {cs : Array Value} (h : BoxAt w g t cs) (n : Nat) (hn : cs.size = n) : Rd w g (g + 1) 1 (some ⟨g, 0, none⟩) n cs.toList :=
  ⟨by simpa using hn, fun _ => ⟨g, 0, rfl, Nat.le_refl _, by omega, fun j u hu => by rw [Nat.zero_add]; exact h.at_ (by simpa using hu)⟩⟩
theorem mPut_low {n : Int} : ∀ {l : List Int} {k : Nat}, (∀ x ∈ l.take k, x < n) → k ≤ l.length → mPut n l = l.take k ++ mPut n (l.drop k)
  | l, 0, _, _ => by simp
  | [], k + 1, _, h => by simp at h
  | x :: l, k + 1, h, hk => by
    have hx : x < n := h x (by simp)
    rw [List.take_succ_cons, List.drop_succ_cons, mPut, if_pos hx, mPut_low (l := l) (k := k) (fun y hy => h y (by simp [hy])) (by simpa using hk)]
    simp
theorem mPut_in {n : Int} {l : List Int} {k : Nat} (h : ∀ x ∈ l.take k, x < n) (hk : l[k]? = some n) : mPut n l = l := by
  have hlt := (List.getElem?_eq_some_iff.1 hk).1
  rw [mPut_low h (by omega), List.drop_eq_getElem_cons hlt]
  have e : l[k] = n := (List.getElem?_eq_some_iff.1 hk).2
  rw [e, mPut, if_neg (by omega), if_pos rfl, ← e, ← List.drop_eq_getElem_cons hlt, List.take_append_drop]
theorem mPut_new {n : Int} {l : List Int} {k : Nat} (h : ∀ x ∈ l.take k, x < n) (hk : k ≤ l.length) (hx : ∀ y, l[k]? = some y → n < y) : mPut n l = l.take k ++ [n] ++ l.drop k := by
  rw [mPut_low h hk]
  by_cases e : k < l.length
  · have := hx _ (List.getElem?_eq_getElem e)
    rw [List.drop_eq_getElem_cons e, mPut, if_neg (by omega), if_neg (by omega)]
    simp
  · rw [List.drop_eq_nil_of_le (by omega)]; simp [mPut]
theorem low_step {n z : Int} {l : List Int} {k : Nat} (h : ∀ x ∈ l.take k, x < n) (hz : l[k]? = some z) (hlt : z < n) : ∀ x ∈ l.take (k + 1), x < n := by
  intro x hx
  rw [List.take_add_one, hz] at hx
  rcases List.mem_append.1 hx with hx | hx
  · exact h x hx
  · simp at hx; omega
theorem rd_take {w : World} {lo hi n k : Nat} {A : Option Addr} {l : List Int} (h : Rd w lo hi 1 A n (i64s l)) (hk : k ≤ n) : Rd w lo hi 1 A k (i64s (l.take k)) := by
  have hl : l.length = n := by have := h.1; simpa [i64s] using this
  refine ⟨by simp [i64s]; omega, fun h0 => ?_⟩
  obtain ⟨b, off, e, h1, h2, hc⟩ := h.2 (by omega)
  refine ⟨b, off, e, h1, h2, fun j u hu => hc j u ?_⟩
  unfold i64s at hu ⊢
  rw [List.map_take, List.getElem?_take] at hu
  split at hu
  · exact hu
  · cases hu
theorem rd_drop {w : World} {lo hi n k : Nat} {b off : Nat} {l : List Int} (h : Rd w lo hi 1 (some ⟨b, off, none⟩) n (i64s l)) (hk : k ≤ n) : Rd w lo hi 1 (some ⟨b, off + k, none⟩) (n - k) (i64s (l.drop k)) := by
  have hl : l.length = n := by have := h.1; simpa [i64s] using this
  refine ⟨by simp [i64s]; omega, fun h0 => ?_⟩
  obtain ⟨b', off', e, h1, h2, hc⟩ := h.2 (by omega)
  injection e with e; injection e with e1 e2; subst e1; subst e2
  refine ⟨_, _, rfl, h1, h2, fun j u hu => ?_⟩
  rw [Nat.add_assoc]
  refine hc (k + j) u ?_
  unfold i64s at hu ⊢
  rw [List.map_drop, List.getElem?_drop] at hu
  exact hu
set_option maxHeartbeats 8000000 in
theorem spec_l6Put (l : List Int) (A : Option Addr) (n c lo hi : Nat) (a : Int) (w : World) (hn : n ≤ 1099511627000) (hr : Rd w lo hi 1 A n (i64s l)) (hcap : n ≤ c) :
    Calls Tryz.prog 43 #[.slice A n c, .int .i64 a] w (Makes 3 1 (mPut a l).length (i64s (mPut a l)) w) := by
  have HL := Lib.hid (show l.length = n by have := hr.1; simpa [i64s] using this)
  have HR := Lib.hid hr
  have HC := Lib.hid hcap
  have fin : ∀ k, k ≤ n → (∀ x ∈ l.take k, x < a) → (∀ y, l[k]? = some y → a < y) → True := fun _ _ _ _ => trivial
  clear hr hcap fin
  go_enter Tryz.func43, Tryz.ntmps43
  go_wp2_with fail
  go_loopg [5] n (fun gg i wr => ∃ k : Nat, k ≤ n ∧ n - k ≤ gg ∧ i = .int .i64 k ∧ w = wr ∧ Hid (∀ x ∈ l.take k, x < a))
  case atStart => exact ⟨0, Nat.zero_le _, by omega, rfl, rfl, Lib.hid (fun x hx => by simp at hx)⟩
  case round =>
    obtain ⟨k, hk, hg, rfl, rfl, HM⟩ := hrel
    by_cases hlt : k < n
    · obtain ⟨b, off, z, rfl, _, _, hz, hc⟩ := rd_int HR.out hlt
      by_cases hza : z < a
      · have HM1 := Lib.hid (low_step HM.out hz hza)
        clear hz
        go_wp2_with fail
        go_roundg (n - (k + 1))
        case rel => exact ⟨k + 1, by omega, by omega, by go_num, rfl, HM1⟩
        case measure => omega
      · by_cases hzb : z = a
        · subst hzb
          have HE := Lib.hid (mPut_in HM.out hz)
          clear hza
          go_wp2_with (at_builtin; refine wp_app rfl _ _ _ rfl w.heap.size 3 (.int .i64 0) 1 8 Tryz.underlying31 info_int rfl (by decide) _ _ _ rfl (World.ownsRow_lit w #[] 0 (Nat.le_refl _) (by unfold maxLen; omega) rfl) lo hi _ n c (i64s l) rfl (HR.out.alloc _) (ints_oneCell _ _) (by unfold maxLen; omega) (by omega) (by simp) ?_; intro v1 w1 ho1 hb1 _ _)
          go_ret
          have HB := Lib.hid (((Below.refl w.heap.size w).alloc (Nat.le_refl _) _).trans hb1)
          exact makes_of_own (by rw [HE.out, HL.out]; simpa using ho1) HB.out
        · have HE := Lib.hid (mPut_new HM.out (by have := HL.out; omega) (fun y hy => by rw [hz] at hy; injection hy with hy; omega))
          have HT := Lib.hid (rd_take HR.out (show k ≤ n by omega))
          have HD := Lib.hid (rd_drop HR.out (show k ≤ n by omega))
          have hkc : k ≤ c := by have := HC.out; omega
          have hck : ¬ c = k := by have := HC.out; omega
          clear hz
          go_wp2_with fail
          refine wp_region_held_drew (S := fun w' => Below w.heap.size w w') (by kernel_rfl) ?_ (fun hHeld => ?_)
          · exact (Below.refl w.heap.size w).drew
          generalize (World.drew _) = x0 at hHeld ⊢
          refine wpAnyH_take (i := 1) (oi := ⟨some 36, _, _, _, _, _⟩) (v := ?_) rfl (by kernel_rfl) (by kernel_rfl) (by kernel_rfl) (fun _ _ _ h => h) (Or.inl ⟨by kernel_rfl, ?_⟩) hHeld ?_
          rotate_left
          focus (intro W hS; skip; clear hS; first | (go_simp; done) | (go_simp; with_reducible rfl))
          try simp only [Act.put, List.setIfInBounds_toArray, List.set_cons_zero, List.set_cons_succ]
          refine wpAnyH_take (i := 2) (oi := ⟨some 37, _, _, _, _, _⟩) (v := ?_) rfl (by kernel_rfl) (by kernel_rfl) (by kernel_rfl) (fun _ _ _ h => h) (Or.inl ⟨by kernel_rfl, ?_⟩) hHeld ?_
          rotate_left
          focus (intro W hS; skip; clear hS; first | (go_simp; done) | (go_simp; with_reducible rfl))
          try simp only [Act.put, List.setIfInBounds_toArray, List.set_cons_zero, List.set_cons_succ]
          refine wpAnyH_take (i := 3) (oi := ⟨some 38, _, _, _, _, _⟩) (v := ?_) rfl (by kernel_rfl) (by kernel_rfl) (by kernel_rfl) (fun _ _ _ h => h) (Or.inl ⟨by kernel_rfl, ?_⟩) hHeld ?_
          rotate_left
          focus (intro W hS; skip; clear hS; first | (go_simp; done) | (go_simp; with_reducible rfl))
          try simp only [Act.put, List.setIfInBounds_toArray, List.set_cons_zero, List.set_cons_succ]
          refine wpAnyH_take (i := 5) (oi := ⟨some 40, _, _, _, _, _⟩) (v := ?_) rfl (by kernel_rfl) (by kernel_rfl) (by kernel_rfl) (fun _ _ _ h => h) (Or.inl ⟨by kernel_rfl, ?_⟩) hHeld ?_
          rotate_left
          focus (intro W hS; skip; clear hS; first | (go_simp; done) | (go_simp; with_reducible rfl))
          try simp only [Act.put, List.setIfInBounds_toArray, List.set_cons_zero, List.set_cons_succ]
          refine wpAnyH_take (i := 8) (oi := ⟨some 43, _, _, _, _, _⟩) (v := ?_) rfl (by kernel_rfl) (by kernel_rfl) (by kernel_rfl) (fun _ _ _ h => h) (Or.inl ⟨by kernel_rfl, ?_⟩) hHeld ?_
          rotate_left
          focus (intro W hS; skip; clear hS; first | (go_simp; done) | (go_simp; with_reducible rfl))
          try simp only [Act.put, List.setIfInBounds_toArray, List.set_cons_zero, List.set_cons_succ]
          refine wpAnyH_take (i := 9) (oi := ⟨some 44, _, _, _, _, _⟩) (v := ?_) rfl (by kernel_rfl) (by kernel_rfl) (by kernel_rfl) (fun _ _ _ h => h) (Or.inl ⟨by kernel_rfl, ?_⟩) hHeld ?_
          rotate_left
          focus (intro W hS; skip; clear hS; first | (go_simp; done) | (go_simp; with_reducible rfl))
          try simp only [Act.put, List.setIfInBounds_toArray, List.set_cons_zero, List.set_cons_succ]
          refine wpAnyH_take (i := 10) (oi := ⟨some 45, _, _, _, _, _⟩) (v := ?_) rfl (by kernel_rfl) (by kernel_rfl) (by kernel_rfl) (fun _ _ _ h => h) (Or.inl ⟨by kernel_rfl, ?_⟩) hHeld ?_
          rotate_left
          focus (intro W hS; skip; clear hS; first | (go_simp; done) | (go_simp; with_reducible rfl))
          try simp only [Act.put, List.setIfInBounds_toArray, List.set_cons_zero, List.set_cons_succ]
          refine wpAnyH_ready (rs := [0, 6]) (by kernel_rfl) (by simp) ?_
          refine AllReadyH.cons (o := ⟨some 35, _, _, _, _, _⟩) rfl (fun K hK => ?_) ?_
          · skip
            go_simp
            have Gb0 := box_new (x0) 3 #[]
            have hb1 := (Below.refl (x0).heap.size (x0)).alloc (Nat.le_refl _) (.cells #[] 3)
            have Lb0 : w.heap.size ≤ (x0).heap.size := by have := (hHeld).size; omega
            generalize (x0).alloc (.cells #[] 3) = x1 at hb1 Gb0  ⊢
            generalize hg : (x0).heap.size = gb0 at Gb0 Lb0  ⊢
            clear hg
            refine hK.out _ _ (below_trans hHeld hb1 (Nat.le_refl _)) (fun hHeld' => ?_)
            clear hK K hHeld hb1
            have hHeld := hHeld'
            clear hHeld'
            try simp only [Act.put, List.setIfInBounds_toArray, List.set_cons_zero, List.set_cons_succ]
            refine wpAnyH_ready (rs := [4, 6]) (by kernel_rfl) (by simp) ?_
            refine AllReadyH.cons (o := ⟨some 39, _, _, _, _, _⟩) rfl (fun K hK => ?_) ?_
            · skip
              refine step_appo rfl _ _ _ (by rfl) w.heap.size 3 (.int .i64 0) 1 8 Tryz.underlying31 info_int rfl (by decide) (.slice (some ⟨gb0, 0, none⟩) 0 0) (by rfl) (0) ([]) (own_of_box Gb0 (by have := Lb0; omega)) lo hi (some ⟨b, off, none⟩) k c (i64s (l.take k)) (by rfl) (HT.out.new hHeld) (ints_oneCell _ _) (by unfold maxLen; omega) (by omega) (by have := (hHeld).size; omega) ?_
              intro Vp1 x2 hO hb0 hgr
              have hsz0 := hb0.size
              clear Gb0
              have OWp1 := hO
              have hb1 := hb0.mono (show w.heap.size ≤ w.heap.size by omega)
              refine hK.out _ _ ((hHeld).trans hb1) (fun hHeld' => ?_)
              clear hK K hHeld hb1 hb0 hgr hO
              have hHeld := hHeld'
              clear hHeld'
              try simp only [Act.put, List.setIfInBounds_toArray, List.set_cons_zero, List.set_cons_succ]
              refine wpAnyH_ready (rs := [6]) (by kernel_rfl) (by simp) ?_
              refine AllReadyH.cons (o := ⟨some 41, _, _, _, _, _⟩) rfl (fun K hK => ?_) AllReadyH.nil
              go_simp
              have Gb6 := box_new (x2) 3 #[.int .i64 a]
              have hb1 := (Below.refl (x2).heap.size (x2)).alloc (Nat.le_refl _) (.cells #[.int .i64 a] 3)
              have Lb6 : w.heap.size ≤ (x2).heap.size := by have := (hHeld).size; omega
              replace OWp1 := own_newer OWp1 hb1
              generalize (x2).alloc (.cells #[.int .i64 a] 3) = x3 at hb1 Gb6 OWp1 ⊢
              generalize hg : (x2).heap.size = gb6 at Gb6 Lb6  ⊢
              clear hg
              refine hK.out _ _ (below_trans hHeld hb1 (Nat.le_refl _)) (fun hHeld' => ?_)
              clear hK K hHeld hb1
              have hHeld := hHeld'
              clear hHeld'
              try simp only [Act.put, List.setIfInBounds_toArray, List.set_cons_zero, List.set_cons_succ]
              refine wpAnyH_ready (rs := [7]) (by kernel_rfl) (by simp) ?_
              refine AllReadyH.cons (o := ⟨some 42, _, _, _, _, _⟩) rfl (fun K hK => ?_) AllReadyH.nil
              refine step_appo rfl _ _ _ (by rfl) w.heap.size 3 (.int .i64 0) 1 8 Tryz.underlying31 info_int rfl (by decide) Vp1 (by rfl) ((0 + k)) (([] ++ i64s (l.take k))) OWp1 gb6 (gb6 + 1) (some ⟨gb6, 0, none⟩) 1 1 (#[Value.int .i64 a]).toList (by rfl) (rd_boxp Gb6 1 rfl) (one_int a) (by unfold maxLen; omega) (by omega) (by have := (hHeld).size; omega) ?_
              intro Vp2 x4 hO hb0 hgr
              have hsz0 := hb0.size
              clear Gb6
              have OWp2 := hO
              have hb1 := hb0.mono (show w.heap.size ≤ w.heap.size by omega)
              refine hK.out _ _ ((hHeld).trans hb1) (fun hHeld' => ?_)
              clear hK K hHeld hb1 hb0 hgr hO
              have hHeld := hHeld'
              clear hHeld'
              try simp only [Act.put, List.setIfInBounds_toArray, List.set_cons_zero, List.set_cons_succ]
              refine wpAnyH_ready (rs := [11]) (by kernel_rfl) (by simp) ?_
              refine AllReadyH.cons (o := ⟨some 46, _, _, _, _, _⟩) rfl (fun K hK => ?_) AllReadyH.nil
              refine step_appo rfl _ _ _ (by rfl) w.heap.size 3 (.int .i64 0) 1 8 Tryz.underlying31 info_int rfl (by decide) Vp2 (by rfl) ((0 + k + 1)) (([] ++ i64s (l.take k) ++ (#[Value.int .i64 a]).toList)) OWp2 lo hi _ (n - k) _ (i64s (l.drop k)) (by rfl) (HD.out.new hHeld) (ints_oneCell _ _) (by unfold maxLen; omega) (by omega) (by have := (hHeld).size; omega) ?_
              intro Vp3 x5 hO hb0 hgr
              have hsz0 := hb0.size
              have OWp3 := hO
              have hb1 := hb0.mono (show w.heap.size ≤ w.heap.size by omega)
              refine hK.out _ _ ((hHeld).trans hb1) (fun hHeld' => ?_)
              clear hK K hHeld hb1 hb0 hgr hO
              have hHeld := hHeld'
              clear hHeld'
              try simp only [Act.put, List.setIfInBounds_toArray, List.set_cons_zero, List.set_cons_succ]
              refine wpAnyH_take (i := 12) (oi := ⟨some 4, _, _, _, _, _⟩) (v := ?_) rfl (by kernel_rfl) (by kernel_rfl) (by kernel_rfl) (fun _ _ _ h => h) (Or.inl ⟨by kernel_rfl, ?_⟩) hHeld ?_
              rotate_left
              focus (intro W hS; skip; clear hS; first | (go_simp; done) | (go_simp; with_reducible rfl))
              try simp only [Act.put, List.setIfInBounds_toArray, List.set_cons_zero, List.set_cons_succ]
              refine wpAnyH_done (by kernel_rfl) ?_ _
              go_wp2_with fail
              go_ret
              have hO := OWp3
              have e1 : 0 + k + 1 + (n - k) = (l.take k ++ [a] ++ l.drop k).length := by have := HL.out; simp; omega
              have hdn : l.drop n = [] := List.drop_eq_nil_of_le (by have := HL.out; omega)
              have e2 : ([] ++ i64s (l.take k) ++ (#[Value.int .i64 a]).toList ++ i64s (l.drop k)) = i64s (l.take k ++ [a] ++ l.drop k) := by simp [i64s, hdn]
              rw [e1, e2, ← HE.out] at hO
              exact makes_of_own hO hHeld
            refine AllReadyH.cons (o := ⟨some 41, _, _, _, _, _⟩) rfl (fun K hK => ?_) ?_
            · skip
              go_simp
              have Gb6 := box_new (x1) 3 #[.int .i64 a]
              have hb1 := (Below.refl (x1).heap.size (x1)).alloc (Nat.le_refl _) (.cells #[.int .i64 a] 3)
              have Lb6 : w.heap.size ≤ (x1).heap.size := by have := (hHeld).size; omega
              have Nb0b6 : gb0 < (x1).heap.size := Gb0.lt
              replace Gb0 := Gb0.new hb1
              generalize (x1).alloc (.cells #[.int .i64 a] 3) = x2 at hb1 Gb6 Gb0 ⊢
              generalize hg : (x1).heap.size = gb6 at Gb6 Lb6 Nb0b6 ⊢
              clear hg
              refine hK.out _ _ (below_trans hHeld hb1 (Nat.le_refl _)) (fun hHeld' => ?_)
              clear hK K hHeld hb1
              have hHeld := hHeld'
              clear hHeld'
              try simp only [Act.put, List.setIfInBounds_toArray, List.set_cons_zero, List.set_cons_succ]
              refine wpAnyH_ready (rs := [4]) (by kernel_rfl) (by simp) ?_
              refine AllReadyH.cons (o := ⟨some 39, _, _, _, _, _⟩) rfl (fun K hK => ?_) AllReadyH.nil
              refine step_appo rfl _ _ _ (by rfl) w.heap.size 3 (.int .i64 0) 1 8 Tryz.underlying31 info_int rfl (by decide) (.slice (some ⟨gb0, 0, none⟩) 0 0) (by rfl) (0) ([]) (own_of_box Gb0 (by have := Lb0; omega)) lo hi (some ⟨b, off, none⟩) k c (i64s (l.take k)) (by rfl) (HT.out.new hHeld) (ints_oneCell _ _) (by unfold maxLen; omega) (by omega) (by have := (hHeld).size; omega) ?_
              intro Vp1 x3 hO hb0 hgr
              have hsz0 := hb0.size
              clear Gb0
              replace Gb6 := Gb6.grown (r := gb0) hgr (by omega)
              have OWp1 := hO
              have hb1 := hb0.mono (show w.heap.size ≤ w.heap.size by omega)
              refine hK.out _ _ ((hHeld).trans hb1) (fun hHeld' => ?_)
              clear hK K hHeld hb1 hb0 hgr hO
              have hHeld := hHeld'
              clear hHeld'
              try simp only [Act.put, List.setIfInBounds_toArray, List.set_cons_zero, List.set_cons_succ]
              refine wpAnyH_ready (rs := [7]) (by kernel_rfl) (by simp) ?_
              refine AllReadyH.cons (o := ⟨some 42, _, _, _, _, _⟩) rfl (fun K hK => ?_) AllReadyH.nil
              refine step_appo rfl _ _ _ (by rfl) w.heap.size 3 (.int .i64 0) 1 8 Tryz.underlying31 info_int rfl (by decide) Vp1 (by rfl) ((0 + k)) (([] ++ i64s (l.take k))) OWp1 gb6 (gb6 + 1) (some ⟨gb6, 0, none⟩) 1 1 (#[Value.int .i64 a]).toList (by rfl) (rd_boxp Gb6 1 rfl) (one_int a) (by unfold maxLen; omega) (by omega) (by have := (hHeld).size; omega) ?_
              intro Vp2 x4 hO hb0 hgr
              have hsz0 := hb0.size
              clear Gb6
              have OWp2 := hO
              have hb1 := hb0.mono (show w.heap.size ≤ w.heap.size by omega)
              refine hK.out _ _ ((hHeld).trans hb1) (fun hHeld' => ?_)
              clear hK K hHeld hb1 hb0 hgr hO
              have hHeld := hHeld'
              clear hHeld'
              try simp only [Act.put, List.setIfInBounds_toArray, List.set_cons_zero, List.set_cons_succ]
              refine wpAnyH_ready (rs := [11]) (by kernel_rfl) (by simp) ?_
              refine AllReadyH.cons (o := ⟨some 46, _, _, _, _, _⟩) rfl (fun K hK => ?_) AllReadyH.nil
              refine step_appo rfl _ _ _ (by rfl) w.heap.size 3 (.int .i64 0) 1 8 Tryz.underlying31 info_int rfl (by decide) Vp2 (by rfl) ((0 + k + 1)) (([] ++ i64s (l.take k) ++ (#[Value.int .i64 a]).toList)) OWp2 lo hi _ (n - k) _ (i64s (l.drop k)) (by rfl) (HD.out.new hHeld) (ints_oneCell _ _) (by unfold maxLen; omega) (by omega) (by have := (hHeld).size; omega) ?_
              intro Vp3 x5 hO hb0 hgr
              have hsz0 := hb0.size
              have OWp3 := hO
              have hb1 := hb0.mono (show w.heap.size ≤ w.heap.size by omega)
              refine hK.out _ _ ((hHeld).trans hb1) (fun hHeld' => ?_)
              clear hK K hHeld hb1 hb0 hgr hO
              have hHeld := hHeld'
              clear hHeld'
              try simp only [Act.put, List.setIfInBounds_toArray, List.set_cons_zero, List.set_cons_succ]
              refine wpAnyH_take (i := 12) (oi := ⟨some 4, _, _, _, _, _⟩) (v := ?_) rfl (by kernel_rfl) (by kernel_rfl) (by kernel_rfl) (fun _ _ _ h => h) (Or.inl ⟨by kernel_rfl, ?_⟩) hHeld ?_
              rotate_left
              focus (intro W hS; skip; clear hS; first | (go_simp; done) | (go_simp; with_reducible rfl))
              try simp only [Act.put, List.setIfInBounds_toArray, List.set_cons_zero, List.set_cons_succ]
              refine wpAnyH_done (by kernel_rfl) ?_ _
              go_wp2_with fail
              go_ret
              have hO := OWp3
              have e1 : 0 + k + 1 + (n - k) = (l.take k ++ [a] ++ l.drop k).length := by have := HL.out; simp; omega
              have hdn : l.drop n = [] := List.drop_eq_nil_of_le (by have := HL.out; omega)
              have e2 : ([] ++ i64s (l.take k) ++ (#[Value.int .i64 a]).toList ++ i64s (l.drop k)) = i64s (l.take k ++ [a] ++ l.drop k) := by simp [i64s, hdn]
              rw [e1, e2, ← HE.out] at hO
              exact makes_of_own hO hHeld
            exact AllReadyH.nil
          refine AllReadyH.cons (o := ⟨some 41, _, _, _, _, _⟩) rfl (fun K hK => ?_) ?_
          · skip
            go_simp
            have Gb6 := box_new (x0) 3 #[.int .i64 a]
            have hb1 := (Below.refl (x0).heap.size (x0)).alloc (Nat.le_refl _) (.cells #[.int .i64 a] 3)
            have Lb6 : w.heap.size ≤ (x0).heap.size := by have := (hHeld).size; omega
            generalize (x0).alloc (.cells #[.int .i64 a] 3) = x1 at hb1 Gb6  ⊢
            generalize hg : (x0).heap.size = gb6 at Gb6 Lb6  ⊢
            clear hg
            refine hK.out _ _ (below_trans hHeld hb1 (Nat.le_refl _)) (fun hHeld' => ?_)
            clear hK K hHeld hb1
            have hHeld := hHeld'
            clear hHeld'
            try simp only [Act.put, List.setIfInBounds_toArray, List.set_cons_zero, List.set_cons_succ]
            refine wpAnyH_ready (rs := [0]) (by kernel_rfl) (by simp) ?_
            refine AllReadyH.cons (o := ⟨some 35, _, _, _, _, _⟩) rfl (fun K hK => ?_) AllReadyH.nil
            go_simp
            have Gb0 := box_new (x1) 3 #[]
            have hb1 := (Below.refl (x1).heap.size (x1)).alloc (Nat.le_refl _) (.cells #[] 3)
            have Lb0 : w.heap.size ≤ (x1).heap.size := by have := (hHeld).size; omega
            have Nb6b0 : gb6 < (x1).heap.size := Gb6.lt
            replace Gb6 := Gb6.new hb1
            generalize (x1).alloc (.cells #[] 3) = x2 at hb1 Gb0 Gb6 ⊢
            generalize hg : (x1).heap.size = gb0 at Gb0 Lb0 Nb6b0 ⊢
            clear hg
            refine hK.out _ _ (below_trans hHeld hb1 (Nat.le_refl _)) (fun hHeld' => ?_)
            clear hK K hHeld hb1
            have hHeld := hHeld'
            clear hHeld'
            try simp only [Act.put, List.setIfInBounds_toArray, List.set_cons_zero, List.set_cons_succ]
            refine wpAnyH_ready (rs := [4]) (by kernel_rfl) (by simp) ?_
            refine AllReadyH.cons (o := ⟨some 39, _, _, _, _, _⟩) rfl (fun K hK => ?_) AllReadyH.nil
            refine step_appo rfl _ _ _ (by rfl) w.heap.size 3 (.int .i64 0) 1 8 Tryz.underlying31 info_int rfl (by decide) (.slice (some ⟨gb0, 0, none⟩) 0 0) (by rfl) (0) ([]) (own_of_box Gb0 (by have := Lb0; omega)) lo hi (some ⟨b, off, none⟩) k c (i64s (l.take k)) (by rfl) (HT.out.new hHeld) (ints_oneCell _ _) (by unfold maxLen; omega) (by omega) (by have := (hHeld).size; omega) ?_
            intro Vp1 x3 hO hb0 hgr
            have hsz0 := hb0.size
            replace Gb6 := Gb6.grown (r := gb0) hgr (by omega)
            clear Gb0
            have OWp1 := hO
            have hb1 := hb0.mono (show w.heap.size ≤ w.heap.size by omega)
            refine hK.out _ _ ((hHeld).trans hb1) (fun hHeld' => ?_)
            clear hK K hHeld hb1 hb0 hgr hO
            have hHeld := hHeld'
            clear hHeld'
            try simp only [Act.put, List.setIfInBounds_toArray, List.set_cons_zero, List.set_cons_succ]
            refine wpAnyH_ready (rs := [7]) (by kernel_rfl) (by simp) ?_
            refine AllReadyH.cons (o := ⟨some 42, _, _, _, _, _⟩) rfl (fun K hK => ?_) AllReadyH.nil
            refine step_appo rfl _ _ _ (by rfl) w.heap.size 3 (.int .i64 0) 1 8 Tryz.underlying31 info_int rfl (by decide) Vp1 (by rfl) ((0 + k)) (([] ++ i64s (l.take k))) OWp1 gb6 (gb6 + 1) (some ⟨gb6, 0, none⟩) 1 1 (#[Value.int .i64 a]).toList (by rfl) (rd_boxp Gb6 1 rfl) (one_int a) (by unfold maxLen; omega) (by omega) (by have := (hHeld).size; omega) ?_
            intro Vp2 x4 hO hb0 hgr
            have hsz0 := hb0.size
            clear Gb6
            have OWp2 := hO
            have hb1 := hb0.mono (show w.heap.size ≤ w.heap.size by omega)
            refine hK.out _ _ ((hHeld).trans hb1) (fun hHeld' => ?_)
            clear hK K hHeld hb1 hb0 hgr hO
            have hHeld := hHeld'
            clear hHeld'
            try simp only [Act.put, List.setIfInBounds_toArray, List.set_cons_zero, List.set_cons_succ]
            refine wpAnyH_ready (rs := [11]) (by kernel_rfl) (by simp) ?_
            refine AllReadyH.cons (o := ⟨some 46, _, _, _, _, _⟩) rfl (fun K hK => ?_) AllReadyH.nil
            refine step_appo rfl _ _ _ (by rfl) w.heap.size 3 (.int .i64 0) 1 8 Tryz.underlying31 info_int rfl (by decide) Vp2 (by rfl) ((0 + k + 1)) (([] ++ i64s (l.take k) ++ (#[Value.int .i64 a]).toList)) OWp2 lo hi _ (n - k) _ (i64s (l.drop k)) (by rfl) (HD.out.new hHeld) (ints_oneCell _ _) (by unfold maxLen; omega) (by omega) (by have := (hHeld).size; omega) ?_
            intro Vp3 x5 hO hb0 hgr
            have hsz0 := hb0.size
            have OWp3 := hO
            have hb1 := hb0.mono (show w.heap.size ≤ w.heap.size by omega)
            refine hK.out _ _ ((hHeld).trans hb1) (fun hHeld' => ?_)
            clear hK K hHeld hb1 hb0 hgr hO
            have hHeld := hHeld'
            clear hHeld'
            try simp only [Act.put, List.setIfInBounds_toArray, List.set_cons_zero, List.set_cons_succ]
            refine wpAnyH_take (i := 12) (oi := ⟨some 4, _, _, _, _, _⟩) (v := ?_) rfl (by kernel_rfl) (by kernel_rfl) (by kernel_rfl) (fun _ _ _ h => h) (Or.inl ⟨by kernel_rfl, ?_⟩) hHeld ?_
            rotate_left
            focus (intro W hS; skip; clear hS; first | (go_simp; done) | (go_simp; with_reducible rfl))
            try simp only [Act.put, List.setIfInBounds_toArray, List.set_cons_zero, List.set_cons_succ]
            refine wpAnyH_done (by kernel_rfl) ?_ _
            go_wp2_with fail
            go_ret
            have hO := OWp3
            have e1 : 0 + k + 1 + (n - k) = (l.take k ++ [a] ++ l.drop k).length := by have := HL.out; simp; omega
            have hdn : l.drop n = [] := List.drop_eq_nil_of_le (by have := HL.out; omega)
            have e2 : ([] ++ i64s (l.take k) ++ (#[Value.int .i64 a]).toList ++ i64s (l.drop k)) = i64s (l.take k ++ [a] ++ l.drop k) := by simp [i64s, hdn]
            rw [e1, e2, ← HE.out] at hO
            exact makes_of_own hO hHeld
          exact AllReadyH.nil
    · obtain rfl : n = k := by omega
      have HE := Lib.hid (mPut_new HM.out (by have := HL.out; omega) (fun y hy => by have := (List.getElem?_eq_some_iff.1 hy).1; have := HL.out; omega))
      have HT := Lib.hid (rd_take HR.out (Nat.le_refl n))
      have hkc : n ≤ c := HC.out
      by_cases hcn : c = n
      · obtain rfl : n = c := hcn.symm
        go_wp2_with fail
        refine wp_region_held_drew (S := fun w' => Below w.heap.size w w') (by kernel_rfl) ?_ (fun hHeld => ?_)
        · exact (Below.refl w.heap.size w).drew
        generalize (World.drew _) = x0 at hHeld ⊢
        refine wpAnyH_take (i := 1) (oi := ⟨some 36, _, _, _, _, _⟩) (v := ?_) rfl (by kernel_rfl) (by kernel_rfl) (by kernel_rfl) (fun _ _ _ h => h) (Or.inl ⟨by kernel_rfl, ?_⟩) hHeld ?_
        rotate_left
        focus (intro W hS; skip; clear hS; first | (go_simp; done) | (go_simp; with_reducible rfl))
        try simp only [Act.put, List.setIfInBounds_toArray, List.set_cons_zero, List.set_cons_succ]
        refine wpAnyH_take (i := 2) (oi := ⟨some 37, _, _, _, _, _⟩) (v := ?_) rfl (by kernel_rfl) (by kernel_rfl) (by kernel_rfl) (fun _ _ _ h => h) (Or.inl ⟨by kernel_rfl, ?_⟩) hHeld ?_
        rotate_left
        focus (intro W hS; skip; clear hS; first | (go_simp; done) | (go_simp; with_reducible rfl))
        try simp only [Act.put, List.setIfInBounds_toArray, List.set_cons_zero, List.set_cons_succ]
        refine wpAnyH_take (i := 3) (oi := ⟨some 38, _, _, _, _, _⟩) (v := ?_) rfl (by kernel_rfl) (by kernel_rfl) (by kernel_rfl) (fun _ _ _ h => h) (Or.inl ⟨by kernel_rfl, ?_⟩) hHeld ?_
        rotate_left
        focus (intro W hS; skip; clear hS; first | (go_simp; done) | (go_simp; with_reducible rfl))
        try simp only [Act.put, List.setIfInBounds_toArray, List.set_cons_zero, List.set_cons_succ]
        refine wpAnyH_take (i := 5) (oi := ⟨some 40, _, _, _, _, _⟩) (v := ?_) rfl (by kernel_rfl) (by kernel_rfl) (by kernel_rfl) (fun _ _ _ h => h) (Or.inl ⟨by kernel_rfl, ?_⟩) hHeld ?_
        rotate_left
        focus (intro W hS; skip; clear hS; first | (go_simp; done) | (go_simp; with_reducible rfl))
        try simp only [Act.put, List.setIfInBounds_toArray, List.set_cons_zero, List.set_cons_succ]
        refine wpAnyH_take (i := 8) (oi := ⟨some 43, _, _, _, _, _⟩) (v := ?_) rfl (by kernel_rfl) (by kernel_rfl) (by kernel_rfl) (fun _ _ _ h => h) (Or.inl ⟨by kernel_rfl, ?_⟩) hHeld ?_
        rotate_left
        focus (intro W hS; skip; clear hS; first | (go_simp; done) | (go_simp; with_reducible rfl))
        try simp only [Act.put, List.setIfInBounds_toArray, List.set_cons_zero, List.set_cons_succ]
        refine wpAnyH_take (i := 9) (oi := ⟨some 44, _, _, _, _, _⟩) (v := ?_) rfl (by kernel_rfl) (by kernel_rfl) (by kernel_rfl) (fun _ _ _ h => h) (Or.inl ⟨by kernel_rfl, ?_⟩) hHeld ?_
        rotate_left
        focus (intro W hS; skip; clear hS; first | (go_simp; done) | (go_simp; with_reducible rfl))
        try simp only [Act.put, List.setIfInBounds_toArray, List.set_cons_zero, List.set_cons_succ]
        refine wpAnyH_take (i := 10) (oi := ⟨some 45, _, _, _, _, _⟩) (v := ?_) rfl (by kernel_rfl) (by kernel_rfl) (by kernel_rfl) (fun _ _ _ h => h) (Or.inl ⟨by kernel_rfl, ?_⟩) hHeld ?_
        rotate_left
        focus (intro W hS; skip; clear hS; first | (go_simp; done) | (go_simp; with_reducible rfl))
        try simp only [Act.put, List.setIfInBounds_toArray, List.set_cons_zero, List.set_cons_succ]
        refine wpAnyH_ready (rs := [0, 6]) (by kernel_rfl) (by simp) ?_
        refine AllReadyH.cons (o := ⟨some 35, _, _, _, _, _⟩) rfl (fun K hK => ?_) ?_
        · skip
          go_simp
          have Gb0 := box_new (x0) 3 #[]
          have hb1 := (Below.refl (x0).heap.size (x0)).alloc (Nat.le_refl _) (.cells #[] 3)
          have Lb0 : w.heap.size ≤ (x0).heap.size := by have := (hHeld).size; omega
          generalize (x0).alloc (.cells #[] 3) = x1 at hb1 Gb0  ⊢
          generalize hg : (x0).heap.size = gb0 at Gb0 Lb0  ⊢
          clear hg
          refine hK.out _ _ (below_trans hHeld hb1 (Nat.le_refl _)) (fun hHeld' => ?_)
          clear hK K hHeld hb1
          have hHeld := hHeld'
          clear hHeld'
          try simp only [Act.put, List.setIfInBounds_toArray, List.set_cons_zero, List.set_cons_succ]
          refine wpAnyH_ready (rs := [4, 6]) (by kernel_rfl) (by simp) ?_
          refine AllReadyH.cons (o := ⟨some 39, _, _, _, _, _⟩) rfl (fun K hK => ?_) ?_
          · skip
            refine step_appo rfl _ _ _ (by rfl) w.heap.size 3 (.int .i64 0) 1 8 Tryz.underlying31 info_int rfl (by decide) (.slice (some ⟨gb0, 0, none⟩) 0 0) (by rfl) (0) ([]) (own_of_box Gb0 (by have := Lb0; omega)) lo hi A n n (i64s (l.take n)) (by rfl) (HT.out.new hHeld) (ints_oneCell _ _) (by unfold maxLen; omega) (by omega) (by have := (hHeld).size; omega) ?_
            intro Vp1 x2 hO hb0 hgr
            have hsz0 := hb0.size
            clear Gb0
            have OWp1 := hO
            have hb1 := hb0.mono (show w.heap.size ≤ w.heap.size by omega)
            refine hK.out _ _ ((hHeld).trans hb1) (fun hHeld' => ?_)
            clear hK K hHeld hb1 hb0 hgr hO
            have hHeld := hHeld'
            clear hHeld'
            try simp only [Act.put, List.setIfInBounds_toArray, List.set_cons_zero, List.set_cons_succ]
            refine wpAnyH_ready (rs := [6]) (by kernel_rfl) (by simp) ?_
            refine AllReadyH.cons (o := ⟨some 41, _, _, _, _, _⟩) rfl (fun K hK => ?_) AllReadyH.nil
            go_simp
            have Gb6 := box_new (x2) 3 #[.int .i64 a]
            have hb1 := (Below.refl (x2).heap.size (x2)).alloc (Nat.le_refl _) (.cells #[.int .i64 a] 3)
            have Lb6 : w.heap.size ≤ (x2).heap.size := by have := (hHeld).size; omega
            replace OWp1 := own_newer OWp1 hb1
            generalize (x2).alloc (.cells #[.int .i64 a] 3) = x3 at hb1 Gb6 OWp1 ⊢
            generalize hg : (x2).heap.size = gb6 at Gb6 Lb6  ⊢
            clear hg
            refine hK.out _ _ (below_trans hHeld hb1 (Nat.le_refl _)) (fun hHeld' => ?_)
            clear hK K hHeld hb1
            have hHeld := hHeld'
            clear hHeld'
            try simp only [Act.put, List.setIfInBounds_toArray, List.set_cons_zero, List.set_cons_succ]
            refine wpAnyH_ready (rs := [7]) (by kernel_rfl) (by simp) ?_
            refine AllReadyH.cons (o := ⟨some 42, _, _, _, _, _⟩) rfl (fun K hK => ?_) AllReadyH.nil
            refine step_appo rfl _ _ _ (by rfl) w.heap.size 3 (.int .i64 0) 1 8 Tryz.underlying31 info_int rfl (by decide) Vp1 (by rfl) ((0 + n)) (([] ++ i64s (l.take n))) OWp1 gb6 (gb6 + 1) (some ⟨gb6, 0, none⟩) 1 1 (#[Value.int .i64 a]).toList (by rfl) (rd_boxp Gb6 1 rfl) (one_int a) (by unfold maxLen; omega) (by omega) (by have := (hHeld).size; omega) ?_
            intro Vp2 x4 hO hb0 hgr
            have hsz0 := hb0.size
            clear Gb6
            have OWp2 := hO
            have hb1 := hb0.mono (show w.heap.size ≤ w.heap.size by omega)
            refine hK.out _ _ ((hHeld).trans hb1) (fun hHeld' => ?_)
            clear hK K hHeld hb1 hb0 hgr hO
            have hHeld := hHeld'
            clear hHeld'
            try simp only [Act.put, List.setIfInBounds_toArray, List.set_cons_zero, List.set_cons_succ]
            refine wpAnyH_ready (rs := [11]) (by kernel_rfl) (by simp) ?_
            refine AllReadyH.cons (o := ⟨some 46, _, _, _, _, _⟩) rfl (fun K hK => ?_) AllReadyH.nil
            refine step_appo rfl _ _ _ (by rfl) w.heap.size 3 (.int .i64 0) 1 8 Tryz.underlying31 info_int rfl (by decide) Vp2 (by rfl) ((0 + n + 1)) (([] ++ i64s (l.take n) ++ (#[Value.int .i64 a]).toList)) OWp2 0 0 _ 0 _ [] (by rfl) (Rd.empty) (fun u hu => by cases hu) (by unfold maxLen; omega) (by omega) (by have := (hHeld).size; omega) ?_
            intro Vp3 x5 hO hb0 hgr
            have hsz0 := hb0.size
            have OWp3 := hO
            have hb1 := hb0.mono (show w.heap.size ≤ w.heap.size by omega)
            refine hK.out _ _ ((hHeld).trans hb1) (fun hHeld' => ?_)
            clear hK K hHeld hb1 hb0 hgr hO
            have hHeld := hHeld'
            clear hHeld'
            try simp only [Act.put, List.setIfInBounds_toArray, List.set_cons_zero, List.set_cons_succ]
            refine wpAnyH_take (i := 12) (oi := ⟨some 4, _, _, _, _, _⟩) (v := ?_) rfl (by kernel_rfl) (by kernel_rfl) (by kernel_rfl) (fun _ _ _ h => h) (Or.inl ⟨by kernel_rfl, ?_⟩) hHeld ?_
            rotate_left
            focus (intro W hS; skip; clear hS; first | (go_simp; done) | (go_simp; with_reducible rfl))
            try simp only [Act.put, List.setIfInBounds_toArray, List.set_cons_zero, List.set_cons_succ]
            refine wpAnyH_done (by kernel_rfl) ?_ _
            go_wp2_with fail
            go_ret
            have hO := OWp3
            have e1 : 0 + n + 1 + 0 = (l.take n ++ [a] ++ l.drop n).length := by have := HL.out; simp; omega
            have hdn : l.drop n = [] := List.drop_eq_nil_of_le (by have := HL.out; omega)
            have e2 : ([] ++ i64s (l.take n) ++ (#[Value.int .i64 a]).toList ++ []) = i64s (l.take n ++ [a] ++ l.drop n) := by simp [i64s, hdn]
            rw [e1, e2, ← HE.out] at hO
            exact makes_of_own hO hHeld
          refine AllReadyH.cons (o := ⟨some 41, _, _, _, _, _⟩) rfl (fun K hK => ?_) ?_
          · skip
            go_simp
            have Gb6 := box_new (x1) 3 #[.int .i64 a]
            have hb1 := (Below.refl (x1).heap.size (x1)).alloc (Nat.le_refl _) (.cells #[.int .i64 a] 3)
            have Lb6 : w.heap.size ≤ (x1).heap.size := by have := (hHeld).size; omega
            have Nb0b6 : gb0 < (x1).heap.size := Gb0.lt
            replace Gb0 := Gb0.new hb1
            generalize (x1).alloc (.cells #[.int .i64 a] 3) = x2 at hb1 Gb6 Gb0 ⊢
            generalize hg : (x1).heap.size = gb6 at Gb6 Lb6 Nb0b6 ⊢
            clear hg
            refine hK.out _ _ (below_trans hHeld hb1 (Nat.le_refl _)) (fun hHeld' => ?_)
            clear hK K hHeld hb1
            have hHeld := hHeld'
            clear hHeld'
            try simp only [Act.put, List.setIfInBounds_toArray, List.set_cons_zero, List.set_cons_succ]
            refine wpAnyH_ready (rs := [4]) (by kernel_rfl) (by simp) ?_
            refine AllReadyH.cons (o := ⟨some 39, _, _, _, _, _⟩) rfl (fun K hK => ?_) AllReadyH.nil
            refine step_appo rfl _ _ _ (by rfl) w.heap.size 3 (.int .i64 0) 1 8 Tryz.underlying31 info_int rfl (by decide) (.slice (some ⟨gb0, 0, none⟩) 0 0) (by rfl) (0) ([]) (own_of_box Gb0 (by have := Lb0; omega)) lo hi A n n (i64s (l.take n)) (by rfl) (HT.out.new hHeld) (ints_oneCell _ _) (by unfold maxLen; omega) (by omega) (by have := (hHeld).size; omega) ?_
            intro Vp1 x3 hO hb0 hgr
            have hsz0 := hb0.size
            clear Gb0
            replace Gb6 := Gb6.grown (r := gb0) hgr (by omega)
            have OWp1 := hO
            have hb1 := hb0.mono (show w.heap.size ≤ w.heap.size by omega)
            refine hK.out _ _ ((hHeld).trans hb1) (fun hHeld' => ?_)
            clear hK K hHeld hb1 hb0 hgr hO
            have hHeld := hHeld'
            clear hHeld'
            try simp only [Act.put, List.setIfInBounds_toArray, List.set_cons_zero, List.set_cons_succ]
            refine wpAnyH_ready (rs := [7]) (by kernel_rfl) (by simp) ?_
            refine AllReadyH.cons (o := ⟨some 42, _, _, _, _, _⟩) rfl (fun K hK => ?_) AllReadyH.nil
            refine step_appo rfl _ _ _ (by rfl) w.heap.size 3 (.int .i64 0) 1 8 Tryz.underlying31 info_int rfl (by decide) Vp1 (by rfl) ((0 + n)) (([] ++ i64s (l.take n))) OWp1 gb6 (gb6 + 1) (some ⟨gb6, 0, none⟩) 1 1 (#[Value.int .i64 a]).toList (by rfl) (rd_boxp Gb6 1 rfl) (one_int a) (by unfold maxLen; omega) (by omega) (by have := (hHeld).size; omega) ?_
            intro Vp2 x4 hO hb0 hgr
            have hsz0 := hb0.size
            clear Gb6
            have OWp2 := hO
            have hb1 := hb0.mono (show w.heap.size ≤ w.heap.size by omega)
            refine hK.out _ _ ((hHeld).trans hb1) (fun hHeld' => ?_)
            clear hK K hHeld hb1 hb0 hgr hO
            have hHeld := hHeld'
            clear hHeld'
            try simp only [Act.put, List.setIfInBounds_toArray, List.set_cons_zero, List.set_cons_succ]
            refine wpAnyH_ready (rs := [11]) (by kernel_rfl) (by simp) ?_
            refine AllReadyH.cons (o := ⟨some 46, _, _, _, _, _⟩) rfl (fun K hK => ?_) AllReadyH.nil
            refine step_appo rfl _ _ _ (by rfl) w.heap.size 3 (.int .i64 0) 1 8 Tryz.underlying31 info_int rfl (by decide) Vp2 (by rfl) ((0 + n + 1)) (([] ++ i64s (l.take n) ++ (#[Value.int .i64 a]).toList)) OWp2 0 0 _ 0 _ [] (by rfl) (Rd.empty) (fun u hu => by cases hu) (by unfold maxLen; omega) (by omega) (by have := (hHeld).size; omega) ?_
            intro Vp3 x5 hO hb0 hgr
            have hsz0 := hb0.size
            have OWp3 := hO
            have hb1 := hb0.mono (show w.heap.size ≤ w.heap.size by omega)
            refine hK.out _ _ ((hHeld).trans hb1) (fun hHeld' => ?_)
            clear hK K hHeld hb1 hb0 hgr hO
            have hHeld := hHeld'
            clear hHeld'
            try simp only [Act.put, List.setIfInBounds_toArray, List.set_cons_zero, List.set_cons_succ]
            refine wpAnyH_take (i := 12) (oi := ⟨some 4, _, _, _, _, _⟩) (v := ?_) rfl (by kernel_rfl) (by kernel_rfl) (by kernel_rfl) (fun _ _ _ h => h) (Or.inl ⟨by kernel_rfl, ?_⟩) hHeld ?_
            rotate_left
            focus (intro W hS; skip; clear hS; first | (go_simp; done) | (go_simp; with_reducible rfl))
            try simp only [Act.put, List.setIfInBounds_toArray, List.set_cons_zero, List.set_cons_succ]
            refine wpAnyH_done (by kernel_rfl) ?_ _
            go_wp2_with fail
            go_ret
            have hO := OWp3
            have e1 : 0 + n + 1 + 0 = (l.take n ++ [a] ++ l.drop n).length := by have := HL.out; simp; omega
            have hdn : l.drop n = [] := List.drop_eq_nil_of_le (by have := HL.out; omega)
            have e2 : ([] ++ i64s (l.take n) ++ (#[Value.int .i64 a]).toList ++ []) = i64s (l.take n ++ [a] ++ l.drop n) := by simp [i64s, hdn]
            rw [e1, e2, ← HE.out] at hO
            exact makes_of_own hO hHeld
          exact AllReadyH.nil
        refine AllReadyH.cons (o := ⟨some 41, _, _, _, _, _⟩) rfl (fun K hK => ?_) ?_
        · skip
          go_simp
          have Gb6 := box_new (x0) 3 #[.int .i64 a]
          have hb1 := (Below.refl (x0).heap.size (x0)).alloc (Nat.le_refl _) (.cells #[.int .i64 a] 3)
          have Lb6 : w.heap.size ≤ (x0).heap.size := by have := (hHeld).size; omega
          generalize (x0).alloc (.cells #[.int .i64 a] 3) = x1 at hb1 Gb6  ⊢
          generalize hg : (x0).heap.size = gb6 at Gb6 Lb6  ⊢
          clear hg
          refine hK.out _ _ (below_trans hHeld hb1 (Nat.le_refl _)) (fun hHeld' => ?_)
          clear hK K hHeld hb1
          have hHeld := hHeld'
          clear hHeld'
          try simp only [Act.put, List.setIfInBounds_toArray, List.set_cons_zero, List.set_cons_succ]
          refine wpAnyH_ready (rs := [0]) (by kernel_rfl) (by simp) ?_
          refine AllReadyH.cons (o := ⟨some 35, _, _, _, _, _⟩) rfl (fun K hK => ?_) AllReadyH.nil
          go_simp
          have Gb0 := box_new (x1) 3 #[]
          have hb1 := (Below.refl (x1).heap.size (x1)).alloc (Nat.le_refl _) (.cells #[] 3)
          have Lb0 : w.heap.size ≤ (x1).heap.size := by have := (hHeld).size; omega
          have Nb6b0 : gb6 < (x1).heap.size := Gb6.lt
          replace Gb6 := Gb6.new hb1
          generalize (x1).alloc (.cells #[] 3) = x2 at hb1 Gb0 Gb6 ⊢
          generalize hg : (x1).heap.size = gb0 at Gb0 Lb0 Nb6b0 ⊢
          clear hg
          refine hK.out _ _ (below_trans hHeld hb1 (Nat.le_refl _)) (fun hHeld' => ?_)
          clear hK K hHeld hb1
          have hHeld := hHeld'
          clear hHeld'
          try simp only [Act.put, List.setIfInBounds_toArray, List.set_cons_zero, List.set_cons_succ]
          refine wpAnyH_ready (rs := [4]) (by kernel_rfl) (by simp) ?_
          refine AllReadyH.cons (o := ⟨some 39, _, _, _, _, _⟩) rfl (fun K hK => ?_) AllReadyH.nil
          refine step_appo rfl _ _ _ (by rfl) w.heap.size 3 (.int .i64 0) 1 8 Tryz.underlying31 info_int rfl (by decide) (.slice (some ⟨gb0, 0, none⟩) 0 0) (by rfl) (0) ([]) (own_of_box Gb0 (by have := Lb0; omega)) lo hi A n n (i64s (l.take n)) (by rfl) (HT.out.new hHeld) (ints_oneCell _ _) (by unfold maxLen; omega) (by omega) (by have := (hHeld).size; omega) ?_
          intro Vp1 x3 hO hb0 hgr
          have hsz0 := hb0.size
          replace Gb6 := Gb6.grown (r := gb0) hgr (by omega)
          clear Gb0
          have OWp1 := hO
          have hb1 := hb0.mono (show w.heap.size ≤ w.heap.size by omega)
          refine hK.out _ _ ((hHeld).trans hb1) (fun hHeld' => ?_)
          clear hK K hHeld hb1 hb0 hgr hO
          have hHeld := hHeld'
          clear hHeld'
          try simp only [Act.put, List.setIfInBounds_toArray, List.set_cons_zero, List.set_cons_succ]
          refine wpAnyH_ready (rs := [7]) (by kernel_rfl) (by simp) ?_
          refine AllReadyH.cons (o := ⟨some 42, _, _, _, _, _⟩) rfl (fun K hK => ?_) AllReadyH.nil
          refine step_appo rfl _ _ _ (by rfl) w.heap.size 3 (.int .i64 0) 1 8 Tryz.underlying31 info_int rfl (by decide) Vp1 (by rfl) ((0 + n)) (([] ++ i64s (l.take n))) OWp1 gb6 (gb6 + 1) (some ⟨gb6, 0, none⟩) 1 1 (#[Value.int .i64 a]).toList (by rfl) (rd_boxp Gb6 1 rfl) (one_int a) (by unfold maxLen; omega) (by omega) (by have := (hHeld).size; omega) ?_
          intro Vp2 x4 hO hb0 hgr
          have hsz0 := hb0.size
          clear Gb6
          have OWp2 := hO
          have hb1 := hb0.mono (show w.heap.size ≤ w.heap.size by omega)
          refine hK.out _ _ ((hHeld).trans hb1) (fun hHeld' => ?_)
          clear hK K hHeld hb1 hb0 hgr hO
          have hHeld := hHeld'
          clear hHeld'
          try simp only [Act.put, List.setIfInBounds_toArray, List.set_cons_zero, List.set_cons_succ]
          refine wpAnyH_ready (rs := [11]) (by kernel_rfl) (by simp) ?_
          refine AllReadyH.cons (o := ⟨some 46, _, _, _, _, _⟩) rfl (fun K hK => ?_) AllReadyH.nil
          refine step_appo rfl _ _ _ (by rfl) w.heap.size 3 (.int .i64 0) 1 8 Tryz.underlying31 info_int rfl (by decide) Vp2 (by rfl) ((0 + n + 1)) (([] ++ i64s (l.take n) ++ (#[Value.int .i64 a]).toList)) OWp2 0 0 _ 0 _ [] (by rfl) (Rd.empty) (fun u hu => by cases hu) (by unfold maxLen; omega) (by omega) (by have := (hHeld).size; omega) ?_
          intro Vp3 x5 hO hb0 hgr
          have hsz0 := hb0.size
          have OWp3 := hO
          have hb1 := hb0.mono (show w.heap.size ≤ w.heap.size by omega)
          refine hK.out _ _ ((hHeld).trans hb1) (fun hHeld' => ?_)
          clear hK K hHeld hb1 hb0 hgr hO
          have hHeld := hHeld'
          clear hHeld'
          try simp only [Act.put, List.setIfInBounds_toArray, List.set_cons_zero, List.set_cons_succ]
          refine wpAnyH_take (i := 12) (oi := ⟨some 4, _, _, _, _, _⟩) (v := ?_) rfl (by kernel_rfl) (by kernel_rfl) (by kernel_rfl) (fun _ _ _ h => h) (Or.inl ⟨by kernel_rfl, ?_⟩) hHeld ?_
          rotate_left
          focus (intro W hS; skip; clear hS; first | (go_simp; done) | (go_simp; with_reducible rfl))
          try simp only [Act.put, List.setIfInBounds_toArray, List.set_cons_zero, List.set_cons_succ]
          refine wpAnyH_done (by kernel_rfl) ?_ _
          go_wp2_with fail
          go_ret
          have hO := OWp3
          have e1 : 0 + n + 1 + 0 = (l.take n ++ [a] ++ l.drop n).length := by have := HL.out; simp; omega
          have hdn : l.drop n = [] := List.drop_eq_nil_of_le (by have := HL.out; omega)
          have e2 : ([] ++ i64s (l.take n) ++ (#[Value.int .i64 a]).toList ++ []) = i64s (l.take n ++ [a] ++ l.drop n) := by simp [i64s, hdn]
          rw [e1, e2, ← HE.out] at hO
          exact makes_of_own hO hHeld
        exact AllReadyH.nil
      · skip
        go_wp2_with fail
        refine wp_region_held_drew (S := fun w' => Below w.heap.size w w') (by kernel_rfl) ?_ (fun hHeld => ?_)
        · exact (Below.refl w.heap.size w).drew
        generalize (World.drew _) = x0 at hHeld ⊢
        refine wpAnyH_take (i := 1) (oi := ⟨some 36, _, _, _, _, _⟩) (v := ?_) rfl (by kernel_rfl) (by kernel_rfl) (by kernel_rfl) (fun _ _ _ h => h) (Or.inl ⟨by kernel_rfl, ?_⟩) hHeld ?_
        rotate_left
        focus (intro W hS; skip; clear hS; first | (go_simp; done) | (go_simp; with_reducible rfl))
        try simp only [Act.put, List.setIfInBounds_toArray, List.set_cons_zero, List.set_cons_succ]
        refine wpAnyH_take (i := 2) (oi := ⟨some 37, _, _, _, _, _⟩) (v := ?_) rfl (by kernel_rfl) (by kernel_rfl) (by kernel_rfl) (fun _ _ _ h => h) (Or.inl ⟨by kernel_rfl, ?_⟩) hHeld ?_
        rotate_left
        focus (intro W hS; skip; clear hS; first | (go_simp; done) | (go_simp; with_reducible rfl))
        try simp only [Act.put, List.setIfInBounds_toArray, List.set_cons_zero, List.set_cons_succ]
        refine wpAnyH_take (i := 3) (oi := ⟨some 38, _, _, _, _, _⟩) (v := ?_) rfl (by kernel_rfl) (by kernel_rfl) (by kernel_rfl) (fun _ _ _ h => h) (Or.inl ⟨by kernel_rfl, ?_⟩) hHeld ?_
        rotate_left
        focus (intro W hS; skip; clear hS; first | (go_simp; done) | (go_simp; with_reducible rfl))
        try simp only [Act.put, List.setIfInBounds_toArray, List.set_cons_zero, List.set_cons_succ]
        refine wpAnyH_take (i := 5) (oi := ⟨some 40, _, _, _, _, _⟩) (v := ?_) rfl (by kernel_rfl) (by kernel_rfl) (by kernel_rfl) (fun _ _ _ h => h) (Or.inl ⟨by kernel_rfl, ?_⟩) hHeld ?_
        rotate_left
        focus (intro W hS; skip; clear hS; first | (go_simp; done) | (go_simp; with_reducible rfl))
        try simp only [Act.put, List.setIfInBounds_toArray, List.set_cons_zero, List.set_cons_succ]
        refine wpAnyH_take (i := 8) (oi := ⟨some 43, _, _, _, _, _⟩) (v := ?_) rfl (by kernel_rfl) (by kernel_rfl) (by kernel_rfl) (fun _ _ _ h => h) (Or.inl ⟨by kernel_rfl, ?_⟩) hHeld ?_
        rotate_left
        focus (intro W hS; skip; clear hS; first | (go_simp; done) | (go_simp; with_reducible rfl))
        try simp only [Act.put, List.setIfInBounds_toArray, List.set_cons_zero, List.set_cons_succ]
        refine wpAnyH_take (i := 9) (oi := ⟨some 44, _, _, _, _, _⟩) (v := ?_) rfl (by kernel_rfl) (by kernel_rfl) (by kernel_rfl) (fun _ _ _ h => h) (Or.inl ⟨by kernel_rfl, ?_⟩) hHeld ?_
        rotate_left
        focus (intro W hS; skip; clear hS; first | (go_simp; done) | (go_simp; with_reducible rfl))
        try simp only [Act.put, List.setIfInBounds_toArray, List.set_cons_zero, List.set_cons_succ]
        refine wpAnyH_take (i := 10) (oi := ⟨some 45, _, _, _, _, _⟩) (v := ?_) rfl (by kernel_rfl) (by kernel_rfl) (by kernel_rfl) (fun _ _ _ h => h) (Or.inl ⟨by kernel_rfl, ?_⟩) hHeld ?_
        rotate_left
        focus (intro W hS; skip; clear hS; first | (go_simp; done) | (go_simp; with_reducible rfl))
        try simp only [Act.put, List.setIfInBounds_toArray, List.set_cons_zero, List.set_cons_succ]
        refine wpAnyH_ready (rs := [0, 6]) (by kernel_rfl) (by simp) ?_
        refine AllReadyH.cons (o := ⟨some 35, _, _, _, _, _⟩) rfl (fun K hK => ?_) ?_
        · skip
          go_simp
          have Gb0 := box_new (x0) 3 #[]
          have hb1 := (Below.refl (x0).heap.size (x0)).alloc (Nat.le_refl _) (.cells #[] 3)
          have Lb0 : w.heap.size ≤ (x0).heap.size := by have := (hHeld).size; omega
          generalize (x0).alloc (.cells #[] 3) = x1 at hb1 Gb0  ⊢
          generalize hg : (x0).heap.size = gb0 at Gb0 Lb0  ⊢
          clear hg
          refine hK.out _ _ (below_trans hHeld hb1 (Nat.le_refl _)) (fun hHeld' => ?_)
          clear hK K hHeld hb1
          have hHeld := hHeld'
          clear hHeld'
          try simp only [Act.put, List.setIfInBounds_toArray, List.set_cons_zero, List.set_cons_succ]
          refine wpAnyH_ready (rs := [4, 6]) (by kernel_rfl) (by simp) ?_
          refine AllReadyH.cons (o := ⟨some 39, _, _, _, _, _⟩) rfl (fun K hK => ?_) ?_
          · skip
            refine step_appo rfl _ _ _ (by rfl) w.heap.size 3 (.int .i64 0) 1 8 Tryz.underlying31 info_int rfl (by decide) (.slice (some ⟨gb0, 0, none⟩) 0 0) (by rfl) (0) ([]) (own_of_box Gb0 (by have := Lb0; omega)) lo hi A n c (i64s (l.take n)) (by rfl) (HT.out.new hHeld) (ints_oneCell _ _) (by unfold maxLen; omega) (by omega) (by have := (hHeld).size; omega) ?_
            intro Vp1 x2 hO hb0 hgr
            have hsz0 := hb0.size
            clear Gb0
            have OWp1 := hO
            have hb1 := hb0.mono (show w.heap.size ≤ w.heap.size by omega)
            refine hK.out _ _ ((hHeld).trans hb1) (fun hHeld' => ?_)
            clear hK K hHeld hb1 hb0 hgr hO
            have hHeld := hHeld'
            clear hHeld'
            try simp only [Act.put, List.setIfInBounds_toArray, List.set_cons_zero, List.set_cons_succ]
            refine wpAnyH_ready (rs := [6]) (by kernel_rfl) (by simp) ?_
            refine AllReadyH.cons (o := ⟨some 41, _, _, _, _, _⟩) rfl (fun K hK => ?_) AllReadyH.nil
            go_simp
            have Gb6 := box_new (x2) 3 #[.int .i64 a]
            have hb1 := (Below.refl (x2).heap.size (x2)).alloc (Nat.le_refl _) (.cells #[.int .i64 a] 3)
            have Lb6 : w.heap.size ≤ (x2).heap.size := by have := (hHeld).size; omega
            replace OWp1 := own_newer OWp1 hb1
            generalize (x2).alloc (.cells #[.int .i64 a] 3) = x3 at hb1 Gb6 OWp1 ⊢
            generalize hg : (x2).heap.size = gb6 at Gb6 Lb6  ⊢
            clear hg
            refine hK.out _ _ (below_trans hHeld hb1 (Nat.le_refl _)) (fun hHeld' => ?_)
            clear hK K hHeld hb1
            have hHeld := hHeld'
            clear hHeld'
            try simp only [Act.put, List.setIfInBounds_toArray, List.set_cons_zero, List.set_cons_succ]
            refine wpAnyH_ready (rs := [7]) (by kernel_rfl) (by simp) ?_
            refine AllReadyH.cons (o := ⟨some 42, _, _, _, _, _⟩) rfl (fun K hK => ?_) AllReadyH.nil
            refine step_appo rfl _ _ _ (by rfl) w.heap.size 3 (.int .i64 0) 1 8 Tryz.underlying31 info_int rfl (by decide) Vp1 (by rfl) ((0 + n)) (([] ++ i64s (l.take n))) OWp1 gb6 (gb6 + 1) (some ⟨gb6, 0, none⟩) 1 1 (#[Value.int .i64 a]).toList (by rfl) (rd_boxp Gb6 1 rfl) (one_int a) (by unfold maxLen; omega) (by omega) (by have := (hHeld).size; omega) ?_
            intro Vp2 x4 hO hb0 hgr
            have hsz0 := hb0.size
            clear Gb6
            have OWp2 := hO
            have hb1 := hb0.mono (show w.heap.size ≤ w.heap.size by omega)
            refine hK.out _ _ ((hHeld).trans hb1) (fun hHeld' => ?_)
            clear hK K hHeld hb1 hb0 hgr hO
            have hHeld := hHeld'
            clear hHeld'
            try simp only [Act.put, List.setIfInBounds_toArray, List.set_cons_zero, List.set_cons_succ]
            refine wpAnyH_ready (rs := [11]) (by kernel_rfl) (by simp) ?_
            refine AllReadyH.cons (o := ⟨some 46, _, _, _, _, _⟩) rfl (fun K hK => ?_) AllReadyH.nil
            refine step_appo rfl _ _ _ (by rfl) w.heap.size 3 (.int .i64 0) 1 8 Tryz.underlying31 info_int rfl (by decide) Vp2 (by rfl) ((0 + n + 1)) (([] ++ i64s (l.take n) ++ (#[Value.int .i64 a]).toList)) OWp2 0 0 _ 0 _ [] (by rfl) (Rd.empty) (fun u hu => by cases hu) (by unfold maxLen; omega) (by omega) (by have := (hHeld).size; omega) ?_
            intro Vp3 x5 hO hb0 hgr
            have hsz0 := hb0.size
            have OWp3 := hO
            have hb1 := hb0.mono (show w.heap.size ≤ w.heap.size by omega)
            refine hK.out _ _ ((hHeld).trans hb1) (fun hHeld' => ?_)
            clear hK K hHeld hb1 hb0 hgr hO
            have hHeld := hHeld'
            clear hHeld'
            try simp only [Act.put, List.setIfInBounds_toArray, List.set_cons_zero, List.set_cons_succ]
            refine wpAnyH_take (i := 12) (oi := ⟨some 4, _, _, _, _, _⟩) (v := ?_) rfl (by kernel_rfl) (by kernel_rfl) (by kernel_rfl) (fun _ _ _ h => h) (Or.inl ⟨by kernel_rfl, ?_⟩) hHeld ?_
            rotate_left
            focus (intro W hS; skip; clear hS; first | (go_simp; done) | (go_simp; with_reducible rfl))
            try simp only [Act.put, List.setIfInBounds_toArray, List.set_cons_zero, List.set_cons_succ]
            refine wpAnyH_done (by kernel_rfl) ?_ _
            go_wp2_with fail
            go_ret
            have hO := OWp3
            have e1 : 0 + n + 1 + 0 = (l.take n ++ [a] ++ l.drop n).length := by have := HL.out; simp; omega
            have hdn : l.drop n = [] := List.drop_eq_nil_of_le (by have := HL.out; omega)
            have e2 : ([] ++ i64s (l.take n) ++ (#[Value.int .i64 a]).toList ++ []) = i64s (l.take n ++ [a] ++ l.drop n) := by simp [i64s, hdn]
            rw [e1, e2, ← HE.out] at hO
            exact makes_of_own hO hHeld
          refine AllReadyH.cons (o := ⟨some 41, _, _, _, _, _⟩) rfl (fun K hK => ?_) ?_
          · skip
            go_simp
            have Gb6 := box_new (x1) 3 #[.int .i64 a]
            have hb1 := (Below.refl (x1).heap.size (x1)).alloc (Nat.le_refl _) (.cells #[.int .i64 a] 3)
            have Lb6 : w.heap.size ≤ (x1).heap.size := by have := (hHeld).size; omega
            have Nb0b6 : gb0 < (x1).heap.size := Gb0.lt
            replace Gb0 := Gb0.new hb1
            generalize (x1).alloc (.cells #[.int .i64 a] 3) = x2 at hb1 Gb6 Gb0 ⊢
            generalize hg : (x1).heap.size = gb6 at Gb6 Lb6 Nb0b6 ⊢
            clear hg
            refine hK.out _ _ (below_trans hHeld hb1 (Nat.le_refl _)) (fun hHeld' => ?_)
            clear hK K hHeld hb1
            have hHeld := hHeld'
            clear hHeld'
            try simp only [Act.put, List.setIfInBounds_toArray, List.set_cons_zero, List.set_cons_succ]
            refine wpAnyH_ready (rs := [4]) (by kernel_rfl) (by simp) ?_
            refine AllReadyH.cons (o := ⟨some 39, _, _, _, _, _⟩) rfl (fun K hK => ?_) AllReadyH.nil
            refine step_appo rfl _ _ _ (by rfl) w.heap.size 3 (.int .i64 0) 1 8 Tryz.underlying31 info_int rfl (by decide) (.slice (some ⟨gb0, 0, none⟩) 0 0) (by rfl) (0) ([]) (own_of_box Gb0 (by have := Lb0; omega)) lo hi A n c (i64s (l.take n)) (by rfl) (HT.out.new hHeld) (ints_oneCell _ _) (by unfold maxLen; omega) (by omega) (by have := (hHeld).size; omega) ?_
            intro Vp1 x3 hO hb0 hgr
            have hsz0 := hb0.size
            clear Gb0
            replace Gb6 := Gb6.grown (r := gb0) hgr (by omega)
            have OWp1 := hO
            have hb1 := hb0.mono (show w.heap.size ≤ w.heap.size by omega)
            refine hK.out _ _ ((hHeld).trans hb1) (fun hHeld' => ?_)
            clear hK K hHeld hb1 hb0 hgr hO
            have hHeld := hHeld'
            clear hHeld'
            try simp only [Act.put, List.setIfInBounds_toArray, List.set_cons_zero, List.set_cons_succ]
            refine wpAnyH_ready (rs := [7]) (by kernel_rfl) (by simp) ?_
            refine AllReadyH.cons (o := ⟨some 42, _, _, _, _, _⟩) rfl (fun K hK => ?_) AllReadyH.nil
            refine step_appo rfl _ _ _ (by rfl) w.heap.size 3 (.int .i64 0) 1 8 Tryz.underlying31 info_int rfl (by decide) Vp1 (by rfl) ((0 + n)) (([] ++ i64s (l.take n))) OWp1 gb6 (gb6 + 1) (some ⟨gb6, 0, none⟩) 1 1 (#[Value.int .i64 a]).toList (by rfl) (rd_boxp Gb6 1 rfl) (one_int a) (by unfold maxLen; omega) (by omega) (by have := (hHeld).size; omega) ?_
            intro Vp2 x4 hO hb0 hgr
            have hsz0 := hb0.size
            clear Gb6
            have OWp2 := hO
            have hb1 := hb0.mono (show w.heap.size ≤ w.heap.size by omega)
            refine hK.out _ _ ((hHeld).trans hb1) (fun hHeld' => ?_)
            clear hK K hHeld hb1 hb0 hgr hO
            have hHeld := hHeld'
            clear hHeld'
            try simp only [Act.put, List.setIfInBounds_toArray, List.set_cons_zero, List.set_cons_succ]
            refine wpAnyH_ready (rs := [11]) (by kernel_rfl) (by simp) ?_
            refine AllReadyH.cons (o := ⟨some 46, _, _, _, _, _⟩) rfl (fun K hK => ?_) AllReadyH.nil
            refine step_appo rfl _ _ _ (by rfl) w.heap.size 3 (.int .i64 0) 1 8 Tryz.underlying31 info_int rfl (by decide) Vp2 (by rfl) ((0 + n + 1)) (([] ++ i64s (l.take n) ++ (#[Value.int .i64 a]).toList)) OWp2 0 0 _ 0 _ [] (by rfl) (Rd.empty) (fun u hu => by cases hu) (by unfold maxLen; omega) (by omega) (by have := (hHeld).size; omega) ?_
            intro Vp3 x5 hO hb0 hgr
            have hsz0 := hb0.size
            have OWp3 := hO
            have hb1 := hb0.mono (show w.heap.size ≤ w.heap.size by omega)
            refine hK.out _ _ ((hHeld).trans hb1) (fun hHeld' => ?_)
            clear hK K hHeld hb1 hb0 hgr hO
            have hHeld := hHeld'
            clear hHeld'
            try simp only [Act.put, List.setIfInBounds_toArray, List.set_cons_zero, List.set_cons_succ]
            refine wpAnyH_take (i := 12) (oi := ⟨some 4, _, _, _, _, _⟩) (v := ?_) rfl (by kernel_rfl) (by kernel_rfl) (by kernel_rfl) (fun _ _ _ h => h) (Or.inl ⟨by kernel_rfl, ?_⟩) hHeld ?_
            rotate_left
            focus (intro W hS; skip; clear hS; first | (go_simp; done) | (go_simp; with_reducible rfl))
            try simp only [Act.put, List.setIfInBounds_toArray, List.set_cons_zero, List.set_cons_succ]
            refine wpAnyH_done (by kernel_rfl) ?_ _
            go_wp2_with fail
            go_ret
            have hO := OWp3
            have e1 : 0 + n + 1 + 0 = (l.take n ++ [a] ++ l.drop n).length := by have := HL.out; simp; omega
            have hdn : l.drop n = [] := List.drop_eq_nil_of_le (by have := HL.out; omega)
            have e2 : ([] ++ i64s (l.take n) ++ (#[Value.int .i64 a]).toList ++ []) = i64s (l.take n ++ [a] ++ l.drop n) := by simp [i64s, hdn]
            rw [e1, e2, ← HE.out] at hO
            exact makes_of_own hO hHeld
          exact AllReadyH.nil
        refine AllReadyH.cons (o := ⟨some 41, _, _, _, _, _⟩) rfl (fun K hK => ?_) ?_
        · skip
          go_simp
          have Gb6 := box_new (x0) 3 #[.int .i64 a]
          have hb1 := (Below.refl (x0).heap.size (x0)).alloc (Nat.le_refl _) (.cells #[.int .i64 a] 3)
          have Lb6 : w.heap.size ≤ (x0).heap.size := by have := (hHeld).size; omega
          generalize (x0).alloc (.cells #[.int .i64 a] 3) = x1 at hb1 Gb6  ⊢
          generalize hg : (x0).heap.size = gb6 at Gb6 Lb6  ⊢
          clear hg
          refine hK.out _ _ (below_trans hHeld hb1 (Nat.le_refl _)) (fun hHeld' => ?_)
          clear hK K hHeld hb1
          have hHeld := hHeld'
          clear hHeld'
          try simp only [Act.put, List.setIfInBounds_toArray, List.set_cons_zero, List.set_cons_succ]
          refine wpAnyH_ready (rs := [0]) (by kernel_rfl) (by simp) ?_
          refine AllReadyH.cons (o := ⟨some 35, _, _, _, _, _⟩) rfl (fun K hK => ?_) AllReadyH.nil
          go_simp
          have Gb0 := box_new (x1) 3 #[]
          have hb1 := (Below.refl (x1).heap.size (x1)).alloc (Nat.le_refl _) (.cells #[] 3)
          have Lb0 : w.heap.size ≤ (x1).heap.size := by have := (hHeld).size; omega
          have Nb6b0 : gb6 < (x1).heap.size := Gb6.lt
          replace Gb6 := Gb6.new hb1
          generalize (x1).alloc (.cells #[] 3) = x2 at hb1 Gb0 Gb6 ⊢
          generalize hg : (x1).heap.size = gb0 at Gb0 Lb0 Nb6b0 ⊢
          clear hg
          refine hK.out _ _ (below_trans hHeld hb1 (Nat.le_refl _)) (fun hHeld' => ?_)
          clear hK K hHeld hb1
          have hHeld := hHeld'
          clear hHeld'
          try simp only [Act.put, List.setIfInBounds_toArray, List.set_cons_zero, List.set_cons_succ]
          refine wpAnyH_ready (rs := [4]) (by kernel_rfl) (by simp) ?_
          refine AllReadyH.cons (o := ⟨some 39, _, _, _, _, _⟩) rfl (fun K hK => ?_) AllReadyH.nil
          refine step_appo rfl _ _ _ (by rfl) w.heap.size 3 (.int .i64 0) 1 8 Tryz.underlying31 info_int rfl (by decide) (.slice (some ⟨gb0, 0, none⟩) 0 0) (by rfl) (0) ([]) (own_of_box Gb0 (by have := Lb0; omega)) lo hi A n c (i64s (l.take n)) (by rfl) (HT.out.new hHeld) (ints_oneCell _ _) (by unfold maxLen; omega) (by omega) (by have := (hHeld).size; omega) ?_
          intro Vp1 x3 hO hb0 hgr
          have hsz0 := hb0.size
          replace Gb6 := Gb6.grown (r := gb0) hgr (by omega)
          clear Gb0
          have OWp1 := hO
          have hb1 := hb0.mono (show w.heap.size ≤ w.heap.size by omega)
          refine hK.out _ _ ((hHeld).trans hb1) (fun hHeld' => ?_)
          clear hK K hHeld hb1 hb0 hgr hO
          have hHeld := hHeld'
          clear hHeld'
          try simp only [Act.put, List.setIfInBounds_toArray, List.set_cons_zero, List.set_cons_succ]
          refine wpAnyH_ready (rs := [7]) (by kernel_rfl) (by simp) ?_
          refine AllReadyH.cons (o := ⟨some 42, _, _, _, _, _⟩) rfl (fun K hK => ?_) AllReadyH.nil
          refine step_appo rfl _ _ _ (by rfl) w.heap.size 3 (.int .i64 0) 1 8 Tryz.underlying31 info_int rfl (by decide) Vp1 (by rfl) ((0 + n)) (([] ++ i64s (l.take n))) OWp1 gb6 (gb6 + 1) (some ⟨gb6, 0, none⟩) 1 1 (#[Value.int .i64 a]).toList (by rfl) (rd_boxp Gb6 1 rfl) (one_int a) (by unfold maxLen; omega) (by omega) (by have := (hHeld).size; omega) ?_
          intro Vp2 x4 hO hb0 hgr
          have hsz0 := hb0.size
          clear Gb6
          have OWp2 := hO
          have hb1 := hb0.mono (show w.heap.size ≤ w.heap.size by omega)
          refine hK.out _ _ ((hHeld).trans hb1) (fun hHeld' => ?_)
          clear hK K hHeld hb1 hb0 hgr hO
          have hHeld := hHeld'
          clear hHeld'
          try simp only [Act.put, List.setIfInBounds_toArray, List.set_cons_zero, List.set_cons_succ]
          refine wpAnyH_ready (rs := [11]) (by kernel_rfl) (by simp) ?_
          refine AllReadyH.cons (o := ⟨some 46, _, _, _, _, _⟩) rfl (fun K hK => ?_) AllReadyH.nil
          refine step_appo rfl _ _ _ (by rfl) w.heap.size 3 (.int .i64 0) 1 8 Tryz.underlying31 info_int rfl (by decide) Vp2 (by rfl) ((0 + n + 1)) (([] ++ i64s (l.take n) ++ (#[Value.int .i64 a]).toList)) OWp2 0 0 _ 0 _ [] (by rfl) (Rd.empty) (fun u hu => by cases hu) (by unfold maxLen; omega) (by omega) (by have := (hHeld).size; omega) ?_
          intro Vp3 x5 hO hb0 hgr
          have hsz0 := hb0.size
          have OWp3 := hO
          have hb1 := hb0.mono (show w.heap.size ≤ w.heap.size by omega)
          refine hK.out _ _ ((hHeld).trans hb1) (fun hHeld' => ?_)
          clear hK K hHeld hb1 hb0 hgr hO
          have hHeld := hHeld'
          clear hHeld'
          try simp only [Act.put, List.setIfInBounds_toArray, List.set_cons_zero, List.set_cons_succ]
          refine wpAnyH_take (i := 12) (oi := ⟨some 4, _, _, _, _, _⟩) (v := ?_) rfl (by kernel_rfl) (by kernel_rfl) (by kernel_rfl) (fun _ _ _ h => h) (Or.inl ⟨by kernel_rfl, ?_⟩) hHeld ?_
          rotate_left
          focus (intro W hS; skip; clear hS; first | (go_simp; done) | (go_simp; with_reducible rfl))
          try simp only [Act.put, List.setIfInBounds_toArray, List.set_cons_zero, List.set_cons_succ]
          refine wpAnyH_done (by kernel_rfl) ?_ _
          go_wp2_with fail
          go_ret
          have hO := OWp3
          have e1 : 0 + n + 1 + 0 = (l.take n ++ [a] ++ l.drop n).length := by have := HL.out; simp; omega
          have hdn : l.drop n = [] := List.drop_eq_nil_of_le (by have := HL.out; omega)
          have e2 : ([] ++ i64s (l.take n) ++ (#[Value.int .i64 a]).toList ++ []) = i64s (l.take n ++ [a] ++ l.drop n) := by simp [i64s, hdn]
          rw [e1, e2, ← HE.out] at hO
          exact makes_of_own hO hHeld
        exact AllReadyH.nil
end Go.Proofs.YtkegapaococmcaaGreat
namespace Go.Proofs.YtkegapaococmcaaGreat
open Go Go.ChangeShapes Go.WideShapes Go.ChangeAt Go.RowKit Go.Lib
set_option linter.unusedVariables false
set_option linter.unusedSimpArgs false
set_option maxRecDepth 100000
/-- Of the elements that p holds of, what f gives. -/
def mFm {α : Type} (p : α → Bool) (f : α → Int) (l : List α) : List Int := (l.filter p).map f
section
variable {α : Type} {p : α → Bool} {f : α → Int} {l : List α} {k : Nat} {x : α}
theorem fm_yes (h : l[k]? = some x) (hp : p x = true) : mFm p f (l.take (k + 1)) = mFm p f (l.take k) ++ [f x] := by
  unfold mFm; rw [List.take_add_one, h]; simp [hp]
theorem fm_no (h : l[k]? = some x) (hp : p x = false) : mFm p f (l.take (k + 1)) = mFm p f (l.take k) := by
  unfold mFm; rw [List.take_add_one, h]; simp [hp]
theorem fm_len : (mFm p f l).length ≤ l.length := by unfold mFm; rw [List.length_map]; exact List.length_filter_le _ _
theorem fm_take : (mFm p f (l.take k)).length ≤ k := Nat.le_trans fm_len (List.length_take_le _ _)
end
end Go.Proofs.YtkegapaococmcaaGreat
namespace Go.Proofs.YtkegapaococmcaaGreat.kChN
open Go Go.ChangeShapes Go.WideShapes Go.ChangeAt Go.RowKit Go.Lib
set_option linter.unusedVariables false
set_option linter.unusedSimpArgs false
set_option maxRecDepth 100000
theorem info : (Tryz.prog.info? 87).map (fun i => (i.zero, i.size, i.bytes)) = some (some (.agg #[.int .i64 0, .int .i64 0, .int .i64 0, .int .i64 0, .int .i64 0]), 5, 40) := by kernel_rfl
theorem ones (x : TNode) : ∀ u ∈ (#[.int .i64 x.f0, .int .i64 x.f1, .int .i64 x.f2, .int .i64 x.f3, .int .i64 x.f4] : Array Value).toList, u.oneCell' = true := by
  intro u hu
  simp only [List.mem_cons, List.not_mem_nil, or_false] at hu
  rcases hu with rfl | rfl | rfl | rfl | rfl <;> rfl

set_option maxHeartbeats 4000000 in
theorem fails_0 (lb0 : Array Value) (x : TNode) (b : Bool) (bx : Nat) (W : World) (hx : BoxAt W bx 87 #[.int .i64 x.f0, .int .i64 x.f1, .int .i64 x.f2, .int .i64 x.f3, .int .i64 x.f4]) (hcall : Calls Tryz.prog 53 (#[.agg #[.int .i64 x.f0, .int .i64 x.f1, .int .i64 x.f2, .int .i64 x.f3, .int .i64 x.f4]] ++ lb0) W (Says (.bool b) W)) :
    Calls Tryz.prog 123 #[.func (.func 53) #[] lb0, .pointer (some ⟨bx, 0, none⟩)] W (Says (.bool (!b)) W) := by
  have c0 : W.cell? ⟨bx, 0, none⟩ = _ := hx.at_ rfl
  have c1 : W.cell? ⟨bx, 1, none⟩ = _ := hx.at_ rfl
  have c2 : W.cell? ⟨bx, 2, none⟩ = _ := hx.at_ rfl
  have c3 : W.cell? ⟨bx, 3, none⟩ = _ := hx.at_ rfl
  have c4 : W.cell? ⟨bx, 4, none⟩ = _ := hx.at_ rfl
  clear hx
  cases b
  all_goals
    go_enter Tryz.func123, Tryz.ntmps123
    go_wp2_with (go_at_call 53; refine hcall.mono ?_; rintro e w1 ⟨rfl, hb1⟩; have HB1 := Lib.hid hb1; clear hb1)
    go_ret
    exact ⟨rfl, HB1.out⟩

set_option maxHeartbeats 8000000 in
theorem idx (p0 : TNode → Bool) (lb0 : Array Value) (x : TNode) (bx bc : Nat) (W : World) (hx : BoxAt W bx 87 #[.int .i64 x.f0, .int .i64 x.f1, .int .i64 x.f2, .int .i64 x.f3, .int .i64 x.f4]) (hc : BoxAt W bc 97 #[.func (.func 53) #[] lb0]) (hp0 : ∀ W', Below W.heap.size W W' → Calls Tryz.prog 53 (#[.agg #[.int .i64 x.f0, .int .i64 x.f1, .int .i64 x.f2, .int .i64 x.f3, .int .i64 x.f4]] ++ lb0) W' (Says (.bool (p0 x)) W')) :
    Calls Tryz.prog 189 #[.slice (some ⟨bc, 0, none⟩) 1 1, .func (.func 123) #[] #[.pointer (some ⟨bx, 0, none⟩)]] W (Says (.int .i64 (if p0 x = true then (-1) else 0)) W) := by
  have HX := Lib.hid hx
  have HCB := Lib.hid hc
  have HP0 := Lib.hid hp0
  clear hp0
  clear hx hc
  by_cases h0 : p0 x = true
  · skip
    have HE := Lib.hid (show (if p0 x = true then (-1) else 0) = (-1 : Int) by simp [h0])
    go_enter Tryz.func189, Tryz.ntmps189
    go_wp2_with fail
    refine wp_loop_rounds 2 ?_
    have HB0 := Lib.hid (Below.refl W.heap.size W)
    have d0 : W.cell? ⟨bc, 0, none⟩ = some (.func (.func 53) #[] lb0) := (HCB.out.new HB0.out).at_ rfl
    have q0 := fails_0 lb0 x _ bx W (HX.out.new HB0.out) (HP0.out W HB0.out)
    rw [h0] at q0
    have Q0 := Lib.hid q0
    clear q0
    rw [rounds_succ]
    go_wp2_with (go_at_call 123; refine Q0.out.mono ?_; rintro e w1 ⟨rfl, hb⟩; have HB1 := Lib.hid (below_trans HB0.out hb (Nat.le_refl _)); clear hb)
    rw [rounds_succ]
    go_wp2_with fail
    go_ret
    exact ⟨by first | rfl | (rw [HE.out]; rfl), HB1.out⟩
  · have h0 : p0 x = false := by simpa using h0
    have HE := Lib.hid (show (if p0 x = true then (-1) else 0) = (0 : Int) by simp [h0])
    go_enter Tryz.func189, Tryz.ntmps189
    go_wp2_with fail
    refine wp_loop_rounds 2 ?_
    have HB0 := Lib.hid (Below.refl W.heap.size W)
    have d0 : W.cell? ⟨bc, 0, none⟩ = some (.func (.func 53) #[] lb0) := (HCB.out.new HB0.out).at_ rfl
    have q0 := fails_0 lb0 x _ bx W (HX.out.new HB0.out) (HP0.out W HB0.out)
    rw [h0] at q0
    have Q0 := Lib.hid q0
    clear q0
    rw [rounds_succ]
    go_wp2_with (go_at_call 123; refine Q0.out.mono ?_; rintro e w1 ⟨rfl, hb⟩; have HB1 := Lib.hid (below_trans HB0.out hb (Nat.le_refl _)); clear hb)
    go_ret
    exact ⟨by first | rfl | (rw [HE.out]; rfl), HB1.out⟩
set_option maxHeartbeats 4000000 in
theorem conds (p0 : TNode → Bool) (lb0 : Array Value) (x : TNode) (bx bc : Nat) (W : World) (hx : BoxAt W bx 87 #[.int .i64 x.f0, .int .i64 x.f1, .int .i64 x.f2, .int .i64 x.f3, .int .i64 x.f4]) (hc : BoxAt W bc 97 #[.func (.func 53) #[] lb0]) (hp0 : ∀ W', Below W.heap.size W W' → Calls Tryz.prog 53 (#[.agg #[.int .i64 x.f0, .int .i64 x.f1, .int .i64 x.f2, .int .i64 x.f3, .int .i64 x.f4]] ++ lb0) W' (Says (.bool (p0 x)) W')) :
    Calls Tryz.prog 124 #[.slice (some ⟨bc, 0, none⟩) 1 1, .func (.func 123) #[] #[.pointer (some ⟨bx, 0, none⟩)]] W (Says (.bool (!(p0 x))) W) := by
  have HC := idx p0 lb0 x bx bc W hx hc hp0
  have hv : ((if p0 x = true then (-1) else 0) = (-1 : Int) ∧ (!(p0 x)) = false) ∨ (0 ≤ (if p0 x = true then (-1) else 0) ∧ (!(p0 x)) = true) := by
    cases p0 x <;> simp
  generalize (if p0 x = true then (-1) else 0) = r at HC hv
  generalize (!(p0 x)) = b at hv ⊢
  clear hp0 hx hc
  rcases hv with ⟨hr, hb⟩ | ⟨hr, hb⟩
  · rw [hr] at HC
    rw [hb]
    clear hr hb
    go_enter Tryz.func124, Tryz.ntmps124
    go_wp2_with fail
    refine HC.mono ?_
    rintro e w1 ⟨rfl, hb1⟩
    have HB1 := Lib.hid hb1
    clear hb1
    go_wp2_with fail
    go_ret
    exact ⟨rfl, HB1.out⟩
  · rw [hb]
    have hd : decide (r ≥ 0) = true := by simp; omega
    clear hb
    go_enter Tryz.func124, Tryz.ntmps124
    go_wp2_with fail
    refine HC.mono ?_
    rintro e w1 ⟨rfl, hb1⟩
    have HB1 := Lib.hid hb1
    clear hb1
    go_wp2_with fail
    go_ret
    exact ⟨rfl, HB1.out⟩

theorem filter_snoc (p : TNode → Bool) {l : List TNode} {k : Nat} {x : TNode} (h : l[k]? = some x) : (l.take (k + 1)).filter p = if p x = true then (l.take k).filter p ++ [x] else (l.take k).filter p := by
  rw [List.take_add_one, h, Option.toList_some, List.filter_append]
  by_cases e : p x = true
  · rw [if_pos e, List.filter_cons, if_pos e]; rfl
  · rw [if_neg e, List.filter_cons, if_neg e]; simp
set_option maxHeartbeats 8000000 in
theorem keep (p0 : TNode → Bool) (lb0 : Array Value) (l : List TNode) (A : Option Addr) (n c lo hi bc : Nat) (w : World) (hn : n ≤ 1048576) (hr : Rd w lo hi 5 A n (cNode l)) (hcb : BoxAt w bc 97 #[.func (.func 53) #[] lb0]) (hp0 : PredB Tryz.prog 53 lb0 (fun x : TNode => .agg #[.int .i64 x.f0, .int .i64 x.f1, .int .i64 x.f2, .int .i64 x.f3, .int .i64 x.f4]) p0 l w) :
    Calls Tryz.prog 51 #[.slice A n c, .slice (some ⟨bc, 0, none⟩) 1 1] w (MakesO 87 5 (l.filter fun x => p0 x).length (cNode (l.filter fun x => p0 x)) w) := by
  have hmf : ∀ (fn : Fn) (first cap : Array Value) (w : World), (Instr.makeFunc fn first cap).run Tryz.prog w = .ok (.func fn first cap) w := fun _ _ _ _ => rfl
  have HL := Lib.hid (rd_len TNode.len hr (by decide))
  have HR := Lib.hid hr
  have HCB := Lib.hid hcb
  have HQ0 := Lib.hid hp0
  clear hp0
  clear hr hcb
  generalize hP : (fun x : TNode => p0 x) = P
  have HP := Lib.hid hP
  clear hP
  go_enter Tryz.func51, Tryz.ntmps51
  go_wp2_with fail
  go_loopg [5, 7, 8, 12] n (fun gg v _ _ i wr => ∃ k : Nat, k ≤ n ∧ n - k ≤ gg ∧ i = .int .i64 k ∧ Hid (wr.ownsRow w.heap.size 87 5 v ((l.take k).filter P).length (cNode ((l.take k).filter P))) ∧ Hid (Below w.heap.size w wr))
  case atStart => exact ⟨0, Nat.zero_le _, by omega, rfl, Lib.hid (World.ownsRow_lit w #[] 0 (Nat.le_refl _) (by unfold maxLen; omega) rfl), Lib.hid ((Below.refl _ _).alloc (Nat.le_refl _) _)⟩
  case round =>
    obtain ⟨k, hk, hg, rfl, HO, HB⟩ := hrel
    have HS := Lib.hid HB.out.size
    by_cases hlt : k < n
    · obtain ⟨b, off, x, rfl, _, _, hz, hc⟩ := rd_elem TNode.len (HR.out.new HB.out) HL.out hlt
      have c0 : wr.cell? ⟨b, off + k * 5, none⟩ = _ := hc 0 _ rfl
      have c1 := hc 1 _ rfl
      have c2 := hc 2 _ rfl
      have c3 := hc 3 _ rfl
      have c4 := hc 4 _ rfl
      have HZ := Lib.hid hz
      have HE := Lib.hid (filter_snoc P hz)
      have HN := Lib.hid (Nat.le_trans (List.length_filter_le P (l.take k)) (List.length_take_le _ _))
      have HPx := Lib.hid (show (p0 x) = P x by rw [← HP.out])
      have q := conds p0 lb0 x wr.heap.size bc (wr.alloc (.cells #[.int .i64 x.f0, .int .i64 x.f1, .int .i64 x.f2, .int .i64 x.f3, .int .i64 x.f4] 87)) (box_new _ _ _) ((HCB.out.new HB.out).alloc_ _) (fun W' hb => HQ0.out W' x (mem_of_get HZ.out) (below_trans (HB.out.alloc HS.out _) hb (by have := HS.out; simp <;> omega)))
      rw [HPx.out] at q
      have Q := Lib.hid q
      clear hz hc q
      by_cases e : P x = true
      · have H2 := Lib.hid (by have := HE.out; rwa [if_pos e] at this)
        have Q2 := Lib.hid (by have := Q.out; rwa [e] at this)
        clear HE Q e
        go_wp2_with fail
        refine Q2.out.mono ?_
        rintro e w1 ⟨rfl, hb1⟩
        have HB1 := Lib.hid (below_trans (HB.out.alloc HS.out _) hb1 (by have := HS.out; simp <;> omega))
        have HO1 := Lib.hid (own_newer (HO.out.alloc _) hb1)
        have HX1 := (box_new wr 87 #[.int .i64 x.f0, .int .i64 x.f1, .int .i64 x.f2, .int .i64 x.f3, .int .i64 x.f4]).new hb1
        have hs1 := hb1.size
        simp at hs1
        have x0 : w1.cell? ⟨wr.heap.size, 0, none⟩ = _ := HX1.at_ rfl
        have x1 : w1.cell? ⟨wr.heap.size, 1, none⟩ = _ := HX1.at_ rfl
        have x2 : w1.cell? ⟨wr.heap.size, 2, none⟩ = _ := HX1.at_ rfl
        have x3 : w1.cell? ⟨wr.heap.size, 3, none⟩ = _ := HX1.at_ rfl
        have x4 : w1.cell? ⟨wr.heap.size, 4, none⟩ = _ := HX1.at_ rfl
        clear hb1 HX1
        go_wp2_with (at_builtin; refine wp_app_lit rfl _ _ _ rfl w.heap.size 87 (.agg #[.int .i64 0, .int .i64 0, .int .i64 0, .int .i64 0, .int .i64 0]) 5 40 Tryz.underlying81 info rfl (by decide) _ _ _ rfl HO1.out #[.int .i64 x.f0, .int .i64 x.f1, .int .i64 x.f2, .int .i64 x.f3, .int .i64 x.f4] 1 1 _ rfl (by simp) rfl (ones x) (by have := HN.out; unfold maxLen; omega) (by have := HN.out; omega) (by have := HS.out; omega) ?_; intro v1 w2 ho1 hb1)
        have HO2 := Lib.hid (show w2.ownsRow w.heap.size 87 5 v1 ((l.take (k + 1)).filter P).length (cNode ((l.take (k + 1)).filter P)) by
          rw [H2.out]
          simpa [cNode, List.flatMap_append, TNode.cells] using ho1)
        have HB2 := Lib.hid (HB1.out.trans hb1)
        clear ho1 hb1
        go_wp2_with fail
        go_roundg (n - (k + 1))
        case measure => omega
        case rel => exact ⟨k + 1, by omega, by omega, by go_num, HO2, HB2⟩
      · have H2 := Lib.hid (by have := HE.out; rwa [if_neg e] at this)
        have e' : P x = false := by simpa using e
        have Q2 := Lib.hid (by have := Q.out; rwa [e'] at this)
        clear HE Q e e'
        go_wp2_with fail
        refine Q2.out.mono ?_
        rintro e w1 ⟨rfl, hb1⟩
        have HB1 := Lib.hid (below_trans (HB.out.alloc HS.out _) hb1 (by have := HS.out; simp <;> omega))
        have HO1 := Lib.hid (own_newer (HO.out.alloc _) hb1)
        clear hb1
        go_wp2_with fail
        go_roundg (n - (k + 1))
        case measure => omega
        case rel => exact ⟨k + 1, by omega, by omega, by go_num, by rw [H2.out]; exact HO1, HB1⟩
    · obtain rfl : k = n := by omega
      have HO2 := Lib.hid (show wr.ownsRow w.heap.size _ _ _ (l.filter P).length (cNode (l.filter P)) by have := HO.out; rwa [List.take_of_length_le (by rw [HL.out]; omega)] at this)
      clear HO
      go_wp2_with fail
      go_ret
      exact ⟨_, rfl, HO2.out, HB.out⟩
end Go.Proofs.YtkegapaococmcaaGreat.kChN
namespace Go.Proofs.YtkegapaococmcaaGreat
open Go Go.ChangeShapes Go.WideShapes Go.ChangeAt Go.RowKit Go.Lib
set_option linter.unusedVariables false
set_option linter.unusedSimpArgs false
set_option maxRecDepth 100000
set_option maxHeartbeats 4000000
set_option maxHeartbeats 4000000 in
theorem clo_node (x : TNode) (w : World) : Calls Tryz.prog 56 #[.agg #[.int .i64 x.f0, .int .i64 x.f1, .int .i64 x.f2, .int .i64 x.f3, .int .i64 x.f4]] w (Says (.int .i64 x.f0) w) := by
  go_enter Tryz.func56, Tryz.ntmps56
  go_wp2_with fail
  go_ret
  exact ⟨rfl, by repeat (first | exact Below.refl _ _ | (refine Below.alloc ?_ (by simp <;> omega) _))⟩
set_option maxHeartbeats 8000000 in
theorem map_node (l : List TNode) (A : Option Addr) (n c lo hi : Nat) (w : World) (hn : n ≤ 1048576) (hr : Rd w lo hi 5 A n (cNode l)) :
    Calls Tryz.prog 55 #[.slice A n c, .func (.func 56) #[] #[]] w (Makes 3 1 n (i64s (l.map fun x => x.f0)) w) := by
  have HL := Lib.hid (rd_len TNode.len hr (by decide))
  have HLm := Lib.hid (show (l.map fun x => x.f0).length = n by rw [List.length_map, HL.out])
  have hmk : ∀ W, (Instr.makeSlice 31 (.int .i64 n) (.int .i64 n)).run Tryz.prog W = .ok (.slice (some ⟨W.heap.size, 0, none⟩) n n) (W.alloc (.cells (madeCells #[.int .i64 0] n) 3)) := fun W => run_make_row' (P := Tryz.prog) 31 3 (.int .i64 0) 8 Tryz.underlying31 (by kernel_rfl) rfl .i64 .i64 n (by omega) (by omega) W
  have HR := Lib.hid hr
  obtain ⟨ts, hts⟩ : ∃ ts, (l.map fun x => x.f0) = ts := ⟨_, rfl⟩
  have HTs := Lib.hid hts
  rw [hts] at HLm ⊢
  clear hr hts
  go_enter Tryz.func55, Tryz.ntmps55
  go_wp2_with fail
  go_loopg [13] n (fun gg i wr => ∃ k : Nat, k ≤ n ∧ n - k ≤ gg ∧ i = .int .i64 k ∧ Hid (Pre wr w.heap.size 3 n (i64s ts) k) ∧ Hid (Below w.heap.size w wr))
  case atStart => exact ⟨0, Nat.zero_le _, by omega, rfl, Lib.hid (pre_start (by rw [size_madeCells])), Lib.hid ((Below.refl _ _).alloc (Nat.le_refl _) _)⟩
  case round =>
    obtain ⟨k, hk, hg, rfl, HP, HB⟩ := hrel
    have HS := Lib.hid HB.out.size
    by_cases hlt : k < n
    · obtain ⟨b, off, x, rfl, _, _, hz, hc⟩ := rd_elem TNode.len (HR.out.new HB.out) HL.out hlt
      have c0 : wr.cell? ⟨b, off + k * 5, none⟩ = _ := hc 0 _ rfl
      have c1 := hc 1 _ rfl
      have c2 := hc 2 _ rfl
      have c3 := hc 3 _ rfl
      have c4 := hc 4 _ rfl
      have HV : Hid ((i64s ts)[k]? = some (.int .i64 x.f0)) := Lib.hid (by rw [← HTs.out]; unfold i64s; rw [List.getElem?_map, List.getElem?_map, hz]; rfl)
      have C0 := Lib.hid (fun W => clo_node x W)
      clear hz hc
      go_wp2_with (go_at_call 56; refine Calls.mono (C0.out _) ?_; rintro e w1 ⟨rfl, hb1⟩; have HP1 := Lib.hid ((HP.out.new ((Below.refl _ _).alloc (Nat.le_refl _) _)).new hb1); have HB1 := Lib.hid (below_trans (HB.out.alloc HS.out _) hb1 (by simp)); obtain ⟨q0, d0⟩ := HP1.out.cell (j := k) hlt; have g0 := HP1.out.frozen k; clear hb1 c0 c1 c2 c3 c4)
      go_roundg (n - (k + 1))
      case measure => omega
      case rel => exact ⟨k + 1, by omega, by omega, by go_num, Lib.hid (HP1.out.step HV.out), Lib.hid (HB1.out.setCell (by simp) _)⟩
    · obtain rfl : n = k := by omega
      go_wp2_with fail
      go_ret
      exact ⟨_, _, rfl, (HP.out.at_ (by omega) |> fun h => Pre.fr (size := 1) (by simpa using h) (by omega) (by have := HP.out.lt; exact this) (by unfold maxLen; omega) (by unfold i64s; rw [List.length_map, HLm.out]; omega)), HB.out⟩

end Go.Proofs.YtkegapaococmcaaGreat
namespace Go.Proofs.YtkegapaococmcaaGreat
open Go Go.ChangeShapes Go.WideShapes Go.ChangeAt Go.RowKit Go.Lib Go.Shelf
set_option linter.unusedVariables false
set_option linter.unusedSimpArgs false
set_option maxRecDepth 100000
attribute [local go_sem] Oper.semAt_some
theorem frt_own {β : Type} (n₀ B : Nat) (t : TypeId) (k : β → Nat) (f : β → List Value) : Own (fun s W => ∃ A c, Boxed W B t (.slice A (k s) c) ∧ (0 < k s → W.ownsRow n₀ 87 5 (.slice A (k s) c) (k s) (f s))) := by
  rintro s P Y row ⟨A, c, hv, hr⟩ hg hrow
  refine ⟨A, c, hv.kept hg (fun e' => ?_), fun h0 => ?_⟩
  · obtain ⟨o, ho, hc⟩ := hrow B e'.symm
    rw [show P.heap[B]? = _ from hv] at ho; cases ho; cases hc
  · have h := hr h0
    refine h.kept hg ?_
    rcases h.2 with ⟨h1, _⟩ | ⟨g, cap, cur, h1, _, hgb, _⟩
    · exact .inl (by rw [h1]; rfl)
    · refine .inr fun e' => ?_
      obtain ⟨o, ho, hc⟩ := hrow g (by rw [h1] at e'; simpa [Value.ownBlock] using e'.symm)
      rw [hgb] at ho; cases ho; cases hc
theorem frt_fr {W : World} {n₀ n c : Nat} {A : Option Addr} {xs : List TNode} (hl : xs.length = n) (h : 0 < n → W.ownsRow n₀ 87 5 (.slice A n c) n (cNode xs)) : Fr W n₀ W.heap.size 87 5 A n c (cNode xs) := by
  refine ⟨by rw [flat_len TNode.len, hl], fun h0 => ⟨h h0, fun a ha => ?_⟩⟩
  rcases (h h0).2 with ⟨_, hz⟩ | ⟨g, cap, cur, hv, hg, hh, _⟩
  · omega
  · injection hv with hv _ _
    rw [hv] at ha
    injection ha with ha
    subst ha
    exact (Array.getElem?_eq_some_iff.1 hh).1
theorem row_tightN {W : World} {base D n c : Nat} {A : Option Addr} {xs : List TNode} (hl : xs.length = n) (h : 0 < n → W.ownsRow base 87 5 (.slice A n c) n (cNode xs)) (hD : W.heap[D]? = some (.deferred (some []))) :
    ∃ (lo hi : Nat), Fr W lo hi 87 5 A n c (cNode xs) ∧ base ≤ lo ∧ hi ≤ W.heap.size ∧ ¬ (lo ≤ D ∧ D < hi) := by
  rcases Nat.eq_zero_or_pos n with h0 | h0
  · exact ⟨base, 0, ⟨by rw [flat_len TNode.len, hl], fun h1 => absurd h1 (by omega)⟩, Nat.le_refl _, Nat.zero_le _, by omega⟩
  · have ho := h h0
    rcases ho.2 with ⟨_, hz⟩ | ⟨g, cap, cur, hv, hg, hh, rest⟩
    · omega
    · have hA : A = some ⟨g, 0, none⟩ := by injection hv
      refine ⟨g, g + 1, ⟨ho.1, fun _ => ⟨⟨ho.1, .inr ⟨g, cap, cur, hv, Nat.le_refl _, hh, rest⟩⟩, fun a ha => by rw [hA] at ha; injection ha with ha; subst ha; exact Nat.lt_succ_self _⟩⟩, hg, (Array.getElem?_eq_some_iff.1 hh).1, fun hn => ?_⟩
      obtain rfl : g = D := by omega
      rw [hh] at hD
      cases hD
set_option maxHeartbeats 16000000 in
theorem replay_in (m : Nat) (hm : 3 ≤ m) (gf : Nat) (lb : Array Value) (ys : List TEdit) (N : Nat) (l : List TNode) (A : Option Addr) (n c lo hi : Nat) (w : World) (hn : n ≤ 1048576) (hr : Rd w lo hi 5 A n (cNode l)) (hok : Hid (cNodeOk l))
    (eg : ∀ args w, (callFunc gf args).run Tryz.prog w = .ok (.enter gf args) w) (hF : Fence.wide.fn gf)
    (hs : ∀ W, Below w.heap.size w W → SeqStopsK Fence.wide (m - 1) Tryz.prog gf lb (fun x : TEdit => #[Value.agg #[.int .i64 x.f0, .int .i64 x.f1, .int .i64 x.f2, .int .i64 x.f3, .int .i64 x.f4, .int .i64 x.f5]]) (Below w.heap.size) (fun zs => zs = ys) (fun _ => True) N W) :
    CallsIn Fence.wide m Tryz.prog 190 #[.slice A n c, .func (.func gf) #[] lb] w fun e w' => ∃ (A' : Option Addr) (c' : Nat), e = .returned (.slice A' (mRun l ys).length c') ∧ Fr w' w.heap.size w'.heap.size 87 5 A' (mRun l ys).length c' (cNode (mRun l ys)) ∧ Below w.heap.size w w' := by
  have h1 : 1 ≤ m := by omega
  have HR := Lib.hid hr
  have HLn := Lib.hid (rd_len TNode.len hr (by decide))
  clear hr
  refine callsIn_of_wp_marks Tryz.func190 rfl trivial ?_ rfl
  simp only [Tryz.ntmps190, List.size_toArray, List.length_cons, List.length_nil, Nat.reduceAdd, Nat.reduceSub, Array.replicate_succ, Array.replicate_zero, List.push_toArray, List.append_toArray, List.nil_append, List.cons_append]
  gi_wp2
  refine ⟨trivial, (callsIn_wide.2 (clone_Node l A n c lo hi _ hn HR.out)).mono ?_⟩
  rintro e w1 ⟨v, rfl, ho, hb⟩
  obtain ⟨A1, c1, rfl, _⟩ := fr_of_own ho
  have hB0 : Below w.heap.size w w1 := hb
  have hbx : Boxed (w1.alloc (.cells #[.slice A1 n c1] 81)) w1.heap.size 81 (.slice A1 n c1) := Boxed.new w1 81 (.slice A1 n c1)
  have hB1 : Below w.heap.size w (w1.alloc (.cells #[.slice A1 n c1] 81)) := hB0.alloc hB0.size _
  have ho1 : (w1.alloc (.cells #[.slice A1 n c1] 81)).ownsRow w.heap.size 87 5 (.slice A1 n c1) n (cNode l) := ho.alloc _
  clear hb
  gi_wp2
  refine wpIn_rangeFunc_ownH rfl h1 (gf := gf) (lb := lb) rfl hF eg
    (hs _ hB1) (fun h k => h.trans k) (belowK_b hB1.size) (Below.refl _ _) (fun _ => rfl)
    (fun pre W => (∃ A' c', Boxed W w1.heap.size 81 (.slice A' (mRun l pre).length c') ∧ (0 < (mRun l pre).length → W.ownsRow w.heap.size 87 5 (.slice A' (mRun l pre).length c') (mRun l pre).length (cNode (mRun l pre)))) ∧ (Below w.heap.size w W ∧ w1.heap.size + 1 ≤ W.heap.size))
    (fun _ _ _ => False)
    (OwnFrom.and (Own.from (frt_own w.heap.size w1.heap.size 81 (fun pre : List TEdit => (mRun l pre).length) (fun pre => cNode (mRun l pre))) _) (OwnFrom.and (ownFrom_below (Nat.le_refl _) hB1.size) (fun _ _ _ _ hs hg _ => Nat.le_trans hs hg.size)))
    (fun _ _ _ _ _ hs _ _ => hs)
    ⟨⟨A1, c1, by rw [show (mRun l []).length = n from HLn.out]; exact hbx, fun _ => by rw [show (mRun l []).length = n from HLn.out]; exact ho1⟩, hB1, by simp⟩
    (fun x a' W => ∃ Bx, w1.heap.size + 1 ≤ Bx ∧ BoxAt W Bx 71 #[.int .i64 x.f0, .int .i64 x.f1, .int .i64 x.f2, .int .i64 x.f3, .int .i64 x.f4, .int .i64 x.f5] ∧ a' = { tmps := #[.slice A n c, .func (.func gf) #[] lb, undef, undef, .slice none 0 0, .pointer (some ⟨w1.heap.size, 0, none⟩), .pointer (some ⟨Bx, 0, none⟩), undef, undef, .slice A n c, .slice A1 n c1, .func (.func gf) #[] lb, .agg #[.int .i64 x.f0, .int .i64 x.f1, .int .i64 x.f2, .int .i64 x.f3, .int .i64 x.f4, .int .i64 x.f5], undef, undef, undef, undef, undef, undef, undef, undef, undef], defers := [] })
    (fun x a' _ X Y row hs hg hr => by obtain ⟨Bx, h1, h2, h3⟩ := hs; exact ⟨Bx, h1, box_far_row h2 hg (fun r e => (hr r e).2), h3⟩)
    ?assign ?body ?done ?stop
  case assign =>
    rintro ll pre x W K ⟨⟨A', c', hv, hrow⟩, hB, hsz⟩ hK
    gi_wp2
    exact hK _ _ ((KeepsOthers.alloc _ _).from _) ((Below.refl _ W).alloc hB.size _) ⟨⟨A', c', hv.alloc _, fun h0 => (hrow h0).alloc _⟩, hB.alloc hB.size _, by simp; omega⟩ ⟨W.heap.size, hsz, box_new W 71 _, rfl⟩
  case body =>
    rintro ll pre x a' W hl ⟨r, hr'⟩ ⟨⟨A', c', hv, hrow⟩, hB, hsz⟩ ⟨Bx, hBx, hX, rfl⟩ hlt
    have hc := hv.cell
    have hfz := hv.frozen
    have x0 := hX.at_ (j := 0) rfl
    have x1 := hX.at_ (j := 1) rfl
    have x2 := hX.at_ (j := 2) rfl
    have x3 := hX.at_ (j := 3) rfl
    have x4 := hX.at_ (j := 4) rfl
    have x5 := hX.at_ (j := 5) rfl
    have hFr := frt_fr rfl hrow
    have hfit : Hid (cNodeOk (mRun l pre)) := Lib.hid (run_fits pre hok.out)
    have hlen : (mRun l pre).length ≤ 1048576 := run_le pre hok.out (by omega) (by rw [HLn.out]; exact hn)
    have CE := impl_edited x (mRun l pre) A' (mRun l pre).length c' w.heap.size W.heap.size W hlen hFr.rd hfit
    have hla := run_last l pre x
    have hbw := hv.lt
    cases hq : mEdited (mRun l pre) x with
    | none =>
      have hm2 : mRun l (pre ++ [x]) = mRun l pre := by rw [hla]; unfold mApply; rw [hq]; rfl
      replace CE := Lib.hid (apply_none CE hq)
      clear hq hla hFr
      gi_wp2
      refine ⟨trivial, fun h => (by simp [Fence.wide] at h), CallsIn.mono (CallsIn.inRound ll (callsIn_wide.2 CE.out)) ?_⟩
      rintro e w2 ⟨rfl, hb2⟩
      gi_wp2
      refine ⟨(KeepsOthers.of_grownBy (grown_of_below hb2) (fun j o h => by cases h)).from _, hb2.mono hB.size, ⟨A', c', ?_, ?_⟩, hB.trans (hb2.mono hB.size), Nat.le_trans hsz hb2.size⟩
      · rw [hm2]; exact (hb2.block _ hbw).trans hv
      · rw [hm2]; exact fun h0 => own_newer (hrow h0) hb2
    | some q =>
      have hm2 : mRun l (pre ++ [x]) = q := by rw [hla]; unfold mApply; rw [hq]; rfl
      replace CE := Lib.hid (apply_some W.heap.size (Nat.le_refl _) CE hq)
      clear hq hla hFr
      gi_wp2
      refine ⟨trivial, fun h => (by simp [Fence.wide] at h), CallsIn.mono (CallsIn.inRound ll (callsIn_wide.2 CE.out)) ?_⟩
      rintro e w2 ⟨A2, c2, rfl, hF2, hb2⟩
      have hv2 : Boxed w2 w1.heap.size 81 (.slice A' (mRun l pre).length c') := (hb2.block _ hbw).trans hv
      have hcc := hv2.cell
      have hff := hv2.frozen
      gi_wp2
      refine ⟨((KeepsOthers.of_grownBy (grown_of_below hb2) (fun j o h => by cases h)).trans (KeepsOthers.setCell _ _ _)).from _, (hb2.mono hB.size).setCell (by have := hB0.size; simpa using this) _, ⟨A2, c2, ?_, ?_⟩, (hB.trans (hb2.mono hB.size)).setCell (by have := hB0.size; simpa using this) _, by simp [World.setCell]; exact Nat.le_trans hsz hb2.size⟩
      · rw [hm2]; exact hv2.set _
      · rw [hm2]
        intro h0
        have h := (hF2.keep (w' := w2.setCell ⟨w1.heap.size, 0, none⟩ (.slice A2 q.length c2)) (fun b b1 b2 b3 => Below.heap_setCell w2 ⟨w1.heap.size, 0, none⟩ _ b (by simp; omega))).2 h0
        exact own_base h.1 hB.size
  case done =>
    rintro D zs W hD rfl ⟨⟨A', c', hv, hrow⟩, hB, hsz⟩ hK
    have hc := hv.cell
    obtain ⟨lo', hi', hF, hlo, hhi', hnD⟩ := row_tightN rfl hrow hK
    gi_wp2
    refine ⟨by simp, .inl ⟨_, _, rfl, run_takeDeferred hK, ?_⟩⟩
    refine ⟨_, results_tmp rfl _ _ _, A', c', rfl, ?_, ?_⟩
    · refine (hF.keep fun b b1 b2 b3 => World.putObj_heap_other (fun e => hnD (by omega))).mono hlo ?_
      simp
      omega
    · exact hB.trans (belowK_b (w := w) (Nat.le_refl _) W D _ _ (by have := hB1.size; simp at hD this; omega) hK rfl rfl)
  case stop =>
    rintro D c pre W _ _ h _
    exact h.elim
end Go.Proofs.YtkegapaococmcaaGreat
namespace Go.Proofs.YtkegapaococmcaaGreat
open Go Go.ChangeShapes Go.WideShapes Go.ChangeAt Go.RowKit Go.Lib Go.Shelf
set_option linter.unusedVariables false
set_option linter.unusedSimpArgs false
set_option maxRecDepth 100000
theorem mRun_le {l : List TNode} (es : List TEdit) (h : cNodeOk l) : (mRun l es).length ≤ l.length + 16 := run_le es h (by omega) (by omega)
theorem run_any (l0 : List TNode) (A0 : Option Addr) (n0 c0 lo0 hi0 : Nat) (l1 : List TEdit) (A1 : Option Addr) (n1 c1 lo1 hi1 : Nat) (w : World) (h0 : n0 ≤ 1048576) (r0 : Rd w lo0 hi0 5 A0 n0 (cNode l0)) (b0 : Hid (cNodeOk l0)) (h1 : n1 ≤ 1048576) (r1 : Rd w lo1 hi1 6 A1 n1 (cEdit l1)) :
    Calls Tryz.prog 125 #[.slice A0 n0 c0, .slice A1 n1 c1] w (Makes 87 5 (mRun l0 l1).length (cNode (mRun l0 l1)) w) := by
  have R0 := Lib.hid (r0.old (by decide))
  have R1 := Lib.hid (r1.old (by decide))
  clear r0 r1
  generalize hM : mRun l0 l1 = M
  have HM := Lib.hid hM
  clear hM
  go_enter Tryz.func125, Tryz.ntmps125
  go_wp2_with fail
  refine (make_Values A1 n1 c1 w).mono ?_
  rintro e w1 ⟨Bl, rfl, kl, hb⟩
  have HB1 := Lib.hid hb
  have hs := hb.size
  have CR := Lib.hid (callsIn_wide.1 (replay_in 3 (Nat.le_refl _) 241 #[.pointer (some ⟨Bl, 0, none⟩)] l1 n1 l0 A0 n0 c0 0 w.heap.size w1 h0 (R0.out.new hb) b0 (enters_of Tryz.func241 (by kernel_rfl) rfl) trivial
    (fun W hW => stops_Values 2 (by decide) w1.heap.size l1 A1 n1 c1 0 w.heap.size Bl W (kl.new hW) ((R1.out.new hb).new hW) hs kl.lt h1 hW.size)))
  rw [HM.out] at CR
  generalize hml : M.length = k at CR
  have HK := Lib.hid hml
  clear hb kl hml
  go_wp2_with fail
  refine CR.out.mono ?_
  rintro e w2 ⟨A', c', rfl, hF, hb2⟩
  have HF := Lib.hid (hF.mono (lo' := w.heap.size) hs (Nat.le_refl _))
  have HB2 := Lib.hid (below_trans HB1.out hb2 (Nat.le_refl _))
  clear hF hb2 CR
  go_wp2_with fail
  go_ret
  exact ⟨A', c', by rw [HK.out]; rfl, by rw [HK.out]; exact HF.out, HB2.out⟩
set_option maxHeartbeats 8000000 in
theorem spec_run (l0 : List TNode) (A0 : Option Addr) (n0 c0 lo0 hi0 : Nat) (l1 : List TEdit) (A1 : Option Addr) (n1 c1 lo1 hi1 : Nat) (w : World) (h0 : n0 ≤ 1048576) (r0 : Rd w lo0 hi0 5 A0 n0 (cNode l0)) (b0 : Hid (cNodeOk l0)) (h1 : n1 ≤ 1048576) (r1 : Rd w lo1 hi1 6 A1 n1 (cEdit l1)) (b1 : Hid (cEditOk l1)) :
    Calls Tryz.prog 116 #[.slice A0 n0 c0, .slice A1 n1 c1] w (Makes 87 5 (mRun l0 l1).length (cNode (mRun l0 l1)) w) := by
  have HL0 := Lib.hid (rd_len TNode.len r0 (by decide))
  have HL := Lib.hid (rd_len TEdit.len r1 (by decide))
  have R0 := Lib.hid r0
  have R1 := Lib.hid r1
  clear r0 r1
  go_enter Tryz.func116, Tryz.ntmps116
  go_wp2_with fail
  refine (l5_copy l0 A0 n0 c0 lo0 hi0 _ h0 R0.out).mono ?_
  rintro e w1 ⟨v, rfl, ho, hb⟩
  obtain ⟨A', c', rfl, hF⟩ := fr_of_own ho
  have HF := Lib.hid hF
  have HB := Lib.hid hb
  clear ho hF hb
  go_wp2_with fail
  go_loopg [5, 6] n1 (fun gg v i wr => ∃ (k nn : Nat) (L : List TNode) (A' : Option Addr) (c' : Nat), k ≤ n1 ∧ n1 - k ≤ gg ∧ i = .int .i64 k ∧ v = .slice A' nn c' ∧ Hid (mRun l0 (l1.take k) = L ∧ L.length = nn) ∧ Hid (Fr wr w.heap.size wr.heap.size 87 5 A' nn c' (cNode L)) ∧ Hid (Below w.heap.size w wr))
  case atStart => exact ⟨0, n0, l0, A', c', Nat.zero_le _, by omega, rfl, rfl, Lib.hid ⟨rfl, HL0.out⟩, HF, HB⟩
  case round =>
    clear HF HB
    obtain ⟨k, nn, L, A', c', hk, hg, rfl, rfl, HM, HF, HB⟩ := hrel
    by_cases hlt : k < n1
    · obtain ⟨b, off, x, rfl, _, _, hz, hc⟩ := rd_elem TEdit.len (R1.out.new HB.out) HL.out hlt
      have q0 : wr.cell? ⟨b, off + k * 6, none⟩ = _ := hc 0 _ rfl
      have q1 := hc 1 _ rfl
      have q2 := hc 2 _ rfl
      have q3 := hc 3 _ rfl
      have q4 := hc 4 _ rfl
      have q5 := hc 5 _ rfl
      have hfit : Hid (cNodeOk L) := Lib.hid (by rw [← HM.out.1]; exact run_fits _ b0.out)
      have hnn : nn ≤ 1048576 := by
        have h := run_le (l1.take k) b0.out (M := 1048576) (by omega) (by rw [HL0.out]; exact h0)
        rw [HM.out.1, HM.out.2] at h
        exact h
      have CS := Lib.hid (spec_apply x L A' nn c' w.heap.size wr.heap.size wr hnn HF.out.rd HF.out.cap hfit (Lib.hid (b1.out x (List.mem_of_getElem? hz))))
      have HM2 := Lib.hid (show mRun l0 (l1.take (k + 1)) = mApply L x by rw [run_snoc l0 hz, HM.out.1])
      clear hz hc HF hfit hnn
      generalize mEdited L x = oq at CS
      generalize oq.isSome = ob at CS
      generalize mApply L x = L2 at CS HM2
      generalize hnl : L2.length = n2 at CS
      have HNL := Lib.hid hnl
      clear hnl
      go_wp2_with fail
      refine CS.out.mono ?_
      rintro e w2 ⟨A2, c2, he, hF2, hb2⟩
      rw [HNL.out] at he hF2
      subst he
      have HF2 := Lib.hid (hF2.mono (lo' := w.heap.size) HB.out.size (Nat.le_refl _))
      have HB2 := Lib.hid (below_trans HB.out hb2 (Nat.le_refl _))
      clear hF2 hb2 CS
      go_wp2_with fail
      go_roundg (n1 - (k + 1))
      case measure => omega
      case rel => exact ⟨k + 1, n2, L2, A2, c2, by omega, by omega, by go_num, rfl, Lib.hid ⟨HM2.out, HNL.out⟩, HF2, HB2⟩
    · obtain rfl : k = n1 := by omega
      have HE := Lib.hid (show mRun l0 l1 = L by rw [← HM.out.1, List.take_of_length_le (by rw [HL.out]; omega)])
      go_wp2_with fail
      go_ret
      exact ⟨A', c', by rw [HE.out, HM.out.2]; rfl, by rw [HE.out, HM.out.2]; exact HF.out, HB.out⟩
theorem spec_RunEdits (l0 : List TNode) (A0 : Option Addr) (n0 c0 lo0 hi0 : Nat) (l1 : List TEdit) (A1 : Option Addr) (n1 c1 lo1 hi1 : Nat) (w : World) (h0 : n0 ≤ 1048576) (r0 : Rd w lo0 hi0 5 A0 n0 (cNode l0)) (b0 : Hid (cNodeOk l0)) (h1 : n1 ≤ 1048576) (r1 : Rd w lo1 hi1 6 A1 n1 (cEdit l1)) (b1 : Hid (cEditOk l1)) :
    Calls Tryz.prog 116 #[.slice A0 n0 c0, .slice A1 n1 c1] w (Makes 87 5 (mRun l0 l1).length (cNode (mRun l0 l1)) w) := spec_run l0 A0 n0 c0 lo0 hi0 l1 A1 n1 c1 lo1 hi1 w h0 r0 b0 h1 r1 b1
theorem impl_RunEdits (l0 : List TNode) (A0 : Option Addr) (n0 c0 lo0 hi0 : Nat) (l1 : List TEdit) (A1 : Option Addr) (n1 c1 lo1 hi1 : Nat) (w : World) (h0 : n0 ≤ 1048576) (r0 : Rd w lo0 hi0 5 A0 n0 (cNode l0)) (b0 : Hid (cNodeOk l0)) (h1 : n1 ≤ 1048576) (r1 : Rd w lo1 hi1 6 A1 n1 (cEdit l1)) (b1 : Hid (cEditOk l1)) :
    Calls Tryz.prog 125 #[.slice A0 n0 c0, .slice A1 n1 c1] w (Makes 87 5 (mRun l0 l1).length (cNode (mRun l0 l1)) w) := run_any l0 A0 n0 c0 lo0 hi0 l1 A1 n1 c1 lo1 hi1 w h0 r0 b0 h1 r1
end Go.Proofs.YtkegapaococmcaaGreat
namespace Go.Proofs.YtkegapaococmcaaGreat
open Go Go.ChangeShapes Go.WideShapes Go.ChangeAt Go.RowKit Go.Lib Go.Shelf
set_option linter.unusedVariables false
set_option linter.unusedSimpArgs false
set_option maxRecDepth 100000
set_option maxHeartbeats 4000000 in
theorem impl_TabDocument (s0 : TSite) (l1 : List TNode) (A1 : Option Addr) (n1 c1 lo1 hi1 : Nat) (l2 : List TEdit) (A2 : Option Addr) (n2 c2 lo2 hi2 : Nat) (l3 : List Int) (A3 : Option Addr) (n3 c3 lo3 hi3 : Nat) (p4 : Int) (w : World) (b0 : Hid (TSite.fit s0)) (h1 : n1 ≤ 1048576) (r1 : Rd w lo1 hi1 5 A1 n1 (cNode l1)) (b1 : Hid (cNodeOk l1)) (h2 : n2 ≤ 1048576) (r2 : Rd w lo2 hi2 6 A2 n2 (cEdit l2)) (b2 : Hid (cEditOk l2)) (h3 : n3 ≤ 1048576) (r3 : Rd w lo3 hi3 1 A3 n3 (i64s l3)) (b3 : Hid (I64s l3)) :
    Calls Tryz.prog 52 #[.agg #[.int .i64 s0.f0, .int .i64 s0.f1, .slice A1 n1 c1, .slice A2 n2 c2, .slice A3 n3 c3, .int .i64 p4]] w (Makes 87 5 (mRun l1 l2).length (cNode (mRun l1 l2)) w) := by
  have HB0 := Lib.hid ((Below.refl w.heap.size w).alloc (Nat.le_refl _) (.cells #[.int .i64 s0.f0, .int .i64 s0.f1, .slice A1 n1 c1, .slice A2 n2 c2, .slice A3 n3 c3, .int .i64 p4] 85))
  have CR := Lib.hid (impl_RunEdits l1 A1 n1 c1 lo1 hi1 l2 A2 n2 c2 lo2 hi2 (w.alloc (.cells #[.int .i64 s0.f0, .int .i64 s0.f1, .slice A1 n1 c1, .slice A2 n2 c2, .slice A3 n3 c3, .int .i64 p4] 85)) h1 (r1.alloc _) b1 h2 (r2.alloc _) b2)
  clear r1 r2 r3 h1 h2 h3
  generalize mRun l1 l2 = M at CR ⊢
  generalize hml : M.length = k at CR ⊢
  clear hml
  go_enter Tryz.func52, Tryz.ntmps52
  go_wp2_with fail
  refine CR.out.mono ?_
  rintro e w1 ⟨A', c', rfl, hF, hb⟩
  have HF := Lib.hid (hF.mono (lo' := w.heap.size) (by simp) (Nat.le_refl _))
  have HB := Lib.hid (below_trans HB0.out hb (by simp))
  clear hF hb CR
  go_wp2_with fail
  go_ret
  exact ⟨A', c', rfl, HF.out, HB.out⟩
set_option maxHeartbeats 4000000 in
theorem spec_TabDocument (s0 : TSite) (l1 : List TNode) (A1 : Option Addr) (n1 c1 lo1 hi1 : Nat) (l2 : List TEdit) (A2 : Option Addr) (n2 c2 lo2 hi2 : Nat) (l3 : List Int) (A3 : Option Addr) (n3 c3 lo3 hi3 : Nat) (p4 : Int) (w : World) (b0 : Hid (TSite.fit s0)) (h1 : n1 ≤ 1048576) (r1 : Rd w lo1 hi1 5 A1 n1 (cNode l1)) (b1 : Hid (cNodeOk l1)) (h2 : n2 ≤ 1048576) (r2 : Rd w lo2 hi2 6 A2 n2 (cEdit l2)) (b2 : Hid (cEditOk l2)) (h3 : n3 ≤ 1048576) (r3 : Rd w lo3 hi3 1 A3 n3 (i64s l3)) (b3 : Hid (I64s l3)) :
    Calls Tryz.prog 42 #[.agg #[.int .i64 s0.f0, .int .i64 s0.f1, .slice A1 n1 c1, .slice A2 n2 c2, .slice A3 n3 c3, .int .i64 p4]] w (Makes 87 5 (mRun l1 l2).length (cNode (mRun l1 l2)) w) := by
  have HB0 := Lib.hid ((Below.refl w.heap.size w).alloc (Nat.le_refl _) (.cells #[.int .i64 s0.f0, .int .i64 s0.f1, .slice A1 n1 c1, .slice A2 n2 c2, .slice A3 n3 c3, .int .i64 p4] 85))
  have CR := Lib.hid (spec_RunEdits l1 A1 n1 c1 lo1 hi1 l2 A2 n2 c2 lo2 hi2 (w.alloc (.cells #[.int .i64 s0.f0, .int .i64 s0.f1, .slice A1 n1 c1, .slice A2 n2 c2, .slice A3 n3 c3, .int .i64 p4] 85)) h1 (r1.alloc _) b1 h2 (r2.alloc _) b2)
  clear r1 r2 r3 h1 h2 h3
  generalize mRun l1 l2 = M at CR ⊢
  generalize hml : M.length = k at CR ⊢
  clear hml
  go_enter Tryz.func42, Tryz.ntmps42
  go_wp2_with fail
  refine CR.out.mono ?_
  rintro e w1 ⟨A', c', rfl, hF, hb⟩
  have HF := Lib.hid (hF.mono (lo' := w.heap.size) (by simp) (Nat.le_refl _))
  have HB := Lib.hid (below_trans HB0.out hb (by simp))
  clear hF hb CR
  go_wp2_with fail
  go_ret
  exact ⟨A', c', rfl, HF.out, HB.out⟩
end Go.Proofs.YtkegapaococmcaaGreat
