/- slices.Sort and slices.Compact at a slice of numbers of the call's own; the program's ascending. No condition but the length. -/
import Derived.Test.YtejcioenoofjlaaGreatShelf
import Derived.Test.YtejcioenoofjlaaGreatAscM
import Derived.Test.YtejcioenoofjlaaGreatSlI
import Derived.Test.YtejcioenoofjlaaGreatRws
namespace Go.Proofs.YtejcioenoofjlaaGreat
open Go Go.ChangeShapes Go.WideShapes Go.ChangeAt Go.RowKit Go.Lib Go.Sort
set_option linter.unusedVariables false
set_option linter.unusedSimpArgs false
set_option maxRecDepth 100000
theorem putRow_row {w : World} {g m : Nat} {E : TypeId} {f : Nat → Value} (h : w.rowIs g E m f) (d : Array Int) :
    (putRow (Value.int .i64) w g 0 d).rowIs g E m (fun j => if j < d.size then .int .i64 d[j]! else f j) := by
  obtain ⟨cur, hb, hs, hc⟩ := h
  refine ⟨putCells (Value.int .i64) 0 d cur, ?_, by simp [putCells, hs], fun i hi => ?_⟩
  · unfold putRow mapBlock
    simp only [Array.getElem?_modify, if_true, hb, Option.map_some, onCells]
  · have := hc i hi
    simp only [putCells, Array.getElem?_mapIdx, this, Option.map_some, Nat.zero_le, true_and, Nat.zero_add, Nat.sub_zero]
theorem putRow_below {B g : Nat} (w : World) (d : Array Int) (hB : B ≤ g) : Below B w (putRow (Value.int .i64) w g 0 d) :=
  ⟨rfl, rfl, rfl, by simp [putRow, mapBlock], fun k hk => by
    have e : ¬ g = k := by omega
    simp only [putRow, mapBlock, Array.getElem?_modify, if_neg e]⟩
theorem ahead_below {B : Nat} (w : World) (n : Nat) : Below B w (Sort.ahead w n) := ⟨rfl, rfl, rfl, Nat.le_refl _, fun _ _ => rfl⟩
theorem grow_below (w : World) (os : Array Obj) : Below w.heap.size w (Sort.grow w os) :=
  ⟨rfl, rfl, rfl, by simp, fun k hk => by simp only [Sort.grow, Array.getElem?_append_left hk]⟩
theorem rowIs_ahead {w : World} {g m : Nat} {E : TypeId} {f : Nat → Value} (h : w.rowIs g E m f) (n : Nat) : (Sort.ahead w n).rowIs g E m f := h
theorem holds_of_row {w : World} {g cap n : Nat} {E : TypeId} {f : Nat → Value} {l : List Int} (h : w.rowIs g E cap f) (hl : l.length = n) (hn : n ≤ cap) (hf : ∀ j u, (i64s l)[j]? = some u → f j = u) : Holds (Value.int .i64) w g 0 l.toArray := by
  intro j hj
  have hj' : j < l.length := by simpa using hj
  refine ⟨?_, h.frozen (0 + j)⟩
  rw [Nat.zero_add, h.cell (by omega)]
  have e := hf j (.int .i64 l[j]) (by simp [i64s, hj'])
  rw [e]
  simp [hj']
theorem sort_fr (l : List Int) (A : Option Addr) (n c lo hi : Nat) (w : World) (hn : n ≤ 1099511627776) (hF : Fr w lo hi 3 1 A n c (i64s l)) :
    Calls Tryz.prog 36 #[.slice A n c] w fun e w' => e = .returned (.tuple #[]) ∧ Fr w' lo hi 3 1 A n c (i64s (l.mergeSort fun x y => decide (x ≤ y))) ∧ Chg lo hi w w' := by
  have hl : l.length = n := by have := hF.len; simpa [i64s] using this
  rcases Nat.eq_zero_or_pos n with h0 | h0
  · subst h0
    have e : l = [] := List.eq_nil_of_length_eq_zero hl
    subst e
    refine (Tryz.slices_Sort_int_none A c w).mono ?_
    rintro e w' ⟨rfl, rfl⟩
    exact ⟨rfl, by simpa using hF, Chg.refl _ _ _⟩
  · obtain ⟨g, cap, rfl, h1, h2, h3, rfl, h5, f, hr, hf⟩ := hF.row h0
    rw [Nat.mul_one] at hr
    have hH := holds_of_row hr hl h3 hf
    refine (show Calls Tryz.prog 36 #[.slice (some ⟨g, 0, none⟩) n c] w _ from by rw [← hl]; exact Tryz.slices_Sort_int g 0 c l w hH hr.lt (by omega)).mono ?_
    rintro e w' ⟨rfl, k, os, rfl⟩
    have hr2 := putRow_row (rowIs_ahead hr k) (l.mergeSort fun x y => decide (x ≤ y)).toArray
    have hlen : (l.mergeSort fun x y => decide (x ≤ y)).length = n := by rw [List.length_mergeSort, hl]
    have hc1 : Chg lo hi w (putRow (Value.int .i64) (Sort.ahead w k) g 0 (l.mergeSort fun x y => decide (x ≤ y)).toArray) := by
      have hb := (ahead_below (B := w.heap.size) w k)
      refine ⟨rfl, rfl, rfl, by simp [putRow, mapBlock, Sort.ahead], fun i hi' hn' => ?_⟩
      have e : ¬ g = i := by omega
      simp only [putRow, mapBlock, Array.getElem?_modify, if_neg e, Sort.ahead]
    generalize putRow (Value.int .i64) (Sort.ahead w k) g 0 (l.mergeSort fun x y => decide (x ≤ y)).toArray = W at hr2 hc1 ⊢
    have hF2 : Fr W lo hi 3 1 (some ⟨g, 0, none⟩) n c (i64s (l.mergeSort fun x y => decide (x ≤ y))) := by
      refine fr_of_rowcap (by rw [Nat.mul_one]; exact hr2) h1 h2 h3 h5 (by simp [i64s, hl]) fun j u hu => ?_
      have hj : j < (l.mergeSort fun x y => decide (x ≤ y)).length := by
        have := (List.getElem?_eq_some_iff.1 hu).1
        simpa [i64s] using this
      have hj2 : j < (l.mergeSort fun x y => decide (x ≤ y)).toArray.size := by simpa using hj
      rw [if_pos hj2]
      unfold i64s at hu
      obtain ⟨z, hz, rfl⟩ := map_get _ _ _ _ hu
      have hz2 : (l.mergeSort fun x y => decide (x ≤ y)).toArray[j]! = z := by
        simp only [List.getElem!_toArray, List.getElem!_eq_getElem?_getD, hz, Option.getD_some]
      rw [hz2]
    exact ⟨rfl, hF2.new (grow_below W os), hc1.trans (chg_of_new (grow_below W os))⟩
theorem compact_fr (l : List Int) (A : Option Addr) (n c lo hi : Nat) (w : World) (hn : n ≤ 1099511627776) (hF : Fr w lo hi 3 1 A n c (i64s l)) :
    Calls Tryz.prog 37 #[.slice A n c] w fun e w' => e = .returned (.slice A (compact l).length c) ∧ Fr w' lo hi 3 1 A (compact l).length c (i64s (compact l)) ∧ Chg lo hi w w' := by
  have hl : l.length = n := by have := hF.len; simpa [i64s] using this
  rcases Nat.eq_zero_or_pos n with h0 | h0
  · subst h0
    have e : l = [] := List.eq_nil_of_length_eq_zero hl
    subst e
    refine (Tryz.slices_Compact_int_empty A c w).mono ?_
    rintro e w' ⟨rfl, rfl⟩
    exact ⟨rfl, hF, Chg.refl _ _ _⟩
  · obtain ⟨g, cap, rfl, h1, h2, h3, rfl, h5, f, hr, hf⟩ := hF.row h0
    rw [Nat.mul_one] at hr
    have hH := holds_of_row hr hl h3 hf
    have hle : (compact l).length ≤ n := by
      have h := List.length_filter_le (keeps l.toArray) (List.range l.length)
      unfold compact compactUpTo
      rw [List.length_map]
      simp at h
      omega
    refine (show Calls Tryz.prog 37 #[.slice (some ⟨g, 0, none⟩) n c] w _ from by rw [← hl]; exact Tryz.slices_Compact_int g 0 c l w hH (by omega) (by omega)).mono ?_
    rintro e w' ⟨rfl, k, rfl⟩
    have hr2 := putRow_row (rowIs_ahead hr k) (compact l ++ List.replicate (l.length - (compact l).length) 0).toArray
    have hc1 : Chg lo hi w (putRow (Value.int .i64) (Sort.ahead w k) g 0 (compact l ++ List.replicate (l.length - (compact l).length) 0).toArray) := by
      refine ⟨rfl, rfl, rfl, by simp [putRow, mapBlock, Sort.ahead], fun i hi' hn' => ?_⟩
      have e : ¬ g = i := by omega
      simp only [putRow, mapBlock, Array.getElem?_modify, if_neg e, Sort.ahead]
    generalize putRow (Value.int .i64) (Sort.ahead w k) g 0 (compact l ++ List.replicate (l.length - (compact l).length) 0).toArray = W at hr2 hc1 ⊢
    have hF2 : Fr W lo hi 3 1 (some ⟨g, 0, none⟩) (compact l).length c (i64s (compact l)) := by
      refine fr_of_rowcap (by rw [Nat.mul_one]; exact hr2) h1 h2 (by omega) h5 (by simp [i64s]) fun j u hu => ?_
      have hj : j < (compact l).length := by
        have := (List.getElem?_eq_some_iff.1 hu).1
        simpa [i64s] using this
      have hj2 : j < (compact l ++ List.replicate (l.length - (compact l).length) 0).toArray.size := by simp; omega
      rw [if_pos hj2]
      unfold i64s at hu
      obtain ⟨z, hz, rfl⟩ := map_get _ _ _ _ hu
      have hz2 : (compact l ++ List.replicate (l.length - (compact l).length) 0).toArray[j]! = z := by
        simp only [List.getElem!_toArray, List.getElem!_eq_getElem?_getD, List.getElem?_append_left hj, hz, Option.getD_some]
      rw [hz2]
    exact ⟨rfl, hF2, hc1⟩
/-- The program's ascending, at a slice of the caller's own. -/
theorem ascending_any (l : List Int) (A : Option Addr) (n c lo hi : Nat) (w : World) (hn : n ≤ 1099511627776) (hF : Fr w lo hi 3 1 A n c (i64s l)) :
    Calls Tryz.prog 27 #[.slice A n c] w fun e w' => e = .returned (.slice A (mAsd l).length c) ∧ Fr w' lo hi 3 1 A (mAsd l).length c (i64s (mAsd l)) ∧ Chg lo hi w w' := by
  have HF := Lib.hid hF
  clear hF
  go_enter Tryz.func27, Tryz.ntmps27
  go_wp2_with fail
  refine (sort_fr l A n c lo hi w hn HF.out).mono ?_
  rintro e w1 ⟨rfl, h1, h2⟩
  have H1 := Lib.hid h1
  have C1 := Lib.hid h2
  clear h1 h2
  have CC := compact_fr (l.mergeSort fun x y => decide (x ≤ y)) A n c lo hi w1 hn H1.out
  rw [asc_compact l] at CC
  replace CC := Lib.hid CC
  go_wp2_with fail
  refine CC.out.mono ?_
  rintro e w2 ⟨rfl, h3, h4⟩
  have H3 := Lib.hid h3
  have C4 := Lib.hid (C1.out.trans h4)
  clear h3 h4
  go_wp2_with fail
  go_ret
  exact ⟨rfl, H3.out, C4.out⟩
end Go.Proofs.YtejcioenoofjlaaGreat
