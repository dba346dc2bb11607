/- slices.SortFunc at a slice of nodes of the call's own, by Id; the closure of an addition. No condition but the length. -/
import Derived.Test.YtomoigbhikihfaaShelf
import Derived.Test.YtomoigbhikihfaaTNode
import Derived.Test.YtomoigbhikihfaaCmpOr
namespace Go.Proofs.Ytomoigbhikihfaa
open Go Go.ChangeShapes Go.WideShapes Go.ChangeAt Go.RowKit Go.Lib Go.Sort
set_option linter.unusedVariables false
set_option linter.unusedSimpArgs false
set_option maxRecDepth 100000
instance : Inhabited TNode := ⟨⟨0, 0, 0, 0, 0⟩⟩
theorem putArr_row {w : World} {g m : Nat} {E : TypeId} {f : Nat → Value} (h : w.rowIs g E m f) (d : Array Value) :
    (putRow id w g 0 d).rowIs g E m (fun j => if j < d.size then d[j]! else f j) := by
  obtain ⟨cur, hb, hs, hc⟩ := h
  refine ⟨putCells id 0 d cur, ?_, by simp [putCells, hs], fun i hi => ?_⟩
  · unfold putRow mapBlock
    simp only [Array.getElem?_modify, if_true, hb, Option.map_some, onCells]
  · have := hc i hi
    simp only [putCells, Array.getElem?_mapIdx, this, Option.map_some, Nat.zero_le, true_and, Nat.zero_add, Nat.sub_zero, id]
theorem srt_grow (w : World) (os : Array Obj) : Below w.heap.size w (Sort.grow w os) :=
  ⟨rfl, rfl, rfl, by simp, fun k hk => by simp only [Sort.grow, Array.getElem?_append_left hk]⟩
theorem srt_ahead {w : World} {g m : Nat} {E : TypeId} {f : Nat → Value} (h : w.rowIs g E m f) (n : Nat) : (Sort.ahead w n).rowIs g E m f := h
theorem flat_node (l : List TNode) {j : Nat} {u : Value} (hu : (cNode l)[j]? = some u) : j < l.toArray.size * 5 ∧ (flatK TNode.cells 5 l.toArray)[j]! = u := by
  have hj : j < l.length * 5 := by
    have := (List.getElem?_eq_some_iff.1 hu).1
    rwa [flat_len TNode.len] at this
  have hj' : j < l.toArray.size * 5 := by simpa using hj
  refine ⟨hj', ?_⟩
  have hk : j / 5 < l.length := by omega
  have hr : j % 5 < (l[j / 5]).cells.length := by rw [TNode.len]; exact Nat.mod_lt _ (by decide)
  have h2 := flat_get (c := TNode.cells) TNode.len l (j / 5) (j % 5) l[j / 5] _ (List.getElem?_eq_getElem hk) (List.getElem?_eq_getElem hr)
  have he : j / 5 * 5 + j % 5 = j := by omega
  rw [he] at h2
  have h3 : some u = some (l[j / 5].cells[j % 5]) := hu.symm.trans h2
  injection h3 with h3
  rw [get_flatK _ _ _ _ hj', h3]
  have h4 : l.toArray[j / 5]! = l[j / 5] := by simp [hk]
  rw [h4, List.getElem!_eq_getElem?_getD, List.getElem?_eq_getElem hr]; rfl
theorem holdsN_of_row {w : World} {g cap n : Nat} {E : TypeId} {f : Nat → Value} {l : List TNode} (h : w.rowIs g E (cap * 5) f) (hl : l.length = n) (hn : n ≤ cap) (hf : ∀ j u, (cNode l)[j]? = some u → f j = u) : HoldsK TNode.cells 5 w g 0 l.toArray := by
  intro j hj
  rw [size_flatK] at hj
  have hj' : j < l.length * 5 := by simpa using hj
  refine ⟨?_, h.frozen (0 + j)⟩
  rw [Nat.zero_add, h.cell (by omega)]
  have hlt : j < (cNode l).length := by rw [flat_len TNode.len]; exact hj'
  have hu := List.getElem?_eq_getElem hlt
  rw [hf j _ hu, (flat_node l hu).2]; rfl
theorem ltId_eq (x y : TNode) : ltOf (fun x y : TNode => mCmp x.f0 y.f0) x y = decide (x.f0 < y.f0) := by
  unfold ltOf mCmp
  by_cases h1 : x.f0 < y.f0
  · simp [h1]
  · by_cases h2 : y.f0 < x.f0 <;> simp [h1, h2]
theorem swoId : SWO (ltOf fun x y : TNode => mCmp x.f0 y.f0) where
  irrefl x := by rw [ltId_eq]; simp
  trans x y z h1 h2 := by rw [ltId_eq] at *; simp at *; omega
  ntrans x y z h1 h2 := by rw [ltId_eq] at *; simp at *; omega
theorem clo_sort (x y : TNode) (W : World) : Calls Try.prog 104 #[.agg #[.int .i64 x.f0, .int .i64 x.f1, .int .i64 x.f2, .int .i64 x.f3, .int .i64 x.f4], .agg #[.int .i64 y.f0, .int .i64 y.f1, .int .i64 y.f2, .int .i64 y.f3, .int .i64 y.f4]] W fun e w' => e = .returned (.int .i64 (mCmp x.f0 y.f0)) ∧ ∃ q os', w' = Sort.grow (W.drewN q) os' := by
  have hcon := fun W' => impl_cmp x.f0 y.f0 W'
  generalize mCmp x.f0 y.f0 = r at hcon ⊢
  go_enter Try.func104, Try.ntmps104
  go_wp2_with (go_at_call 105; refine (hcon _).mono ?_; rintro e w' ⟨rfl, rfl⟩)
  go_ret
  exact ⟨rfl, 0, _, by rw [alloc_eq_grow, alloc_eq_grow, grow_grow]; rfl⟩
set_option maxHeartbeats 4000000 in
theorem sortN_fr (l : List TNode) (A : Option Addr) (n c lo hi : Nat) (w : World) (h0 : 0 < n) (hn : n ≤ 1099511627776) (hF : Fr w lo hi 54 5 A n c (cNode l)) :
    Calls Try.prog 103 #[.slice A n c, .func (.func 104) #[] #[]] w fun e w' => e = .returned (.tuple #[]) ∧ ∃ d : List TNode, d.Perm l ∧ d.Pairwise (fun x y => x.f0 ≤ y.f0) ∧ Fr w' lo hi 54 5 A n c (cNode d) ∧ Chg lo hi w w' := by
  have hl := rd_len TNode.len hF.rd (by decide)
  obtain ⟨g, cap, rfl, h1, h2, h3, rfl, h5, f, hr, hf⟩ := hF.row h0
  have hH := holdsN_of_row hr hl h3 hf
  have eg : ∀ args w, (callFunc 104 args).run Try.prog w = .ok (.enter 104 args) w := enters_of Try.func104 (by kernel_rfl) rfl
  have hcl : CmpLays Try.prog 104 #[] TNode.cells 5 (fun x y => mCmp x.f0 y.f0) g 0 l.toArray.size w := fun _ _ _ _ x y => clo_sort x y _
  refine (show Calls Try.prog 103 #[.slice (some ⟨g, 0, none⟩) n c, .func (.func 104) #[] #[]] w _ from by
    rw [show n = l.toArray.size by simpa using hl.symm]
    exact Try.slices_SortFunc 5 (fun w => by kernel_rfl) (fun w => by kernel_rfl) TNode.cells (fun _ => rfl) (fun x v hv => by simp [TNode.cells] at hv; rcases hv with rfl | rfl | rfl | rfl | rfl <;> rfl) (fun x y => mCmp x.f0 y.f0) swoId 104 #[] g 0 c l.toArray w eg hcl hH hr.lt (by simp; omega)).mono ?_
  rintro e w' ⟨rfl, d, k, os, ⟨hp1, hp2, hp3⟩, hs, rfl⟩
  have hds : d.size = l.length := by simpa using hp1
  have hperm : d.toList.Perm l := by
    have h := hp3
    rw [show l.toArray.size = d.size from hp1.symm, Array.extract_size] at h
    rw [show d.size = l.toArray.size from hp1, Array.extract_size] at h
    simpa using h
  have hpw : d.toList.Pairwise (fun x y => x.f0 ≤ y.f0) := by
    rw [List.pairwise_iff_getElem]
    intro i j hi hj hij
    have hi' : i < d.size := by simpa using hi
    have hj' : j < d.size := by simpa using hj
    have h := hs i j (Nat.zero_le _) hij (by simp; omega)
    rw [ltId_eq] at h
    rw [getElem!_pos d i hi', getElem!_pos d j hj'] at h
    simp at h
    simpa using h
  have hr2 := putArr_row (srt_ahead hr k) (flatK TNode.cells 5 d)
  have hc1 : Chg lo hi w (putRow id (Sort.ahead w k) g 0 (flatK TNode.cells 5 d)) := by
    refine ⟨rfl, rfl, rfl, by simp [putRow, mapBlock, Sort.ahead], fun i hi' hn' => ?_⟩
    have e : ¬ g = i := by omega
    simp only [putRow, mapBlock, Array.getElem?_modify, if_neg e, Sort.ahead]
  have hF2 : Fr (putRow id (Sort.ahead w k) g 0 (flatK TNode.cells 5 d)) lo hi 54 5 (some ⟨g, 0, none⟩) n c (cNode d.toList) := by
    refine fr_of_rowcap hr2 h1 h2 h3 h5 (by rw [flat_len TNode.len]; simp; omega) fun j u hu => ?_
    have h := flat_node d.toList hu
    rw [Array.toArray_toList] at h
    rw [if_pos (by rw [size_flatK]; exact h.1)]
    exact h.2
  refine ⟨rfl, d.toList, hperm, hpw, ?_, ?_⟩
  · exact hF2.new (srt_grow _ os)
  · exact hc1.trans (chg_of_new (srt_grow _ os))
end Go.Proofs.Ytomoigbhikihfaa
