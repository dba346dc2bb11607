/- DeriveFromString, of the program and of the model. -/
import Derived.Test.YteldjnjjdjlpnaaDoorValid
import Derived.Test.YteldjnjjdjlpnaaDoorKHash
import Derived.Test.YteldjnjjdjlpnaaDoorB2I
import Derived.Test.YteldjnjjdjlpnaaDoorMaxMin
import Derived.Deep.RegionHeld3
import Derived.Laws.IdiomStrings
namespace Go.Proofs.YteldjnjjdjlpnaaDoor
open Go Go.ChangeShapes Go.WideShapes Go.ChangeAt Go.RowKit Go.Lib
set_option linter.unusedVariables false
set_option linter.unusedSimpArgs false
set_option maxRecDepth 100000
def mB (s : ByteArray) : List Int := s.data.toList.map fun b => (b.toNat : Int)
theorem mB_len (s : ByteArray) : (mB s).length = s.size := by simp [mB]
theorem mB_ok (s : ByteArray) : U8s (mB s) := by
  intro z hz
  obtain ⟨b, _, rfl⟩ := List.mem_map.1 hz
  have := b.toNat_lt
  omega
theorem mB2I_ok (s : ByteArray) (h : s.size ≤ 1048576) : I64s (mB2I (mB s)) := by
  intro z hz
  rcases List.mem_cons.1 hz with rfl | hz
  · rw [mB_len]; omega
  · have := mB_ok s z hz; omega
/-- What a string becomes as bytes: a new slice that reads as its bytes. -/
theorem conv_bytes (s : ByteArray) (W : World) : ∃ c w', (convert 9 22 (.string s)).run Tryd.prog W = .ok (.slice (some ⟨W.heap.size, 0, none⟩) s.size c) w' ∧ Below W.heap.size W w' ∧
    Rd w' W.heap.size w'.heap.size 1 (some ⟨W.heap.size, 0, none⟩) s.size (u8s (mB s)) := by
  refine ⟨_, _, run_bytes_of_string W _ _ 5 s Tryd.underlying9 Tryd.underlying22 Tryd.underlying5, ((Below.refl _ _).drew.alloc (Nat.le_refl _) _), ?_⟩
  refine ⟨by simp [mB], fun _ => ⟨W.heap.size, 0, rfl, Nat.le_refl _, by simp, fun j u hu => ?_⟩⟩
  have hj : j < s.data.size := by
    have := (List.getElem?_eq_some_iff.1 hu).1
    simpa [mB] using this
  rw [Nat.zero_add]
  have h1 := World.cell?_alloc_mark W.drew (bytesRow s (grownCap W s.size 0 5)) 5 ((bytesRow s (grownCap W s.size 0 5)).size, (bytesRow s (grownCap W s.size 0 5)).size + 1) j
  rw [bytesRow_at s _ j hj] at h1
  have hu2 : u = .int .u8 (s.data[j].toNat : Int) := by
    simp [mB] at hu
    obtain ⟨x, hx, rfl⟩ := hu
    rw [Array.getElem?_eq_getElem hj] at hx
    cases hx
    rfl
  rw [hu2]
  exact h1
def mDerive (k : Int) (s : ByteArray) : Int := if mValid (mKHash k (mB2I (mB s))) = true then mKHash k (mB2I (mB s)) else 1
theorem derive_max (k : Int) (s : ByteArray) : mDerive k s = mMax 1 (mKHash k (mB2I (mB s))) := by
  have := mKHash_bd k (mB2I (mB s))
  unfold mDerive mMax
  simp only [mValid, inR, Bool.and_eq_true, decide_eq_true_eq]
  split <;> split <;> omega

set_option maxHeartbeats 4000000 in
theorem impl_DeriveFromString (k : Int) (s : ByteArray) (w : World) (hT : Pow10 w) (wk : (Lit.int .i64 k).wf = true) (hs : s.size ≤ 1048576) : Calls Tryd.prog 24 #[.int .i64 k, .string s] w (Says (.int .i64 (mDerive k s)) w) := by
  obtain ⟨a, hc⟩ := key_cell hT
  obtain ⟨cq, w1, hcv, hb1, hr1⟩ := conv_bytes s w
  have HB1 := Lib.hid hb1
  have C0 := Lib.hid (impl_BytesToInts' (mB s) (some ⟨w.heap.size, 0, none⟩) s.size cq w.heap.size w1.heap.size w1 (by omega) hr1 (Lib.hid (mB_ok s)))
  have C1 := fun A c lo hi W (hr : Rd W lo hi 1 A (mB2I (mB s)).length (i64s (mB2I (mB s)))) => impl_KeyedHash' k (mB2I (mB s)) A (mB2I (mB s)).length c lo hi W wk (by rw [mB2I_len, mB_len]; omega) hr (Lib.hid (mB2I_ok s hs))
  unfold mDerive
  generalize mKHash k (mB2I (mB s)) = z at C1 ⊢
  replace C1 := Lib.hid C1
  have HC := Lib.hid hc
  clear hb1 hr1 hT wk hc
  cases h : mValid z
  · have HI := Lib.hid (show (if (false = true) then z else 1) = (1 : Int) from rfl)
    rw [HI.out]
    have C2 := Lib.hid (fun W (hc : W.cell? ⟨0, 0, none⟩ = some (.iface 184 (.pointer (some a)))) => impl_checkKey_no z a W hc h)
    have C3 := Lib.hid (fun W => is_same a W)
    clear h
    go_enter Tryd.func24, Tryd.ntmps24
    go_wp2_with fail
    refine Calls.mono C0.out ?_
    rintro e w2 ⟨A2, c2, rfl, hF, hb2⟩
    have HF := Lib.hid hF.rd
    have HB2 := Lib.hid (below_trans HB1.out hb2 (Nat.le_refl _))
    clear hb2 hF
    go_wp2_with fail
    refine Calls.mono (C1.out _ _ _ _ _ HF.out) ?_
    rintro e w3 ⟨rfl, hb3⟩
    have HB3 := Lib.hid (below_trans HB2.out hb3 (Nat.le_refl _))
    clear hb3
    go_wp2_with fail
    have hc3 := cell_nw HB3.out HC.out
    refine wp_region_held_drew (S := fun w' => Below w3.heap.size w3 w') (by kernel_rfl) ?_ (fun hHeld => ?_)
    · exact ((Below.refl _ _).drew)
    refine wpAnyH_take (i := 0) (oi := ⟨some 11, _, _, _, _, _⟩) (v := ?_) rfl (by kernel_rfl) (by kernel_rfl) (by kernel_rfl) (fun _ _ _ h => h) (Or.inl ⟨by kernel_rfl, ?_⟩) hHeld ?_
    rotate_left
    focus (intro W hS; have cg := cell_nw hS hc3; clear hS; first | (go_simp; done) | (go_simp; with_reducible rfl))
    try simp only [Act.put, List.setIfInBounds_toArray, List.set_cons_zero, List.set_cons_succ]
    refine wpAnyH_take (i := 2) (oi := ⟨some 13, _, _, _, _, _⟩) (v := ?_) rfl (by kernel_rfl) (by kernel_rfl) (by kernel_rfl) (fun _ _ _ h => h) (Or.inl ⟨by kernel_rfl, ?_⟩) hHeld ?_
    rotate_left
    focus (intro W hS; have cg := cell_nw hS hc3; clear hS; first | (go_simp; done) | (go_simp; with_reducible rfl))
    try simp only [Act.put, List.setIfInBounds_toArray, List.set_cons_zero, List.set_cons_succ]
    refine wpAnyH_ready (rs := [1]) (by kernel_rfl) (by simp) ?_
    refine AllReadyH.cons (o := ⟨some 12, _, _, _, _, _⟩) rfl (fun K hK => ?_) AllReadyH.nil
    go_simp
    refine Calls.mono (C2.out _ (cell_nw hHeld hc3)) ?_
    rintro e x1 ⟨rfl, hb1⟩
    refine hK.out _ _ (below_trans hHeld hb1 (Nat.le_refl _)) (fun hHeld' => ?_)
    clear hK K hHeld hb1
    have hHeld := hHeld'
    clear hHeld'
    try simp only [Act.put, List.setIfInBounds_toArray, List.set_cons_zero, List.set_cons_succ]
    refine wpAnyH_ready (rs := [3]) (by kernel_rfl) (by simp) ?_
    refine AllReadyH.cons (o := ⟨some 14, _, _, _, _, _⟩) rfl (fun K hK => ?_) AllReadyH.nil
    go_simp
    refine Calls.mono (C3.out _) ?_
    rintro e x2 ⟨rfl, hb1⟩
    refine hK.out _ _ (below_trans hHeld hb1 (Nat.le_refl _)) (fun hHeld' => ?_)
    clear hK K hHeld hb1
    have hHeld := hHeld'
    clear hHeld'
    try simp only [Act.put, List.setIfInBounds_toArray, List.set_cons_zero, List.set_cons_succ]
    refine wpAnyH_done (by kernel_rfl) ?_ _
    go_wp2_with fail
    go_ret
    exact ⟨rfl, below_trans HB3.out hHeld (Nat.le_refl _)⟩
  · have HI := Lib.hid (show (if (true = true) then z else 1) = z from rfl)
    rw [HI.out]
    have C2 := Lib.hid (fun W => impl_checkKey_yes z W h)
    have C3 := Lib.hid (fun W => is_nil a W)
    clear h
    go_enter Tryd.func24, Tryd.ntmps24
    go_wp2_with fail
    refine Calls.mono C0.out ?_
    rintro e w2 ⟨A2, c2, rfl, hF, hb2⟩
    have HF := Lib.hid hF.rd
    have HB2 := Lib.hid (below_trans HB1.out hb2 (Nat.le_refl _))
    clear hb2 hF
    go_wp2_with fail
    refine Calls.mono (C1.out _ _ _ _ _ HF.out) ?_
    rintro e w3 ⟨rfl, hb3⟩
    have HB3 := Lib.hid (below_trans HB2.out hb3 (Nat.le_refl _))
    clear hb3
    go_wp2_with fail
    have hc3 := cell_nw HB3.out HC.out
    refine wp_region_held_drew (S := fun w' => Below w3.heap.size w3 w') (by kernel_rfl) ?_ (fun hHeld => ?_)
    · exact ((Below.refl _ _).drew)
    refine wpAnyH_take (i := 0) (oi := ⟨some 11, _, _, _, _, _⟩) (v := ?_) rfl (by kernel_rfl) (by kernel_rfl) (by kernel_rfl) (fun _ _ _ h => h) (Or.inl ⟨by kernel_rfl, ?_⟩) hHeld ?_
    rotate_left
    focus (intro W hS; have cg := cell_nw hS hc3; clear hS; first | (go_simp; done) | (go_simp; with_reducible rfl))
    try simp only [Act.put, List.setIfInBounds_toArray, List.set_cons_zero, List.set_cons_succ]
    refine wpAnyH_take (i := 2) (oi := ⟨some 13, _, _, _, _, _⟩) (v := ?_) rfl (by kernel_rfl) (by kernel_rfl) (by kernel_rfl) (fun _ _ _ h => h) (Or.inl ⟨by kernel_rfl, ?_⟩) hHeld ?_
    rotate_left
    focus (intro W hS; have cg := cell_nw hS hc3; clear hS; first | (go_simp; done) | (go_simp; with_reducible rfl))
    try simp only [Act.put, List.setIfInBounds_toArray, List.set_cons_zero, List.set_cons_succ]
    refine wpAnyH_ready (rs := [1]) (by kernel_rfl) (by simp) ?_
    refine AllReadyH.cons (o := ⟨some 12, _, _, _, _, _⟩) rfl (fun K hK => ?_) AllReadyH.nil
    go_simp
    refine Calls.mono (C2.out _) ?_
    rintro e x1 ⟨rfl, hb1⟩
    refine hK.out _ _ (below_trans hHeld hb1 (Nat.le_refl _)) (fun hHeld' => ?_)
    clear hK K hHeld hb1
    have hHeld := hHeld'
    clear hHeld'
    try simp only [Act.put, List.setIfInBounds_toArray, List.set_cons_zero, List.set_cons_succ]
    refine wpAnyH_ready (rs := [3]) (by kernel_rfl) (by simp) ?_
    refine AllReadyH.cons (o := ⟨some 14, _, _, _, _, _⟩) rfl (fun K hK => ?_) AllReadyH.nil
    go_simp
    refine Calls.mono (C3.out _) ?_
    rintro e x2 ⟨rfl, hb1⟩
    refine hK.out _ _ (below_trans hHeld hb1 (Nat.le_refl _)) (fun hHeld' => ?_)
    clear hK K hHeld hb1
    have hHeld := hHeld'
    clear hHeld'
    try simp only [Act.put, List.setIfInBounds_toArray, List.set_cons_zero, List.set_cons_succ]
    refine wpAnyH_done (by kernel_rfl) ?_ _
    go_wp2_with fail
    go_ret
    exact ⟨rfl, below_trans HB3.out hHeld (Nat.le_refl _)⟩
end Go.Proofs.YteldjnjjdjlpnaaDoor
