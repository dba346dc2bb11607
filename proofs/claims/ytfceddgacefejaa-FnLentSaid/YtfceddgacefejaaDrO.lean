/- DrawLendGrants. No condition of its own. -/
import Derived.Test.YtfceddgacefejaaDrN
import Derived.Test.YtfceddgacefejaaDrT
import Derived.Deep.Cut
import Derived.Deep.RegionHeld3
namespace Go.Proofs.Ytfceddgacefejaa
open Go Go.ChangeShapes Go.WideShapes Go.ChangeAt Go.RowKit Go.Lib
set_option linter.unusedVariables false
set_option linter.unusedSimpArgs false
set_option maxRecDepth 100000
/-- An extension, a site and a time are drawn. -/
def DrawnLG (w : World) (e : Ending) (w' : World) : Prop :=
  ∃ (x : Int) (s : TSite) (t : Int), e = .returned (.tuple #[.int .i64 x, .agg #[.int .i64 s.f0, .int .i64 s.f1], .int .i64 t]) ∧ 0 ≤ x ∧ x ≤ 6 ∧ s.fit ∧ -1 ≤ t ∧ t ≤ 9996 ∧ Below w.heap.size w w'
set_option maxHeartbeats 16000000 in
theorem drawLG_any (n cap : Nat) (A : Option Addr) (w : World) (hn : n ≤ 140737488355328) (hb : BytesAt w w.heap.size A n) :
    Calls Try.prog 126 #[.slice A n cap] w (DrawnLG w) := by
  have hn' : n ≤ maxLen := by unfold maxLen; omega
  have HY := Lib.hid hb
  have R0 := Lib.hid (show BoxAt (w.alloc (.cells #[.int .i64 0, .int .i64 0] 27)) w.heap.size 27 #[.int .i64 0, .int .i64 0] from by simpa using box_new w 27 #[.int .i64 0, .int .i64 0])
  have HB := Lib.hid ((Below.refl w.heap.size w).alloc (by first | exact Nat.le_refl _ | (simp; done) | (simp; omega)) (.cells #[.int .i64 0, .int .i64 0] 27))
  clear hb
  go_enter Try.func126, Try.ntmps126
  go_wp2_with fail
  refine Calls.mono (dr_new n cap A w _ (w.heap.size + 1) (by simp) hn HY.out HB.out) ?_
  rintro e w1 ⟨rfl, hc, hb1⟩
  have HC := Lib.hid hc
  replace R0 := Lib.hid (dr_box_low R0.out hb1 (by omega))
  replace HB := Lib.hid (HB.out.trans (hb1.mono (by omega)))
  have l1 : (w.heap.size + 1) < w1.heap.size := HC.out.lt
  clear hc hb1
  go_wp2_with fail
  refine Calls.mono (site_any (w.heap.size + 1) n cap A _ hn' HC.out) ?_
  rintro e w2 ⟨s, hs, rfl, hc, hg⟩
  replace R0 := Lib.hid (R0.out.grown hg (by omega))
  replace HB := Lib.hid (dr_below HB.out (by omega) hg)
  replace HC := Lib.hid hc
  have l2 : (w.heap.size + 1) < w2.heap.size := HC.out.lt
  clear hc hg
  obtain ⟨x2, hx⟩ : ∃ x, x = World.setRow (w2.alloc (.cells #[.int .i64 0, .int .i64 0] 27)) w2.heap.size #[.int .i64 s.f0, .int .i64 s.f1] := ⟨_, rfl⟩
  have HX2 := Lib.hid hx
  have OLD2 := Lib.hid (box_new w2 27 #[.int .i64 0, .int .i64 0])
  replace R0 := Lib.hid (show BoxAt x2 w.heap.size 27 #[.int .i64 0, .int .i64 0] by rw [hx]; exact box_far (R0.out.alloc_ _) (by omega))
  have KS := Lib.hid (show BoxAt x2 w2.heap.size 27 #[.int .i64 s.f0, .int .i64 s.f1] by rw [hx]; exact box_row OLD2.out)
  replace HC := Lib.hid (show Cur x2 (w.heap.size + 1) A n cap by rw [hx]; exact dr_cur_row (HC.out.new _) (by omega) _)
  replace HB := Lib.hid (show Below w.heap.size w x2 by rw [hx]; exact below_setRow (HB.out.alloc (by have := HB.out.size; omega) _) (by omega) _)
  have m2 : w2.heap.size < x2.heap.size := KS.out.lt
  clear hx
  have HSF := Lib.hid hs
  clear hs
  have LT := Lib.hid (box_new x2 3 #[.int .i64 1, .int .i64 2, .int .i64 5, .int .i64 0, .int .i64 6])
  replace R0 := Lib.hid (R0.out.alloc_ (.cells #[.int .i64 1, .int .i64 2, .int .i64 5, .int .i64 0, .int .i64 6] 3))
  replace KS := Lib.hid (KS.out.alloc_ (.cells #[.int .i64 1, .int .i64 2, .int .i64 5, .int .i64 0, .int .i64 6] 3))
  replace HC := Lib.hid (HC.out.new (.cells #[.int .i64 1, .int .i64 2, .int .i64 5, .int .i64 0, .int .i64 6] 3))
  replace HB := Lib.hid (HB.out.alloc (by have := HB.out.size; omega) (.cells #[.int .i64 1, .int .i64 2, .int .i64 5, .int .i64 0, .int .i64 6] 3))
  have lKS : w2.heap.size < (x2.alloc (.cells #[.int .i64 1, .int .i64 2, .int .i64 5, .int .i64 0, .int .i64 6] 3)).heap.size := by have := KS.out.lt; simpa using this
  have hszL : w.heap.size ≤ (x2.alloc (.cells #[.int .i64 1, .int .i64 2, .int .i64 5, .int .i64 0, .int .i64 6] 3)).heap.size := by have := HB.out.size; simpa using this
  have lg0 := HC.out.lt
  go_wp2_with (refine wpList_store_row rfl 27 _ _ rfl w2.heap.size #[.int .i64 s.f0, .int .i64 s.f1] rfl rfl 27 _ OLD2.out (by kernel_rfl) (by kernel_rfl) (by kernel_rfl) ?_; rw [← HX2.out]; clear HX2 OLD2)
  refine Calls.mono (int_any (w.heap.size + 1) n cap A [1, 2, 5, 0, 6] x2.heap.size (0) (6) _ hn' HC.out (by omega) LT.out (by decide) (by decide) (by decide)) ?_
  rintro e w3 ⟨e0, he0, he1, rfl, hc, hg⟩
  replace R0 := Lib.hid (R0.out.grown hg (by omega))
  replace KS := Lib.hid (KS.out.grown hg (by omega))
  replace HB := Lib.hid (dr_below HB.out (by omega) hg)
  replace HC := Lib.hid hc
  have l3 : (w.heap.size + 1) < w3.heap.size := HC.out.lt
  clear hc hg
  clear LT
  go_wp2_with fail
  refine Calls.mono (once_any (w.heap.size + 1) n cap A 9 _ hn' HC.out (by omega) (by omega)) ?_
  rintro e w4 ⟨b, rfl, hc, hg⟩
  replace R0 := Lib.hid (R0.out.grown hg (by omega))
  replace KS := Lib.hid (KS.out.grown hg (by omega))
  replace HB := Lib.hid (dr_below HB.out (by omega) hg)
  replace HC := Lib.hid hc
  have l4 : (w.heap.size + 1) < w4.heap.size := HC.out.lt
  clear hc hg
  cases b
  · skip
    go_upto_region 6 with fail
    refine wp_region_held_drew (S := fun w' => BoxAt w' w2.heap.size 27 #[.int .i64 s.f0, .int .i64 s.f1] ∧ DatT w (w.heap.size + 1) A n cap [(w.heap.size, 27, 2)] w') (by kernel_rfl) ?_ (fun hHeld => ?_)
    · exact ⟨KS.out.drw, (DatT.mk_ (rs := [(w.heap.size, 27, 2)]) HB.out HC.out (by simp only [List.mem_cons, List.not_mem_nil, or_false, forall_eq_or_imp, forall_eq]; exact ⟨_, rfl, R0.out⟩)).drw⟩
    refine wpAnyH_take (i := 0) (oi := ⟨some 18, _, _, _, _, _⟩) (v := ?_) rfl (by kernel_rfl) (by kernel_rfl) (by kernel_rfl) (fun _ _ _ h => h) (Or.inl ⟨by kernel_rfl, ?_⟩) hHeld ?_
    rotate_left
    focus (intro W hS; skip; clear hS; first | (go_simp; done) | (go_simp; with_reducible rfl))
    try simp only [Act.put, List.setIfInBounds_toArray, List.set_cons_zero, List.set_cons_succ]
    refine wpAnyH_take (i := 1) (oi := ⟨some 19, _, _, _, _, _⟩) (v := ?_) rfl (by kernel_rfl) (by kernel_rfl) (by kernel_rfl) (fun _ _ _ h => h) (Or.inl ⟨by kernel_rfl, ?_⟩) hHeld ?_
    rotate_left
    focus (intro W hS; have c0_0 := (hS.1).at_ (j := 0) rfl; have c0_1 := (hS.1).at_ (j := 1) rfl; clear hS; first | (go_simp; done) | (go_simp; with_reducible rfl))
    try simp only [Act.put, List.setIfInBounds_toArray, List.set_cons_zero, List.set_cons_succ]
    refine wpAnyH_take (i := 2) (oi := ⟨some 20, _, _, _, _, _⟩) (v := ?_) rfl (by kernel_rfl) (by kernel_rfl) (by kernel_rfl) (fun _ _ _ h => h) (Or.inl ⟨by kernel_rfl, ?_⟩) hHeld ?_
    rotate_left
    focus (intro W hS; skip; clear hS; first | (go_simp; done) | (go_simp; with_reducible rfl))
    try simp only [Act.put, List.setIfInBounds_toArray, List.set_cons_zero, List.set_cons_succ]
    refine wpAnyH_ready (rs := [3]) (by kernel_rfl) (by simp) ?_
    refine AllReadyH.cons (o := ⟨some 21, _, _, _, _, _⟩) rfl (fun K hK => ?_) AllReadyH.nil
    go_simp
    have G_L := lit_box hHeld.2 3 #[.int .i64 0, .int .i64 3, .int .i64 9995, .int .i64 9996, .int .i64 (-1)]
    have hL := DatT.al hHeld.2 (.cells #[.int .i64 0, .int .i64 3, .int .i64 9995, .int .i64 9996, .int .i64 (-1)] 3)
    have hb0 := hHeld.1.alloc_ (.cells #[.int .i64 0, .int .i64 3, .int .i64 9995, .int .i64 9996, .int .i64 (-1)] 3)
    refine hK.out _ _ ⟨hb0, hL⟩ (fun hHeld' => ?_)
    clear hK K hHeld hL hb0; have hHeld := hHeld'; clear hHeld'
    try simp only [Act.put, List.setIfInBounds_toArray, List.set_cons_zero, List.set_cons_succ]
    refine wpAnyH_ready (rs := [4]) (by kernel_rfl) (by simp) ?_
    refine AllReadyH.cons (o := ⟨some 22, _, _, _, _, _⟩) rfl (fun K hK => ?_) AllReadyH.nil
    go_simp
    refine Calls.mono (int_any (w.heap.size + 1) n cap A [0, 3, 9995, 9996, -1] _ (-1) (9996) _ hn' (hHeld.2.cur HY.out (by omega)) (by omega) G_L (by decide) (by decide) (by decide)) ?_
    rintro e v1 ⟨t0, hta, htb, rfl, hc, hg⟩
    refine hK.out _ _ ⟨hHeld.1.grown hg (by omega), hHeld.2.call hc hg (by simp <;> omega) (by omega)⟩ (fun hHeld' => ?_)
    clear hK K hHeld hc hg; have hHeld := hHeld'; clear hHeld'
    try simp only [Act.put, List.setIfInBounds_toArray, List.set_cons_zero, List.set_cons_succ]
    refine wpAnyH_take (i := 5) (oi := ⟨some 2, _, _, _, _, _⟩) (v := ?_) rfl (by kernel_rfl) (by kernel_rfl) (by kernel_rfl) (fun _ _ _ h => h) (Or.inl ⟨by kernel_rfl, ?_⟩) hHeld ?_
    rotate_left
    focus (intro W hS; skip; clear hS; first | (go_simp; done) | (go_simp; with_reducible rfl))
    try simp only [Act.put, List.setIfInBounds_toArray, List.set_cons_zero, List.set_cons_succ]
    refine wpAnyH_ready (rs := [6]) (by kernel_rfl) (by simp) ?_
    refine AllReadyH.cons (o := ⟨none, _, _, _, _, _⟩) rfl (fun K hK => ?_) AllReadyH.nil
    rw [if_pos (by rfl)]
    obtain ⟨cz0, hs0, hz0⟩ := hHeld.2.1 (w.heap.size, 27, 2) (by simp)
    refine wp_store_row 27 _ _ rfl w.heap.size #[.int .i64 s.f0, .int .i64 s.f1] rfl rfl 27 _ hz0 (by kernel_rfl) hs0 (by kernel_rfl) ?_
    have G_R0 := box_row (cs := #[.int .i64 s.f0, .int .i64 s.f1]) hz0
    have hHeld2 := hHeld.2.row w.heap.size (by omega) (by omega) #[.int .i64 s.f0, .int .i64 s.f1] (by simp)
    have hb0 := box_far (cs := #[.int .i64 s.f0, .int .i64 s.f1]) (g := w.heap.size) hHeld.1 (by omega)
    clear hz0
    generalize World.setRow _ w.heap.size #[.int .i64 s.f0, .int .i64 s.f1] = v2 at G_R0 hHeld2 hb0 ⊢
    refine hK.out _ _ ⟨hb0, hHeld2⟩ (fun hHeld' => ?_)
    clear hK K hHeld hHeld2 hb0; have hHeld := hHeld'; clear hHeld'
    try simp only [Act.put, List.setIfInBounds_toArray, List.set_cons_zero, List.set_cons_succ]
    refine wpAnyH_take (i := 7) (oi := ⟨some 4, _, _, _, _, _⟩) (v := ?_) rfl (by kernel_rfl) (by kernel_rfl) (by kernel_rfl) (fun _ _ _ h => h) (Or.inl ⟨by kernel_rfl, ?_⟩) hHeld ?_
    rotate_left
    focus (intro W hS; skip; clear hS; first | (go_simp; done) | (go_simp; with_reducible rfl))
    try simp only [Act.put, List.setIfInBounds_toArray, List.set_cons_zero, List.set_cons_succ]
    refine wpAnyH_done (by kernel_rfl) ?_ _
    have p0 := G_R0.at_ (j := 0) rfl
    have p1 := G_R0.at_ (j := 1) rfl
    have HBE := hHeld.2.2.2
    clear hHeld
    go_wp2_with fail
    exact bodyPost_ret (v := .tuple #[.int .i64 e0, .agg #[.int .i64 s.f0, .int .i64 s.f1], .int .i64 t0]) (by simp [results, Try.results126, go_sem, p0, p1]) rfl ⟨e0, s, t0, rfl, he0, he1, HSF.out, hta, htb, HBE⟩
  · skip
    have e1 := KS.out.at_ (j := 1) rfl
    have f1 := KS.out.free 1
    obtain ⟨x9, hx⟩ : ∃ X, X = World.setCell w4 ⟨w2.heap.size, 1, none⟩ (.int .i64 10) := ⟨_, rfl⟩
    have HX9 := Lib.hid hx
    obtain ⟨z, hz⟩ : ∃ z : TSite, z = ⟨s.f0, 10⟩ := ⟨_, rfl⟩
    have HZF := Lib.hid (show z.fit by rw [hz]; have := HSF.out; unfold TSite.fit at this ⊢; simp only; omega)
    replace KS := Lib.hid (show BoxAt x9 w2.heap.size 27 #[.int .i64 z.f0, .int .i64 z.f1] by rw [hx, hz]; exact dr_put_box KS.out 1 _)
    replace R0 := Lib.hid (show BoxAt x9 w.heap.size 27 #[.int .i64 0, .int .i64 0] by rw [hx]; exact dr_put_far R0.out (by omega))
    replace HC := Lib.hid (show Cur x9 (w.heap.size + 1) A n cap by rw [hx]; exact dr_cur_put (p := ⟨w2.heap.size, 1, none⟩) HC.out (by show (w.heap.size + 1) < w2.heap.size; omega))
    replace HB := Lib.hid (show Below w.heap.size w x9 by rw [hx]; exact HB.out.setCell (by show w.heap.size ≤ w2.heap.size; omega) _)
    have l9 : w2.heap.size < x9.heap.size := KS.out.lt
    clear hx hz
    go_upto_region 6 with fail
    rw [← HX9.out]
    clear e1 f1 HX9
    refine wp_region_held_drew (S := fun w' => BoxAt w' w2.heap.size 27 #[.int .i64 z.f0, .int .i64 z.f1] ∧ DatT w (w.heap.size + 1) A n cap [(w.heap.size, 27, 2)] w') (by kernel_rfl) ?_ (fun hHeld => ?_)
    · exact ⟨KS.out.drw, (DatT.mk_ (rs := [(w.heap.size, 27, 2)]) HB.out HC.out (by simp only [List.mem_cons, List.not_mem_nil, or_false, forall_eq_or_imp, forall_eq]; exact ⟨_, rfl, R0.out⟩)).drw⟩
    refine wpAnyH_take (i := 0) (oi := ⟨some 18, _, _, _, _, _⟩) (v := ?_) rfl (by kernel_rfl) (by kernel_rfl) (by kernel_rfl) (fun _ _ _ h => h) (Or.inl ⟨by kernel_rfl, ?_⟩) hHeld ?_
    rotate_left
    focus (intro W hS; skip; clear hS; first | (go_simp; done) | (go_simp; with_reducible rfl))
    try simp only [Act.put, List.setIfInBounds_toArray, List.set_cons_zero, List.set_cons_succ]
    refine wpAnyH_take (i := 1) (oi := ⟨some 19, _, _, _, _, _⟩) (v := ?_) rfl (by kernel_rfl) (by kernel_rfl) (by kernel_rfl) (fun _ _ _ h => h) (Or.inl ⟨by kernel_rfl, ?_⟩) hHeld ?_
    rotate_left
    focus (intro W hS; have c0_0 := (hS.1).at_ (j := 0) rfl; have c0_1 := (hS.1).at_ (j := 1) rfl; clear hS; first | (go_simp; done) | (go_simp; with_reducible rfl))
    try simp only [Act.put, List.setIfInBounds_toArray, List.set_cons_zero, List.set_cons_succ]
    refine wpAnyH_take (i := 2) (oi := ⟨some 20, _, _, _, _, _⟩) (v := ?_) rfl (by kernel_rfl) (by kernel_rfl) (by kernel_rfl) (fun _ _ _ h => h) (Or.inl ⟨by kernel_rfl, ?_⟩) hHeld ?_
    rotate_left
    focus (intro W hS; skip; clear hS; first | (go_simp; done) | (go_simp; with_reducible rfl))
    try simp only [Act.put, List.setIfInBounds_toArray, List.set_cons_zero, List.set_cons_succ]
    refine wpAnyH_ready (rs := [3]) (by kernel_rfl) (by simp) ?_
    refine AllReadyH.cons (o := ⟨some 21, _, _, _, _, _⟩) rfl (fun K hK => ?_) AllReadyH.nil
    go_simp
    have G_L := lit_box hHeld.2 3 #[.int .i64 0, .int .i64 3, .int .i64 9995, .int .i64 9996, .int .i64 (-1)]
    have hL := DatT.al hHeld.2 (.cells #[.int .i64 0, .int .i64 3, .int .i64 9995, .int .i64 9996, .int .i64 (-1)] 3)
    have hb0 := hHeld.1.alloc_ (.cells #[.int .i64 0, .int .i64 3, .int .i64 9995, .int .i64 9996, .int .i64 (-1)] 3)
    refine hK.out _ _ ⟨hb0, hL⟩ (fun hHeld' => ?_)
    clear hK K hHeld hL hb0; have hHeld := hHeld'; clear hHeld'
    try simp only [Act.put, List.setIfInBounds_toArray, List.set_cons_zero, List.set_cons_succ]
    refine wpAnyH_ready (rs := [4]) (by kernel_rfl) (by simp) ?_
    refine AllReadyH.cons (o := ⟨some 22, _, _, _, _, _⟩) rfl (fun K hK => ?_) AllReadyH.nil
    go_simp
    refine Calls.mono (int_any (w.heap.size + 1) n cap A [0, 3, 9995, 9996, -1] _ (-1) (9996) _ hn' (hHeld.2.cur HY.out (by omega)) (by omega) G_L (by decide) (by decide) (by decide)) ?_
    rintro e v1 ⟨t0, hta, htb, rfl, hc, hg⟩
    refine hK.out _ _ ⟨hHeld.1.grown hg (by omega), hHeld.2.call hc hg (by simp <;> omega) (by omega)⟩ (fun hHeld' => ?_)
    clear hK K hHeld hc hg; have hHeld := hHeld'; clear hHeld'
    try simp only [Act.put, List.setIfInBounds_toArray, List.set_cons_zero, List.set_cons_succ]
    refine wpAnyH_take (i := 5) (oi := ⟨some 2, _, _, _, _, _⟩) (v := ?_) rfl (by kernel_rfl) (by kernel_rfl) (by kernel_rfl) (fun _ _ _ h => h) (Or.inl ⟨by kernel_rfl, ?_⟩) hHeld ?_
    rotate_left
    focus (intro W hS; skip; clear hS; first | (go_simp; done) | (go_simp; with_reducible rfl))
    try simp only [Act.put, List.setIfInBounds_toArray, List.set_cons_zero, List.set_cons_succ]
    refine wpAnyH_ready (rs := [6]) (by kernel_rfl) (by simp) ?_
    refine AllReadyH.cons (o := ⟨none, _, _, _, _, _⟩) rfl (fun K hK => ?_) AllReadyH.nil
    rw [if_pos (by rfl)]
    obtain ⟨cz0, hs0, hz0⟩ := hHeld.2.1 (w.heap.size, 27, 2) (by simp)
    refine wp_store_row 27 _ _ rfl w.heap.size #[.int .i64 z.f0, .int .i64 z.f1] rfl rfl 27 _ hz0 (by kernel_rfl) hs0 (by kernel_rfl) ?_
    have G_R0 := box_row (cs := #[.int .i64 z.f0, .int .i64 z.f1]) hz0
    have hHeld2 := hHeld.2.row w.heap.size (by omega) (by omega) #[.int .i64 z.f0, .int .i64 z.f1] (by simp)
    have hb0 := box_far (cs := #[.int .i64 z.f0, .int .i64 z.f1]) (g := w.heap.size) hHeld.1 (by omega)
    clear hz0
    generalize World.setRow _ w.heap.size #[.int .i64 z.f0, .int .i64 z.f1] = v2 at G_R0 hHeld2 hb0 ⊢
    refine hK.out _ _ ⟨hb0, hHeld2⟩ (fun hHeld' => ?_)
    clear hK K hHeld hHeld2 hb0; have hHeld := hHeld'; clear hHeld'
    try simp only [Act.put, List.setIfInBounds_toArray, List.set_cons_zero, List.set_cons_succ]
    refine wpAnyH_take (i := 7) (oi := ⟨some 4, _, _, _, _, _⟩) (v := ?_) rfl (by kernel_rfl) (by kernel_rfl) (by kernel_rfl) (fun _ _ _ h => h) (Or.inl ⟨by kernel_rfl, ?_⟩) hHeld ?_
    rotate_left
    focus (intro W hS; skip; clear hS; first | (go_simp; done) | (go_simp; with_reducible rfl))
    try simp only [Act.put, List.setIfInBounds_toArray, List.set_cons_zero, List.set_cons_succ]
    refine wpAnyH_done (by kernel_rfl) ?_ _
    have p0 := G_R0.at_ (j := 0) rfl
    have p1 := G_R0.at_ (j := 1) rfl
    have HBE := hHeld.2.2.2
    clear hHeld
    go_wp2_with fail
    exact bodyPost_ret (v := .tuple #[.int .i64 e0, .agg #[.int .i64 z.f0, .int .i64 z.f1], .int .i64 t0]) (by simp [results, Try.results126, go_sem, p0, p1]) rfl ⟨e0, z, t0, rfl, he0, he1, HZF.out, hta, htb, HBE⟩
end Go.Proofs.Ytfceddgacefejaa
