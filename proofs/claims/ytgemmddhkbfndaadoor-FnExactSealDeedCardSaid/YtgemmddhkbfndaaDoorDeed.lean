/- SealDeed of the program. -/
import Derived.Test.YtgemmddhkbfndaaDoorSeal
import Derived.Test.YtgemmddhkbfndaaDoorTDeed
import Derived.Deep.RegionHeld3
namespace Go.Proofs.YtgemmddhkbfndaaDoor
open Go Go.ChangeShapes Go.WideShapes Go.ChangeAt Go.RowKit Go.Lib
set_option linter.unusedVariables false
set_option linter.unusedSimpArgs false
set_option maxRecDepth 100000
abbrev vDeed (x : TDeed) : Value := .agg #[.int .i64 x.f0, .int .i64 x.f1, .int .i64 x.f2, .int .i64 x.f3, .int .i64 x.f4]
def mSealD (k s : Int) (x : TDeed) : Int := if mValid k = true then mKHash k [s, x.f0, x.f1, x.f2] else 0
def mDeed (x : TDeed) (k1 k2 : Int) : TDeed := ⟨x.f0, x.f1, x.f2, mSealD k1 1 x, mSealD k2 2 x⟩
theorem deed_i64 {s : Int} {x : TDeed} (h : TDeed.fit x) (hs : -9223372036854775808 ≤ s ∧ s ≤ 9223372036854775807) : Hid (I64s [s, x.f0, x.f1, x.f2]) := by
  obtain ⟨h0, h1, h2, h3, h4⟩ := h
  refine Lib.hid fun z hz => ?_
  simp at hz
  rcases hz with rfl | rfl | rfl | rfl <;> assumption
structure DeedW (w : World) (c : Value → Array Value) (W : World) : Prop where
  bx : ∃ v, BoxAt W w.heap.size 24 (c v)
  br : BoxAt W (w.heap.size + 1) 24 #[.int .i64 0, .int .i64 0, .int .i64 0, .int .i64 0, .int .i64 0]
  below : Below w.heap.size w W
theorem DeedW.new {w W W' : World} {c : Value → Array Value} (h : DeedW w c W) (hb : Below W.heap.size W W') : DeedW w c W' := by
  obtain ⟨⟨v, h1⟩, h2, h3⟩ := h
  exact ⟨⟨v, h1.new hb⟩, h2.new hb, below_trans h3 hb (Nat.le_refl _)⟩
theorem DeedW.size {w W : World} {c : Value → Array Value} (h : DeedW w c W) : w.heap.size ≤ W.heap.size := h.below.size
theorem deed_boxes (w : World) (cs : Array Value) : BoxAt ((w.alloc (.cells cs 24)).alloc (.cells #[.int .i64 0, .int .i64 0, .int .i64 0, .int .i64 0, .int .i64 0] 24)) w.heap.size 24 cs ∧ BoxAt ((w.alloc (.cells cs 24)).alloc (.cells #[.int .i64 0, .int .i64 0, .int .i64 0, .int .i64 0, .int .i64 0] 24)) (w.heap.size + 1) 24 #[.int .i64 0, .int .i64 0, .int .i64 0, .int .i64 0, .int .i64 0] ∧ Below w.heap.size w ((w.alloc (.cells cs 24)).alloc (.cells #[.int .i64 0, .int .i64 0, .int .i64 0, .int .i64 0, .int .i64 0] 24)) :=
  ⟨BoxAt.alloc_ (box_new _ _ _) _, by have h := box_new (w.alloc (.cells cs 24)) 24 #[.int .i64 0, .int .i64 0, .int .i64 0, .int .i64 0, .int .i64 0]; simpa using h, ((Below.refl _ _).alloc (Nat.le_refl _) _).alloc (by simp) _⟩

set_option maxHeartbeats 16000000 in
theorem impl_SealDeed (x : TDeed) (k1 k2 : Int) (w : World) (hT : Pow10 w) (Hx : Hid (TDeed.fit x)) (wk1 : (Lit.int .i64 k1).wf = true) (wk2 : (Lit.int .i64 k2).wf = true) : Calls Tryd.prog 6 #[vDeed x, .int .i64 k1, .int .i64 k2] w (Says (vDeed (mDeed x k1 k2)) w) := by
  have KB := deed_boxes w #[.int .i64 x.f0, .int .i64 x.f1, .int .i64 x.f2, .int .i64 x.f3, .int .i64 x.f4]
  cases hv1 : mValid k1
  · cases hv2 : mValid k2
    · skip
      have HV := Lib.hid (show mDeed x k1 k2 = ⟨x.f0, x.f1, x.f2, 0, 0⟩ by unfold mDeed mSealD; rw [hv1, hv2]; rfl)
      rw [HV.out]
      have C10 := Lib.hid (fun W hT => impl_sealer_no k1 W hT wk1 hv1)
      have C20 := Lib.hid (fun W hT => impl_sealer_no k2 W hT wk2 hv2)
      clear hv1 hv2 wk1 wk2
      go_enter Tryd.func6, Tryd.ntmps6
      go_wp2_with fail
      refine wp_region_held_drew (S := fun w' => DeedW w (fun v => #[.int .i64 x.f0, .int .i64 x.f1, .int .i64 x.f2, v, .int .i64 x.f4]) w') (by kernel_rfl) ?_ (fun hHeld => ?_)
      · exact (⟨⟨.int .i64 x.f3, KB.1.drw⟩, KB.2.1.drw, KB.2.2.drew⟩ : DeedW w (fun v => #[.int .i64 x.f0, .int .i64 x.f1, .int .i64 x.f2, v, .int .i64 x.f4]) _)
      generalize (World.drew _) = x0 at hHeld ⊢
      refine wpAnyH_take (i := 0) (oi := ⟨some 7, _, _, _, _, _⟩) (v := ?_) rfl (by kernel_rfl) (by kernel_rfl) (by kernel_rfl) (fun _ _ _ h => h) (Or.inl ⟨by kernel_rfl, ?_⟩) hHeld ?_
      rotate_left
      focus (intro W hS; obtain ⟨v, hbx⟩ := hS.bx; have c0 := hbx.at_ (j := 0) rfl; have c1 := hbx.at_ (j := 1) rfl; have c2 := hbx.at_ (j := 2) rfl; clear hbx; clear hS; first | (go_simp; done) | (go_simp; with_reducible rfl))
      try simp only [Act.put, List.setIfInBounds_toArray, List.set_cons_zero, List.set_cons_succ]
      refine wpAnyH_take (i := 2) (oi := ⟨some 9, _, _, _, _, _⟩) (v := ?_) rfl (by kernel_rfl) (by kernel_rfl) (by kernel_rfl) (fun _ _ _ h => h) (Or.inl ⟨by kernel_rfl, ?_⟩) hHeld ?_
      rotate_left
      focus (intro W hS; obtain ⟨v, hbx⟩ := hS.bx; have c0 := hbx.at_ (j := 0) rfl; have c1 := hbx.at_ (j := 1) rfl; have c2 := hbx.at_ (j := 2) rfl; clear hbx; clear hS; first | (go_simp; done) | (go_simp; with_reducible rfl))
      try simp only [Act.put, List.setIfInBounds_toArray, List.set_cons_zero, List.set_cons_succ]
      refine wpAnyH_take (i := 3) (oi := ⟨some 10, _, _, _, _, _⟩) (v := ?_) rfl (by kernel_rfl) (by kernel_rfl) (by kernel_rfl) (fun _ _ _ h => h) (Or.inl ⟨by kernel_rfl, ?_⟩) hHeld ?_
      rotate_left
      focus (intro W hS; obtain ⟨v, hbx⟩ := hS.bx; have c0 := hbx.at_ (j := 0) rfl; have c1 := hbx.at_ (j := 1) rfl; have c2 := hbx.at_ (j := 2) rfl; clear hbx; clear hS; first | (go_simp; done) | (go_simp; with_reducible rfl))
      try simp only [Act.put, List.setIfInBounds_toArray, List.set_cons_zero, List.set_cons_succ]
      refine wpAnyH_take (i := 4) (oi := ⟨some 11, _, _, _, _, _⟩) (v := ?_) rfl (by kernel_rfl) (by kernel_rfl) (by kernel_rfl) (fun _ _ _ h => h) (Or.inl ⟨by kernel_rfl, ?_⟩) hHeld ?_
      rotate_left
      focus (intro W hS; obtain ⟨v, hbx⟩ := hS.bx; have c0 := hbx.at_ (j := 0) rfl; have c1 := hbx.at_ (j := 1) rfl; have c2 := hbx.at_ (j := 2) rfl; clear hbx; clear hS; first | (go_simp; done) | (go_simp; with_reducible rfl))
      try simp only [Act.put, List.setIfInBounds_toArray, List.set_cons_zero, List.set_cons_succ]
      refine wpAnyH_take (i := 5) (oi := ⟨some 12, _, _, _, _, _⟩) (v := ?_) rfl (by kernel_rfl) (by kernel_rfl) (by kernel_rfl) (fun _ _ _ h => h) (Or.inl ⟨by kernel_rfl, ?_⟩) hHeld ?_
      rotate_left
      focus (intro W hS; obtain ⟨v, hbx⟩ := hS.bx; have c0 := hbx.at_ (j := 0) rfl; have c1 := hbx.at_ (j := 1) rfl; have c2 := hbx.at_ (j := 2) rfl; clear hbx; clear hS; first | (go_simp; done) | (go_simp; with_reducible rfl))
      try simp only [Act.put, List.setIfInBounds_toArray, List.set_cons_zero, List.set_cons_succ]
      refine wpAnyH_take (i := 6) (oi := ⟨some 13, _, _, _, _, _⟩) (v := ?_) rfl (by kernel_rfl) (by kernel_rfl) (by kernel_rfl) (fun _ _ _ h => h) (Or.inl ⟨by kernel_rfl, ?_⟩) hHeld ?_
      rotate_left
      focus (intro W hS; obtain ⟨v, hbx⟩ := hS.bx; have c0 := hbx.at_ (j := 0) rfl; have c1 := hbx.at_ (j := 1) rfl; have c2 := hbx.at_ (j := 2) rfl; clear hbx; clear hS; first | (go_simp; done) | (go_simp; with_reducible rfl))
      try simp only [Act.put, List.setIfInBounds_toArray, List.set_cons_zero, List.set_cons_succ]
      refine wpAnyH_take (i := 7) (oi := ⟨some 14, _, _, _, _, _⟩) (v := ?_) rfl (by kernel_rfl) (by kernel_rfl) (by kernel_rfl) (fun _ _ _ h => h) (Or.inl ⟨by kernel_rfl, ?_⟩) hHeld ?_
      rotate_left
      focus (intro W hS; obtain ⟨v, hbx⟩ := hS.bx; have c0 := hbx.at_ (j := 0) rfl; have c1 := hbx.at_ (j := 1) rfl; have c2 := hbx.at_ (j := 2) rfl; clear hbx; clear hS; first | (go_simp; done) | (go_simp; with_reducible rfl))
      try simp only [Act.put, List.setIfInBounds_toArray, List.set_cons_zero, List.set_cons_succ]
      refine wpAnyH_ready (rs := [1, 8]) (by kernel_rfl) (by simp) ?_
      refine AllReadyH.cons (o := ⟨some 8, _, _, _, _, _⟩) rfl (fun K hK => ?_) ?_
      · skip
        go_simp
        refine Calls.mono (C10.out _ (pow10_below hT hHeld.below)) ?_
        rintro e x1 ⟨rfl, hb1⟩
        refine hK.out _ _ (DeedW.new hHeld hb1) (fun hHeld' => ?_)
        clear hK K hHeld hb1
        have hHeld := hHeld'
        clear hHeld'
        try simp only [Act.put, List.setIfInBounds_toArray, List.set_cons_zero, List.set_cons_succ]
        refine wpAnyH_ready (rs := [8]) (by kernel_rfl) (by simp) ?_
        refine AllReadyH.cons (o := ⟨some 15, _, _, _, _, _⟩) rfl (fun K hK => ?_) AllReadyH.nil
        go_simp
        have GVa := box_new (x1) 3 #[.int .i64 1, .int .i64 x.f0, .int .i64 x.f1, .int .i64 x.f2]
        have hb1 := (Below.refl (x1).heap.size (x1)).alloc (Nat.le_refl _) (.cells #[.int .i64 1, .int .i64 x.f0, .int .i64 x.f1, .int .i64 x.f2] 3)
        have LVa : w.heap.size ≤ (x1).heap.size := by have := (hHeld).size; omega
        generalize (x1).alloc (.cells #[.int .i64 1, .int .i64 x.f0, .int .i64 x.f1, .int .i64 x.f2] 3) = x2 at hb1 GVa  ⊢
        generalize hg : (x1).heap.size = gVa at GVa LVa  ⊢
        clear hg
        refine hK.out _ _ (DeedW.new hHeld hb1) (fun hHeld' => ?_)
        clear hK K hHeld hb1
        have hHeld := hHeld'
        clear hHeld'
        try simp only [Act.put, List.setIfInBounds_toArray, List.set_cons_zero, List.set_cons_succ]
        refine wpAnyH_ready (rs := [9]) (by kernel_rfl) (by simp) ?_
        refine AllReadyH.cons (o := ⟨some 16, _, _, _, _, _⟩) rfl (fun K hK => ?_) AllReadyH.nil
        go_simp
        refine Calls.mono (impl_sealer1 _ _ _ _) ?_
        rintro e x3 ⟨rfl, hb1⟩
        replace GVa := GVa.new hb1
        refine hK.out _ _ (DeedW.new hHeld hb1) (fun hHeld' => ?_)
        clear hK K hHeld hb1
        have hHeld := hHeld'
        clear hHeld'
        try simp only [Act.put, List.setIfInBounds_toArray, List.set_cons_zero, List.set_cons_succ]
        refine wpAnyH_take (i := 10) (oi := ⟨some 17, _, _, _, _, _⟩) (v := ?_) rfl (by kernel_rfl) (by kernel_rfl) (by kernel_rfl) (fun _ _ _ h => h) (Or.inl ⟨by kernel_rfl, ?_⟩) hHeld ?_
        rotate_left
        focus (intro W hS; obtain ⟨v, hbx⟩ := hS.bx; have c0 := hbx.at_ (j := 0) rfl; have c1 := hbx.at_ (j := 1) rfl; have c2 := hbx.at_ (j := 2) rfl; clear hbx; clear hS; first | (go_simp; done) | (go_simp; with_reducible rfl))
        try simp only [Act.put, List.setIfInBounds_toArray, List.set_cons_zero, List.set_cons_succ]
        refine wpAnyH_ready (rs := [11]) (by kernel_rfl) (by simp) ?_
        refine AllReadyH.cons (o := ⟨none, _, _, _, _, _⟩) rfl (fun K hK => ?_) AllReadyH.nil
        obtain ⟨v, hbx⟩ := hHeld.bx
        have c3 := hbx.at_ (j := 3) rfl
        have f3 := hbx.free 3
        have hlt := hbx.lt
        go_simp
        have GX := bx_cell (u := .int .i64 0) (j := 3) hbx
        have GR := bx_cell_far (g := w.heap.size) (j := 3) (u := .int .i64 0) hHeld.br (by omega)
        have GB := hHeld.below.setCell (p := ⟨w.heap.size, 3, none⟩) (Nat.le_refl _) (.int .i64 0)
        refine hK.out _ _ ⟨⟨_, GX⟩, GR, GB⟩ (fun hHeld' => ?_)
        clear hK K hHeld hbx c3 f3 hHeld'
        try simp only [Act.put, List.setIfInBounds_toArray, List.set_cons_zero, List.set_cons_succ]
        refine wpAnyH_done (by kernel_rfl) ?_ _
        have HXa := Lib.hid (show BoxAt _ w.heap.size 24 #[.int .i64 x.f0, .int .i64 x.f1, .int .i64 x.f2, .int .i64 0, .int .i64 x.f4] from GX)
        have HRa := Lib.hid GR
        have HBa := Lib.hid GB
        clear GX GR GB
        go_wp2_with fail
        refine wp_region_held_drew (S := fun w' => DeedW w (fun v => #[.int .i64 x.f0, .int .i64 x.f1, .int .i64 x.f2, .int .i64 0, v]) w') (by kernel_rfl) ?_ (fun hHeld => ?_)
        · exact (⟨⟨.int .i64 x.f4, HXa.out.drw⟩, HRa.out.drw, HBa.out.drew⟩ : DeedW w (fun v => #[.int .i64 x.f0, .int .i64 x.f1, .int .i64 x.f2, .int .i64 0, v]) _)
        generalize (World.drew _) = x0 at hHeld ⊢
        refine wpAnyH_take (i := 0) (oi := ⟨some 18, _, _, _, _, _⟩) (v := ?_) rfl (by kernel_rfl) (by kernel_rfl) (by kernel_rfl) (fun _ _ _ h => h) (Or.inl ⟨by kernel_rfl, ?_⟩) hHeld ?_
        rotate_left
        focus (intro W hS; obtain ⟨v, hbx⟩ := hS.bx; have c0 := hbx.at_ (j := 0) rfl; have c1 := hbx.at_ (j := 1) rfl; have c2 := hbx.at_ (j := 2) rfl; clear hbx; clear hS; first | (go_simp; done) | (go_simp; with_reducible rfl))
        try simp only [Act.put, List.setIfInBounds_toArray, List.set_cons_zero, List.set_cons_succ]
        refine wpAnyH_take (i := 2) (oi := ⟨some 20, _, _, _, _, _⟩) (v := ?_) rfl (by kernel_rfl) (by kernel_rfl) (by kernel_rfl) (fun _ _ _ h => h) (Or.inl ⟨by kernel_rfl, ?_⟩) hHeld ?_
        rotate_left
        focus (intro W hS; obtain ⟨v, hbx⟩ := hS.bx; have c0 := hbx.at_ (j := 0) rfl; have c1 := hbx.at_ (j := 1) rfl; have c2 := hbx.at_ (j := 2) rfl; clear hbx; clear hS; first | (go_simp; done) | (go_simp; with_reducible rfl))
        try simp only [Act.put, List.setIfInBounds_toArray, List.set_cons_zero, List.set_cons_succ]
        refine wpAnyH_take (i := 3) (oi := ⟨some 21, _, _, _, _, _⟩) (v := ?_) rfl (by kernel_rfl) (by kernel_rfl) (by kernel_rfl) (fun _ _ _ h => h) (Or.inl ⟨by kernel_rfl, ?_⟩) hHeld ?_
        rotate_left
        focus (intro W hS; obtain ⟨v, hbx⟩ := hS.bx; have c0 := hbx.at_ (j := 0) rfl; have c1 := hbx.at_ (j := 1) rfl; have c2 := hbx.at_ (j := 2) rfl; clear hbx; clear hS; first | (go_simp; done) | (go_simp; with_reducible rfl))
        try simp only [Act.put, List.setIfInBounds_toArray, List.set_cons_zero, List.set_cons_succ]
        refine wpAnyH_take (i := 4) (oi := ⟨some 22, _, _, _, _, _⟩) (v := ?_) rfl (by kernel_rfl) (by kernel_rfl) (by kernel_rfl) (fun _ _ _ h => h) (Or.inl ⟨by kernel_rfl, ?_⟩) hHeld ?_
        rotate_left
        focus (intro W hS; obtain ⟨v, hbx⟩ := hS.bx; have c0 := hbx.at_ (j := 0) rfl; have c1 := hbx.at_ (j := 1) rfl; have c2 := hbx.at_ (j := 2) rfl; clear hbx; clear hS; first | (go_simp; done) | (go_simp; with_reducible rfl))
        try simp only [Act.put, List.setIfInBounds_toArray, List.set_cons_zero, List.set_cons_succ]
        refine wpAnyH_take (i := 5) (oi := ⟨some 23, _, _, _, _, _⟩) (v := ?_) rfl (by kernel_rfl) (by kernel_rfl) (by kernel_rfl) (fun _ _ _ h => h) (Or.inl ⟨by kernel_rfl, ?_⟩) hHeld ?_
        rotate_left
        focus (intro W hS; obtain ⟨v, hbx⟩ := hS.bx; have c0 := hbx.at_ (j := 0) rfl; have c1 := hbx.at_ (j := 1) rfl; have c2 := hbx.at_ (j := 2) rfl; clear hbx; clear hS; first | (go_simp; done) | (go_simp; with_reducible rfl))
        try simp only [Act.put, List.setIfInBounds_toArray, List.set_cons_zero, List.set_cons_succ]
        refine wpAnyH_take (i := 6) (oi := ⟨some 24, _, _, _, _, _⟩) (v := ?_) rfl (by kernel_rfl) (by kernel_rfl) (by kernel_rfl) (fun _ _ _ h => h) (Or.inl ⟨by kernel_rfl, ?_⟩) hHeld ?_
        rotate_left
        focus (intro W hS; obtain ⟨v, hbx⟩ := hS.bx; have c0 := hbx.at_ (j := 0) rfl; have c1 := hbx.at_ (j := 1) rfl; have c2 := hbx.at_ (j := 2) rfl; clear hbx; clear hS; first | (go_simp; done) | (go_simp; with_reducible rfl))
        try simp only [Act.put, List.setIfInBounds_toArray, List.set_cons_zero, List.set_cons_succ]
        refine wpAnyH_take (i := 7) (oi := ⟨some 25, _, _, _, _, _⟩) (v := ?_) rfl (by kernel_rfl) (by kernel_rfl) (by kernel_rfl) (fun _ _ _ h => h) (Or.inl ⟨by kernel_rfl, ?_⟩) hHeld ?_
        rotate_left
        focus (intro W hS; obtain ⟨v, hbx⟩ := hS.bx; have c0 := hbx.at_ (j := 0) rfl; have c1 := hbx.at_ (j := 1) rfl; have c2 := hbx.at_ (j := 2) rfl; clear hbx; clear hS; first | (go_simp; done) | (go_simp; with_reducible rfl))
        try simp only [Act.put, List.setIfInBounds_toArray, List.set_cons_zero, List.set_cons_succ]
        refine wpAnyH_ready (rs := [1, 8]) (by kernel_rfl) (by simp) ?_
        refine AllReadyH.cons (o := ⟨some 19, _, _, _, _, _⟩) rfl (fun K hK => ?_) ?_
        · skip
          go_simp
          refine Calls.mono (C20.out _ (pow10_below hT hHeld.below)) ?_
          rintro e x1 ⟨rfl, hb1⟩
          refine hK.out _ _ (DeedW.new hHeld hb1) (fun hHeld' => ?_)
          clear hK K hHeld hb1
          have hHeld := hHeld'
          clear hHeld'
          try simp only [Act.put, List.setIfInBounds_toArray, List.set_cons_zero, List.set_cons_succ]
          refine wpAnyH_ready (rs := [8]) (by kernel_rfl) (by simp) ?_
          refine AllReadyH.cons (o := ⟨some 26, _, _, _, _, _⟩) rfl (fun K hK => ?_) AllReadyH.nil
          go_simp
          have GVb := box_new (x1) 3 #[.int .i64 2, .int .i64 x.f0, .int .i64 x.f1, .int .i64 x.f2]
          have hb1 := (Below.refl (x1).heap.size (x1)).alloc (Nat.le_refl _) (.cells #[.int .i64 2, .int .i64 x.f0, .int .i64 x.f1, .int .i64 x.f2] 3)
          have LVb : w.heap.size ≤ (x1).heap.size := by have := (hHeld).size; omega
          generalize (x1).alloc (.cells #[.int .i64 2, .int .i64 x.f0, .int .i64 x.f1, .int .i64 x.f2] 3) = x2 at hb1 GVb  ⊢
          generalize hg : (x1).heap.size = gVb at GVb LVb  ⊢
          clear hg
          refine hK.out _ _ (DeedW.new hHeld hb1) (fun hHeld' => ?_)
          clear hK K hHeld hb1
          have hHeld := hHeld'
          clear hHeld'
          try simp only [Act.put, List.setIfInBounds_toArray, List.set_cons_zero, List.set_cons_succ]
          refine wpAnyH_ready (rs := [9]) (by kernel_rfl) (by simp) ?_
          refine AllReadyH.cons (o := ⟨some 27, _, _, _, _, _⟩) rfl (fun K hK => ?_) AllReadyH.nil
          go_simp
          refine Calls.mono (impl_sealer1 _ _ _ _) ?_
          rintro e x3 ⟨rfl, hb1⟩
          replace GVb := GVb.new hb1
          refine hK.out _ _ (DeedW.new hHeld hb1) (fun hHeld' => ?_)
          clear hK K hHeld hb1
          have hHeld := hHeld'
          clear hHeld'
          try simp only [Act.put, List.setIfInBounds_toArray, List.set_cons_zero, List.set_cons_succ]
          refine wpAnyH_take (i := 10) (oi := ⟨some 28, _, _, _, _, _⟩) (v := ?_) rfl (by kernel_rfl) (by kernel_rfl) (by kernel_rfl) (fun _ _ _ h => h) (Or.inl ⟨by kernel_rfl, ?_⟩) hHeld ?_
          rotate_left
          focus (intro W hS; obtain ⟨v, hbx⟩ := hS.bx; have c0 := hbx.at_ (j := 0) rfl; have c1 := hbx.at_ (j := 1) rfl; have c2 := hbx.at_ (j := 2) rfl; clear hbx; clear hS; first | (go_simp; done) | (go_simp; with_reducible rfl))
          try simp only [Act.put, List.setIfInBounds_toArray, List.set_cons_zero, List.set_cons_succ]
          refine wpAnyH_ready (rs := [11]) (by kernel_rfl) (by simp) ?_
          refine AllReadyH.cons (o := ⟨none, _, _, _, _, _⟩) rfl (fun K hK => ?_) AllReadyH.nil
          obtain ⟨v, hbx⟩ := hHeld.bx
          have c3 := hbx.at_ (j := 4) rfl
          have f3 := hbx.free 4
          have hlt := hbx.lt
          go_simp
          have GX := bx_cell (u := .int .i64 0) (j := 4) hbx
          have GR := bx_cell_far (g := w.heap.size) (j := 4) (u := .int .i64 0) hHeld.br (by omega)
          have GB := hHeld.below.setCell (p := ⟨w.heap.size, 4, none⟩) (Nat.le_refl _) (.int .i64 0)
          refine hK.out _ _ ⟨⟨_, GX⟩, GR, GB⟩ (fun hHeld' => ?_)
          clear hK K hHeld hbx c3 f3 hHeld'
          try simp only [Act.put, List.setIfInBounds_toArray, List.set_cons_zero, List.set_cons_succ]
          refine wpAnyH_done (by kernel_rfl) ?_ _
          have HX := Lib.hid (show BoxAt _ w.heap.size 24 #[.int .i64 x.f0, .int .i64 x.f1, .int .i64 x.f2, .int .i64 0, .int .i64 0] from GX)
          have HR := Lib.hid GR
          have HB := Lib.hid GB
          clear GX GR GB
          have e0 := HX.out.at_ (j := 0) rfl
          have e1 := HX.out.at_ (j := 1) rfl
          have e2 := HX.out.at_ (j := 2) rfl
          have e3 := HX.out.at_ (j := 3) rfl
          have e4 := HX.out.at_ (j := 4) rfl
          go_wp2_with (refine wpList_store_row rfl 24 _ _ rfl (w.heap.size + 1) #[.int .i64 x.f0, .int .i64 x.f1, .int .i64 x.f2, .int .i64 0, .int .i64 0] rfl rfl 24 _ HR.out (by kernel_rfl) (by kernel_rfl) (by kernel_rfl) ?_)
          have k0 := (box_row (cs := #[.int .i64 x.f0, .int .i64 x.f1, .int .i64 x.f2, .int .i64 0, .int .i64 0]) HR.out).at_ (j := 0) rfl
          have k1 := (box_row (cs := #[.int .i64 x.f0, .int .i64 x.f1, .int .i64 x.f2, .int .i64 0, .int .i64 0]) HR.out).at_ (j := 1) rfl
          have k2 := (box_row (cs := #[.int .i64 x.f0, .int .i64 x.f1, .int .i64 x.f2, .int .i64 0, .int .i64 0]) HR.out).at_ (j := 2) rfl
          have k3 := (box_row (cs := #[.int .i64 x.f0, .int .i64 x.f1, .int .i64 x.f2, .int .i64 0, .int .i64 0]) HR.out).at_ (j := 3) rfl
          have k4 := (box_row (cs := #[.int .i64 x.f0, .int .i64 x.f1, .int .i64 x.f2, .int .i64 0, .int .i64 0]) HR.out).at_ (j := 4) rfl
          exact bodyPost_ret (v := vDeed ⟨x.f0, x.f1, x.f2, 0, 0⟩) (by simp [results, Tryd.results6, go_sem, k0, k1, k2, k3, k4]) rfl ⟨rfl, below_setRow HB.out (by omega) _⟩
        refine AllReadyH.cons (o := ⟨some 26, _, _, _, _, _⟩) rfl (fun K hK => ?_) ?_
        · skip
          go_simp
          have GVb := box_new (x0) 3 #[.int .i64 2, .int .i64 x.f0, .int .i64 x.f1, .int .i64 x.f2]
          have hb1 := (Below.refl (x0).heap.size (x0)).alloc (Nat.le_refl _) (.cells #[.int .i64 2, .int .i64 x.f0, .int .i64 x.f1, .int .i64 x.f2] 3)
          have LVb : w.heap.size ≤ (x0).heap.size := by have := (hHeld).size; omega
          generalize (x0).alloc (.cells #[.int .i64 2, .int .i64 x.f0, .int .i64 x.f1, .int .i64 x.f2] 3) = x1 at hb1 GVb  ⊢
          generalize hg : (x0).heap.size = gVb at GVb LVb  ⊢
          clear hg
          refine hK.out _ _ (DeedW.new hHeld hb1) (fun hHeld' => ?_)
          clear hK K hHeld hb1
          have hHeld := hHeld'
          clear hHeld'
          try simp only [Act.put, List.setIfInBounds_toArray, List.set_cons_zero, List.set_cons_succ]
          refine wpAnyH_ready (rs := [1]) (by kernel_rfl) (by simp) ?_
          refine AllReadyH.cons (o := ⟨some 19, _, _, _, _, _⟩) rfl (fun K hK => ?_) AllReadyH.nil
          go_simp
          refine Calls.mono (C20.out _ (pow10_below hT hHeld.below)) ?_
          rintro e x2 ⟨rfl, hb1⟩
          replace GVb := GVb.new hb1
          refine hK.out _ _ (DeedW.new hHeld hb1) (fun hHeld' => ?_)
          clear hK K hHeld hb1
          have hHeld := hHeld'
          clear hHeld'
          try simp only [Act.put, List.setIfInBounds_toArray, List.set_cons_zero, List.set_cons_succ]
          refine wpAnyH_ready (rs := [9]) (by kernel_rfl) (by simp) ?_
          refine AllReadyH.cons (o := ⟨some 27, _, _, _, _, _⟩) rfl (fun K hK => ?_) AllReadyH.nil
          go_simp
          refine Calls.mono (impl_sealer1 _ _ _ _) ?_
          rintro e x3 ⟨rfl, hb1⟩
          replace GVb := GVb.new hb1
          refine hK.out _ _ (DeedW.new hHeld hb1) (fun hHeld' => ?_)
          clear hK K hHeld hb1
          have hHeld := hHeld'
          clear hHeld'
          try simp only [Act.put, List.setIfInBounds_toArray, List.set_cons_zero, List.set_cons_succ]
          refine wpAnyH_take (i := 10) (oi := ⟨some 28, _, _, _, _, _⟩) (v := ?_) rfl (by kernel_rfl) (by kernel_rfl) (by kernel_rfl) (fun _ _ _ h => h) (Or.inl ⟨by kernel_rfl, ?_⟩) hHeld ?_
          rotate_left
          focus (intro W hS; obtain ⟨v, hbx⟩ := hS.bx; have c0 := hbx.at_ (j := 0) rfl; have c1 := hbx.at_ (j := 1) rfl; have c2 := hbx.at_ (j := 2) rfl; clear hbx; clear hS; first | (go_simp; done) | (go_simp; with_reducible rfl))
          try simp only [Act.put, List.setIfInBounds_toArray, List.set_cons_zero, List.set_cons_succ]
          refine wpAnyH_ready (rs := [11]) (by kernel_rfl) (by simp) ?_
          refine AllReadyH.cons (o := ⟨none, _, _, _, _, _⟩) rfl (fun K hK => ?_) AllReadyH.nil
          obtain ⟨v, hbx⟩ := hHeld.bx
          have c3 := hbx.at_ (j := 4) rfl
          have f3 := hbx.free 4
          have hlt := hbx.lt
          go_simp
          have GX := bx_cell (u := .int .i64 0) (j := 4) hbx
          have GR := bx_cell_far (g := w.heap.size) (j := 4) (u := .int .i64 0) hHeld.br (by omega)
          have GB := hHeld.below.setCell (p := ⟨w.heap.size, 4, none⟩) (Nat.le_refl _) (.int .i64 0)
          refine hK.out _ _ ⟨⟨_, GX⟩, GR, GB⟩ (fun hHeld' => ?_)
          clear hK K hHeld hbx c3 f3 hHeld'
          try simp only [Act.put, List.setIfInBounds_toArray, List.set_cons_zero, List.set_cons_succ]
          refine wpAnyH_done (by kernel_rfl) ?_ _
          have HX := Lib.hid (show BoxAt _ w.heap.size 24 #[.int .i64 x.f0, .int .i64 x.f1, .int .i64 x.f2, .int .i64 0, .int .i64 0] from GX)
          have HR := Lib.hid GR
          have HB := Lib.hid GB
          clear GX GR GB
          have e0 := HX.out.at_ (j := 0) rfl
          have e1 := HX.out.at_ (j := 1) rfl
          have e2 := HX.out.at_ (j := 2) rfl
          have e3 := HX.out.at_ (j := 3) rfl
          have e4 := HX.out.at_ (j := 4) rfl
          go_wp2_with (refine wpList_store_row rfl 24 _ _ rfl (w.heap.size + 1) #[.int .i64 x.f0, .int .i64 x.f1, .int .i64 x.f2, .int .i64 0, .int .i64 0] rfl rfl 24 _ HR.out (by kernel_rfl) (by kernel_rfl) (by kernel_rfl) ?_)
          have k0 := (box_row (cs := #[.int .i64 x.f0, .int .i64 x.f1, .int .i64 x.f2, .int .i64 0, .int .i64 0]) HR.out).at_ (j := 0) rfl
          have k1 := (box_row (cs := #[.int .i64 x.f0, .int .i64 x.f1, .int .i64 x.f2, .int .i64 0, .int .i64 0]) HR.out).at_ (j := 1) rfl
          have k2 := (box_row (cs := #[.int .i64 x.f0, .int .i64 x.f1, .int .i64 x.f2, .int .i64 0, .int .i64 0]) HR.out).at_ (j := 2) rfl
          have k3 := (box_row (cs := #[.int .i64 x.f0, .int .i64 x.f1, .int .i64 x.f2, .int .i64 0, .int .i64 0]) HR.out).at_ (j := 3) rfl
          have k4 := (box_row (cs := #[.int .i64 x.f0, .int .i64 x.f1, .int .i64 x.f2, .int .i64 0, .int .i64 0]) HR.out).at_ (j := 4) rfl
          exact bodyPost_ret (v := vDeed ⟨x.f0, x.f1, x.f2, 0, 0⟩) (by simp [results, Tryd.results6, go_sem, k0, k1, k2, k3, k4]) rfl ⟨rfl, below_setRow HB.out (by omega) _⟩
        exact AllReadyH.nil
      refine AllReadyH.cons (o := ⟨some 15, _, _, _, _, _⟩) rfl (fun K hK => ?_) ?_
      · skip
        go_simp
        have GVa := box_new (x0) 3 #[.int .i64 1, .int .i64 x.f0, .int .i64 x.f1, .int .i64 x.f2]
        have hb1 := (Below.refl (x0).heap.size (x0)).alloc (Nat.le_refl _) (.cells #[.int .i64 1, .int .i64 x.f0, .int .i64 x.f1, .int .i64 x.f2] 3)
        have LVa : w.heap.size ≤ (x0).heap.size := by have := (hHeld).size; omega
        generalize (x0).alloc (.cells #[.int .i64 1, .int .i64 x.f0, .int .i64 x.f1, .int .i64 x.f2] 3) = x1 at hb1 GVa  ⊢
        generalize hg : (x0).heap.size = gVa at GVa LVa  ⊢
        clear hg
        refine hK.out _ _ (DeedW.new hHeld hb1) (fun hHeld' => ?_)
        clear hK K hHeld hb1
        have hHeld := hHeld'
        clear hHeld'
        try simp only [Act.put, List.setIfInBounds_toArray, List.set_cons_zero, List.set_cons_succ]
        refine wpAnyH_ready (rs := [1]) (by kernel_rfl) (by simp) ?_
        refine AllReadyH.cons (o := ⟨some 8, _, _, _, _, _⟩) rfl (fun K hK => ?_) AllReadyH.nil
        go_simp
        refine Calls.mono (C10.out _ (pow10_below hT hHeld.below)) ?_
        rintro e x2 ⟨rfl, hb1⟩
        replace GVa := GVa.new hb1
        refine hK.out _ _ (DeedW.new hHeld hb1) (fun hHeld' => ?_)
        clear hK K hHeld hb1
        have hHeld := hHeld'
        clear hHeld'
        try simp only [Act.put, List.setIfInBounds_toArray, List.set_cons_zero, List.set_cons_succ]
        refine wpAnyH_ready (rs := [9]) (by kernel_rfl) (by simp) ?_
        refine AllReadyH.cons (o := ⟨some 16, _, _, _, _, _⟩) rfl (fun K hK => ?_) AllReadyH.nil
        go_simp
        refine Calls.mono (impl_sealer1 _ _ _ _) ?_
        rintro e x3 ⟨rfl, hb1⟩
        replace GVa := GVa.new hb1
        refine hK.out _ _ (DeedW.new hHeld hb1) (fun hHeld' => ?_)
        clear hK K hHeld hb1
        have hHeld := hHeld'
        clear hHeld'
        try simp only [Act.put, List.setIfInBounds_toArray, List.set_cons_zero, List.set_cons_succ]
        refine wpAnyH_take (i := 10) (oi := ⟨some 17, _, _, _, _, _⟩) (v := ?_) rfl (by kernel_rfl) (by kernel_rfl) (by kernel_rfl) (fun _ _ _ h => h) (Or.inl ⟨by kernel_rfl, ?_⟩) hHeld ?_
        rotate_left
        focus (intro W hS; obtain ⟨v, hbx⟩ := hS.bx; have c0 := hbx.at_ (j := 0) rfl; have c1 := hbx.at_ (j := 1) rfl; have c2 := hbx.at_ (j := 2) rfl; clear hbx; clear hS; first | (go_simp; done) | (go_simp; with_reducible rfl))
        try simp only [Act.put, List.setIfInBounds_toArray, List.set_cons_zero, List.set_cons_succ]
        refine wpAnyH_ready (rs := [11]) (by kernel_rfl) (by simp) ?_
        refine AllReadyH.cons (o := ⟨none, _, _, _, _, _⟩) rfl (fun K hK => ?_) AllReadyH.nil
        obtain ⟨v, hbx⟩ := hHeld.bx
        have c3 := hbx.at_ (j := 3) rfl
        have f3 := hbx.free 3
        have hlt := hbx.lt
        go_simp
        have GX := bx_cell (u := .int .i64 0) (j := 3) hbx
        have GR := bx_cell_far (g := w.heap.size) (j := 3) (u := .int .i64 0) hHeld.br (by omega)
        have GB := hHeld.below.setCell (p := ⟨w.heap.size, 3, none⟩) (Nat.le_refl _) (.int .i64 0)
        refine hK.out _ _ ⟨⟨_, GX⟩, GR, GB⟩ (fun hHeld' => ?_)
        clear hK K hHeld hbx c3 f3 hHeld'
        try simp only [Act.put, List.setIfInBounds_toArray, List.set_cons_zero, List.set_cons_succ]
        refine wpAnyH_done (by kernel_rfl) ?_ _
        have HXa := Lib.hid (show BoxAt _ w.heap.size 24 #[.int .i64 x.f0, .int .i64 x.f1, .int .i64 x.f2, .int .i64 0, .int .i64 x.f4] from GX)
        have HRa := Lib.hid GR
        have HBa := Lib.hid GB
        clear GX GR GB
        go_wp2_with fail
        refine wp_region_held_drew (S := fun w' => DeedW w (fun v => #[.int .i64 x.f0, .int .i64 x.f1, .int .i64 x.f2, .int .i64 0, v]) w') (by kernel_rfl) ?_ (fun hHeld => ?_)
        · exact (⟨⟨.int .i64 x.f4, HXa.out.drw⟩, HRa.out.drw, HBa.out.drew⟩ : DeedW w (fun v => #[.int .i64 x.f0, .int .i64 x.f1, .int .i64 x.f2, .int .i64 0, v]) _)
        generalize (World.drew _) = x0 at hHeld ⊢
        refine wpAnyH_take (i := 0) (oi := ⟨some 18, _, _, _, _, _⟩) (v := ?_) rfl (by kernel_rfl) (by kernel_rfl) (by kernel_rfl) (fun _ _ _ h => h) (Or.inl ⟨by kernel_rfl, ?_⟩) hHeld ?_
        rotate_left
        focus (intro W hS; obtain ⟨v, hbx⟩ := hS.bx; have c0 := hbx.at_ (j := 0) rfl; have c1 := hbx.at_ (j := 1) rfl; have c2 := hbx.at_ (j := 2) rfl; clear hbx; clear hS; first | (go_simp; done) | (go_simp; with_reducible rfl))
        try simp only [Act.put, List.setIfInBounds_toArray, List.set_cons_zero, List.set_cons_succ]
        refine wpAnyH_take (i := 2) (oi := ⟨some 20, _, _, _, _, _⟩) (v := ?_) rfl (by kernel_rfl) (by kernel_rfl) (by kernel_rfl) (fun _ _ _ h => h) (Or.inl ⟨by kernel_rfl, ?_⟩) hHeld ?_
        rotate_left
        focus (intro W hS; obtain ⟨v, hbx⟩ := hS.bx; have c0 := hbx.at_ (j := 0) rfl; have c1 := hbx.at_ (j := 1) rfl; have c2 := hbx.at_ (j := 2) rfl; clear hbx; clear hS; first | (go_simp; done) | (go_simp; with_reducible rfl))
        try simp only [Act.put, List.setIfInBounds_toArray, List.set_cons_zero, List.set_cons_succ]
        refine wpAnyH_take (i := 3) (oi := ⟨some 21, _, _, _, _, _⟩) (v := ?_) rfl (by kernel_rfl) (by kernel_rfl) (by kernel_rfl) (fun _ _ _ h => h) (Or.inl ⟨by kernel_rfl, ?_⟩) hHeld ?_
        rotate_left
        focus (intro W hS; obtain ⟨v, hbx⟩ := hS.bx; have c0 := hbx.at_ (j := 0) rfl; have c1 := hbx.at_ (j := 1) rfl; have c2 := hbx.at_ (j := 2) rfl; clear hbx; clear hS; first | (go_simp; done) | (go_simp; with_reducible rfl))
        try simp only [Act.put, List.setIfInBounds_toArray, List.set_cons_zero, List.set_cons_succ]
        refine wpAnyH_take (i := 4) (oi := ⟨some 22, _, _, _, _, _⟩) (v := ?_) rfl (by kernel_rfl) (by kernel_rfl) (by kernel_rfl) (fun _ _ _ h => h) (Or.inl ⟨by kernel_rfl, ?_⟩) hHeld ?_
        rotate_left
        focus (intro W hS; obtain ⟨v, hbx⟩ := hS.bx; have c0 := hbx.at_ (j := 0) rfl; have c1 := hbx.at_ (j := 1) rfl; have c2 := hbx.at_ (j := 2) rfl; clear hbx; clear hS; first | (go_simp; done) | (go_simp; with_reducible rfl))
        try simp only [Act.put, List.setIfInBounds_toArray, List.set_cons_zero, List.set_cons_succ]
        refine wpAnyH_take (i := 5) (oi := ⟨some 23, _, _, _, _, _⟩) (v := ?_) rfl (by kernel_rfl) (by kernel_rfl) (by kernel_rfl) (fun _ _ _ h => h) (Or.inl ⟨by kernel_rfl, ?_⟩) hHeld ?_
        rotate_left
        focus (intro W hS; obtain ⟨v, hbx⟩ := hS.bx; have c0 := hbx.at_ (j := 0) rfl; have c1 := hbx.at_ (j := 1) rfl; have c2 := hbx.at_ (j := 2) rfl; clear hbx; clear hS; first | (go_simp; done) | (go_simp; with_reducible rfl))
        try simp only [Act.put, List.setIfInBounds_toArray, List.set_cons_zero, List.set_cons_succ]
        refine wpAnyH_take (i := 6) (oi := ⟨some 24, _, _, _, _, _⟩) (v := ?_) rfl (by kernel_rfl) (by kernel_rfl) (by kernel_rfl) (fun _ _ _ h => h) (Or.inl ⟨by kernel_rfl, ?_⟩) hHeld ?_
        rotate_left
        focus (intro W hS; obtain ⟨v, hbx⟩ := hS.bx; have c0 := hbx.at_ (j := 0) rfl; have c1 := hbx.at_ (j := 1) rfl; have c2 := hbx.at_ (j := 2) rfl; clear hbx; clear hS; first | (go_simp; done) | (go_simp; with_reducible rfl))
        try simp only [Act.put, List.setIfInBounds_toArray, List.set_cons_zero, List.set_cons_succ]
        refine wpAnyH_take (i := 7) (oi := ⟨some 25, _, _, _, _, _⟩) (v := ?_) rfl (by kernel_rfl) (by kernel_rfl) (by kernel_rfl) (fun _ _ _ h => h) (Or.inl ⟨by kernel_rfl, ?_⟩) hHeld ?_
        rotate_left
        focus (intro W hS; obtain ⟨v, hbx⟩ := hS.bx; have c0 := hbx.at_ (j := 0) rfl; have c1 := hbx.at_ (j := 1) rfl; have c2 := hbx.at_ (j := 2) rfl; clear hbx; clear hS; first | (go_simp; done) | (go_simp; with_reducible rfl))
        try simp only [Act.put, List.setIfInBounds_toArray, List.set_cons_zero, List.set_cons_succ]
        refine wpAnyH_ready (rs := [1, 8]) (by kernel_rfl) (by simp) ?_
        refine AllReadyH.cons (o := ⟨some 19, _, _, _, _, _⟩) rfl (fun K hK => ?_) ?_
        · skip
          go_simp
          refine Calls.mono (C20.out _ (pow10_below hT hHeld.below)) ?_
          rintro e x1 ⟨rfl, hb1⟩
          refine hK.out _ _ (DeedW.new hHeld hb1) (fun hHeld' => ?_)
          clear hK K hHeld hb1
          have hHeld := hHeld'
          clear hHeld'
          try simp only [Act.put, List.setIfInBounds_toArray, List.set_cons_zero, List.set_cons_succ]
          refine wpAnyH_ready (rs := [8]) (by kernel_rfl) (by simp) ?_
          refine AllReadyH.cons (o := ⟨some 26, _, _, _, _, _⟩) rfl (fun K hK => ?_) AllReadyH.nil
          go_simp
          have GVb := box_new (x1) 3 #[.int .i64 2, .int .i64 x.f0, .int .i64 x.f1, .int .i64 x.f2]
          have hb1 := (Below.refl (x1).heap.size (x1)).alloc (Nat.le_refl _) (.cells #[.int .i64 2, .int .i64 x.f0, .int .i64 x.f1, .int .i64 x.f2] 3)
          have LVb : w.heap.size ≤ (x1).heap.size := by have := (hHeld).size; omega
          generalize (x1).alloc (.cells #[.int .i64 2, .int .i64 x.f0, .int .i64 x.f1, .int .i64 x.f2] 3) = x2 at hb1 GVb  ⊢
          generalize hg : (x1).heap.size = gVb at GVb LVb  ⊢
          clear hg
          refine hK.out _ _ (DeedW.new hHeld hb1) (fun hHeld' => ?_)
          clear hK K hHeld hb1
          have hHeld := hHeld'
          clear hHeld'
          try simp only [Act.put, List.setIfInBounds_toArray, List.set_cons_zero, List.set_cons_succ]
          refine wpAnyH_ready (rs := [9]) (by kernel_rfl) (by simp) ?_
          refine AllReadyH.cons (o := ⟨some 27, _, _, _, _, _⟩) rfl (fun K hK => ?_) AllReadyH.nil
          go_simp
          refine Calls.mono (impl_sealer1 _ _ _ _) ?_
          rintro e x3 ⟨rfl, hb1⟩
          replace GVb := GVb.new hb1
          refine hK.out _ _ (DeedW.new hHeld hb1) (fun hHeld' => ?_)
          clear hK K hHeld hb1
          have hHeld := hHeld'
          clear hHeld'
          try simp only [Act.put, List.setIfInBounds_toArray, List.set_cons_zero, List.set_cons_succ]
          refine wpAnyH_take (i := 10) (oi := ⟨some 28, _, _, _, _, _⟩) (v := ?_) rfl (by kernel_rfl) (by kernel_rfl) (by kernel_rfl) (fun _ _ _ h => h) (Or.inl ⟨by kernel_rfl, ?_⟩) hHeld ?_
          rotate_left
          focus (intro W hS; obtain ⟨v, hbx⟩ := hS.bx; have c0 := hbx.at_ (j := 0) rfl; have c1 := hbx.at_ (j := 1) rfl; have c2 := hbx.at_ (j := 2) rfl; clear hbx; clear hS; first | (go_simp; done) | (go_simp; with_reducible rfl))
          try simp only [Act.put, List.setIfInBounds_toArray, List.set_cons_zero, List.set_cons_succ]
          refine wpAnyH_ready (rs := [11]) (by kernel_rfl) (by simp) ?_
          refine AllReadyH.cons (o := ⟨none, _, _, _, _, _⟩) rfl (fun K hK => ?_) AllReadyH.nil
          obtain ⟨v, hbx⟩ := hHeld.bx
          have c3 := hbx.at_ (j := 4) rfl
          have f3 := hbx.free 4
          have hlt := hbx.lt
          go_simp
          have GX := bx_cell (u := .int .i64 0) (j := 4) hbx
          have GR := bx_cell_far (g := w.heap.size) (j := 4) (u := .int .i64 0) hHeld.br (by omega)
          have GB := hHeld.below.setCell (p := ⟨w.heap.size, 4, none⟩) (Nat.le_refl _) (.int .i64 0)
          refine hK.out _ _ ⟨⟨_, GX⟩, GR, GB⟩ (fun hHeld' => ?_)
          clear hK K hHeld hbx c3 f3 hHeld'
          try simp only [Act.put, List.setIfInBounds_toArray, List.set_cons_zero, List.set_cons_succ]
          refine wpAnyH_done (by kernel_rfl) ?_ _
          have HX := Lib.hid (show BoxAt _ w.heap.size 24 #[.int .i64 x.f0, .int .i64 x.f1, .int .i64 x.f2, .int .i64 0, .int .i64 0] from GX)
          have HR := Lib.hid GR
          have HB := Lib.hid GB
          clear GX GR GB
          have e0 := HX.out.at_ (j := 0) rfl
          have e1 := HX.out.at_ (j := 1) rfl
          have e2 := HX.out.at_ (j := 2) rfl
          have e3 := HX.out.at_ (j := 3) rfl
          have e4 := HX.out.at_ (j := 4) rfl
          go_wp2_with (refine wpList_store_row rfl 24 _ _ rfl (w.heap.size + 1) #[.int .i64 x.f0, .int .i64 x.f1, .int .i64 x.f2, .int .i64 0, .int .i64 0] rfl rfl 24 _ HR.out (by kernel_rfl) (by kernel_rfl) (by kernel_rfl) ?_)
          have k0 := (box_row (cs := #[.int .i64 x.f0, .int .i64 x.f1, .int .i64 x.f2, .int .i64 0, .int .i64 0]) HR.out).at_ (j := 0) rfl
          have k1 := (box_row (cs := #[.int .i64 x.f0, .int .i64 x.f1, .int .i64 x.f2, .int .i64 0, .int .i64 0]) HR.out).at_ (j := 1) rfl
          have k2 := (box_row (cs := #[.int .i64 x.f0, .int .i64 x.f1, .int .i64 x.f2, .int .i64 0, .int .i64 0]) HR.out).at_ (j := 2) rfl
          have k3 := (box_row (cs := #[.int .i64 x.f0, .int .i64 x.f1, .int .i64 x.f2, .int .i64 0, .int .i64 0]) HR.out).at_ (j := 3) rfl
          have k4 := (box_row (cs := #[.int .i64 x.f0, .int .i64 x.f1, .int .i64 x.f2, .int .i64 0, .int .i64 0]) HR.out).at_ (j := 4) rfl
          exact bodyPost_ret (v := vDeed ⟨x.f0, x.f1, x.f2, 0, 0⟩) (by simp [results, Tryd.results6, go_sem, k0, k1, k2, k3, k4]) rfl ⟨rfl, below_setRow HB.out (by omega) _⟩
        refine AllReadyH.cons (o := ⟨some 26, _, _, _, _, _⟩) rfl (fun K hK => ?_) ?_
        · skip
          go_simp
          have GVb := box_new (x0) 3 #[.int .i64 2, .int .i64 x.f0, .int .i64 x.f1, .int .i64 x.f2]
          have hb1 := (Below.refl (x0).heap.size (x0)).alloc (Nat.le_refl _) (.cells #[.int .i64 2, .int .i64 x.f0, .int .i64 x.f1, .int .i64 x.f2] 3)
          have LVb : w.heap.size ≤ (x0).heap.size := by have := (hHeld).size; omega
          generalize (x0).alloc (.cells #[.int .i64 2, .int .i64 x.f0, .int .i64 x.f1, .int .i64 x.f2] 3) = x1 at hb1 GVb  ⊢
          generalize hg : (x0).heap.size = gVb at GVb LVb  ⊢
          clear hg
          refine hK.out _ _ (DeedW.new hHeld hb1) (fun hHeld' => ?_)
          clear hK K hHeld hb1
          have hHeld := hHeld'
          clear hHeld'
          try simp only [Act.put, List.setIfInBounds_toArray, List.set_cons_zero, List.set_cons_succ]
          refine wpAnyH_ready (rs := [1]) (by kernel_rfl) (by simp) ?_
          refine AllReadyH.cons (o := ⟨some 19, _, _, _, _, _⟩) rfl (fun K hK => ?_) AllReadyH.nil
          go_simp
          refine Calls.mono (C20.out _ (pow10_below hT hHeld.below)) ?_
          rintro e x2 ⟨rfl, hb1⟩
          replace GVb := GVb.new hb1
          refine hK.out _ _ (DeedW.new hHeld hb1) (fun hHeld' => ?_)
          clear hK K hHeld hb1
          have hHeld := hHeld'
          clear hHeld'
          try simp only [Act.put, List.setIfInBounds_toArray, List.set_cons_zero, List.set_cons_succ]
          refine wpAnyH_ready (rs := [9]) (by kernel_rfl) (by simp) ?_
          refine AllReadyH.cons (o := ⟨some 27, _, _, _, _, _⟩) rfl (fun K hK => ?_) AllReadyH.nil
          go_simp
          refine Calls.mono (impl_sealer1 _ _ _ _) ?_
          rintro e x3 ⟨rfl, hb1⟩
          replace GVb := GVb.new hb1
          refine hK.out _ _ (DeedW.new hHeld hb1) (fun hHeld' => ?_)
          clear hK K hHeld hb1
          have hHeld := hHeld'
          clear hHeld'
          try simp only [Act.put, List.setIfInBounds_toArray, List.set_cons_zero, List.set_cons_succ]
          refine wpAnyH_take (i := 10) (oi := ⟨some 28, _, _, _, _, _⟩) (v := ?_) rfl (by kernel_rfl) (by kernel_rfl) (by kernel_rfl) (fun _ _ _ h => h) (Or.inl ⟨by kernel_rfl, ?_⟩) hHeld ?_
          rotate_left
          focus (intro W hS; obtain ⟨v, hbx⟩ := hS.bx; have c0 := hbx.at_ (j := 0) rfl; have c1 := hbx.at_ (j := 1) rfl; have c2 := hbx.at_ (j := 2) rfl; clear hbx; clear hS; first | (go_simp; done) | (go_simp; with_reducible rfl))
          try simp only [Act.put, List.setIfInBounds_toArray, List.set_cons_zero, List.set_cons_succ]
          refine wpAnyH_ready (rs := [11]) (by kernel_rfl) (by simp) ?_
          refine AllReadyH.cons (o := ⟨none, _, _, _, _, _⟩) rfl (fun K hK => ?_) AllReadyH.nil
          obtain ⟨v, hbx⟩ := hHeld.bx
          have c3 := hbx.at_ (j := 4) rfl
          have f3 := hbx.free 4
          have hlt := hbx.lt
          go_simp
          have GX := bx_cell (u := .int .i64 0) (j := 4) hbx
          have GR := bx_cell_far (g := w.heap.size) (j := 4) (u := .int .i64 0) hHeld.br (by omega)
          have GB := hHeld.below.setCell (p := ⟨w.heap.size, 4, none⟩) (Nat.le_refl _) (.int .i64 0)
          refine hK.out _ _ ⟨⟨_, GX⟩, GR, GB⟩ (fun hHeld' => ?_)
          clear hK K hHeld hbx c3 f3 hHeld'
          try simp only [Act.put, List.setIfInBounds_toArray, List.set_cons_zero, List.set_cons_succ]
          refine wpAnyH_done (by kernel_rfl) ?_ _
          have HX := Lib.hid (show BoxAt _ w.heap.size 24 #[.int .i64 x.f0, .int .i64 x.f1, .int .i64 x.f2, .int .i64 0, .int .i64 0] from GX)
          have HR := Lib.hid GR
          have HB := Lib.hid GB
          clear GX GR GB
          have e0 := HX.out.at_ (j := 0) rfl
          have e1 := HX.out.at_ (j := 1) rfl
          have e2 := HX.out.at_ (j := 2) rfl
          have e3 := HX.out.at_ (j := 3) rfl
          have e4 := HX.out.at_ (j := 4) rfl
          go_wp2_with (refine wpList_store_row rfl 24 _ _ rfl (w.heap.size + 1) #[.int .i64 x.f0, .int .i64 x.f1, .int .i64 x.f2, .int .i64 0, .int .i64 0] rfl rfl 24 _ HR.out (by kernel_rfl) (by kernel_rfl) (by kernel_rfl) ?_)
          have k0 := (box_row (cs := #[.int .i64 x.f0, .int .i64 x.f1, .int .i64 x.f2, .int .i64 0, .int .i64 0]) HR.out).at_ (j := 0) rfl
          have k1 := (box_row (cs := #[.int .i64 x.f0, .int .i64 x.f1, .int .i64 x.f2, .int .i64 0, .int .i64 0]) HR.out).at_ (j := 1) rfl
          have k2 := (box_row (cs := #[.int .i64 x.f0, .int .i64 x.f1, .int .i64 x.f2, .int .i64 0, .int .i64 0]) HR.out).at_ (j := 2) rfl
          have k3 := (box_row (cs := #[.int .i64 x.f0, .int .i64 x.f1, .int .i64 x.f2, .int .i64 0, .int .i64 0]) HR.out).at_ (j := 3) rfl
          have k4 := (box_row (cs := #[.int .i64 x.f0, .int .i64 x.f1, .int .i64 x.f2, .int .i64 0, .int .i64 0]) HR.out).at_ (j := 4) rfl
          exact bodyPost_ret (v := vDeed ⟨x.f0, x.f1, x.f2, 0, 0⟩) (by simp [results, Tryd.results6, go_sem, k0, k1, k2, k3, k4]) rfl ⟨rfl, below_setRow HB.out (by omega) _⟩
        exact AllReadyH.nil
      exact AllReadyH.nil
    · skip
      have HV := Lib.hid (show mDeed x k1 k2 = ⟨x.f0, x.f1, x.f2, 0, mKHash k2 [2, x.f0, x.f1, x.f2]⟩ by unfold mDeed mSealD; rw [hv1, hv2]; rfl)
      rw [HV.out]
      have C10 := Lib.hid (fun W hT => impl_sealer_no k1 W hT wk1 hv1)
      have C20 := Lib.hid (fun W hT => impl_sealer_yes k2 W hT wk2 hv2)
      have C21 := fun (W : World) (g : Nat) {B : Nat} (hK : BoxAt W B 3 #[.int .i64 k2]) (hV : BoxAt W g 3 #[.int .i64 2, .int .i64 x.f0, .int .i64 x.f1, .int .i64 x.f2]) => impl_sealer2 k2 [2, x.f0, x.f1, x.f2] (some ⟨g, 0, none⟩) 4 4 g (g + 1) B W hK wk2 (by decide) (rd_boxi hV) (deed_i64 Hx.out (by decide))
      generalize mKHash k2 [2, x.f0, x.f1, x.f2] = y at C21 ⊢
      replace C21 := Lib.hid C21
      clear hv1 hv2 wk1 wk2
      go_enter Tryd.func6, Tryd.ntmps6
      go_wp2_with fail
      refine wp_region_held_drew (S := fun w' => DeedW w (fun v => #[.int .i64 x.f0, .int .i64 x.f1, .int .i64 x.f2, v, .int .i64 x.f4]) w') (by kernel_rfl) ?_ (fun hHeld => ?_)
      · exact (⟨⟨.int .i64 x.f3, KB.1.drw⟩, KB.2.1.drw, KB.2.2.drew⟩ : DeedW w (fun v => #[.int .i64 x.f0, .int .i64 x.f1, .int .i64 x.f2, v, .int .i64 x.f4]) _)
      generalize (World.drew _) = x0 at hHeld ⊢
      refine wpAnyH_take (i := 0) (oi := ⟨some 7, _, _, _, _, _⟩) (v := ?_) rfl (by kernel_rfl) (by kernel_rfl) (by kernel_rfl) (fun _ _ _ h => h) (Or.inl ⟨by kernel_rfl, ?_⟩) hHeld ?_
      rotate_left
      focus (intro W hS; obtain ⟨v, hbx⟩ := hS.bx; have c0 := hbx.at_ (j := 0) rfl; have c1 := hbx.at_ (j := 1) rfl; have c2 := hbx.at_ (j := 2) rfl; clear hbx; clear hS; first | (go_simp; done) | (go_simp; with_reducible rfl))
      try simp only [Act.put, List.setIfInBounds_toArray, List.set_cons_zero, List.set_cons_succ]
      refine wpAnyH_take (i := 2) (oi := ⟨some 9, _, _, _, _, _⟩) (v := ?_) rfl (by kernel_rfl) (by kernel_rfl) (by kernel_rfl) (fun _ _ _ h => h) (Or.inl ⟨by kernel_rfl, ?_⟩) hHeld ?_
      rotate_left
      focus (intro W hS; obtain ⟨v, hbx⟩ := hS.bx; have c0 := hbx.at_ (j := 0) rfl; have c1 := hbx.at_ (j := 1) rfl; have c2 := hbx.at_ (j := 2) rfl; clear hbx; clear hS; first | (go_simp; done) | (go_simp; with_reducible rfl))
      try simp only [Act.put, List.setIfInBounds_toArray, List.set_cons_zero, List.set_cons_succ]
      refine wpAnyH_take (i := 3) (oi := ⟨some 10, _, _, _, _, _⟩) (v := ?_) rfl (by kernel_rfl) (by kernel_rfl) (by kernel_rfl) (fun _ _ _ h => h) (Or.inl ⟨by kernel_rfl, ?_⟩) hHeld ?_
      rotate_left
      focus (intro W hS; obtain ⟨v, hbx⟩ := hS.bx; have c0 := hbx.at_ (j := 0) rfl; have c1 := hbx.at_ (j := 1) rfl; have c2 := hbx.at_ (j := 2) rfl; clear hbx; clear hS; first | (go_simp; done) | (go_simp; with_reducible rfl))
      try simp only [Act.put, List.setIfInBounds_toArray, List.set_cons_zero, List.set_cons_succ]
      refine wpAnyH_take (i := 4) (oi := ⟨some 11, _, _, _, _, _⟩) (v := ?_) rfl (by kernel_rfl) (by kernel_rfl) (by kernel_rfl) (fun _ _ _ h => h) (Or.inl ⟨by kernel_rfl, ?_⟩) hHeld ?_
      rotate_left
      focus (intro W hS; obtain ⟨v, hbx⟩ := hS.bx; have c0 := hbx.at_ (j := 0) rfl; have c1 := hbx.at_ (j := 1) rfl; have c2 := hbx.at_ (j := 2) rfl; clear hbx; clear hS; first | (go_simp; done) | (go_simp; with_reducible rfl))
      try simp only [Act.put, List.setIfInBounds_toArray, List.set_cons_zero, List.set_cons_succ]
      refine wpAnyH_take (i := 5) (oi := ⟨some 12, _, _, _, _, _⟩) (v := ?_) rfl (by kernel_rfl) (by kernel_rfl) (by kernel_rfl) (fun _ _ _ h => h) (Or.inl ⟨by kernel_rfl, ?_⟩) hHeld ?_
      rotate_left
      focus (intro W hS; obtain ⟨v, hbx⟩ := hS.bx; have c0 := hbx.at_ (j := 0) rfl; have c1 := hbx.at_ (j := 1) rfl; have c2 := hbx.at_ (j := 2) rfl; clear hbx; clear hS; first | (go_simp; done) | (go_simp; with_reducible rfl))
      try simp only [Act.put, List.setIfInBounds_toArray, List.set_cons_zero, List.set_cons_succ]
      refine wpAnyH_take (i := 6) (oi := ⟨some 13, _, _, _, _, _⟩) (v := ?_) rfl (by kernel_rfl) (by kernel_rfl) (by kernel_rfl) (fun _ _ _ h => h) (Or.inl ⟨by kernel_rfl, ?_⟩) hHeld ?_
      rotate_left
      focus (intro W hS; obtain ⟨v, hbx⟩ := hS.bx; have c0 := hbx.at_ (j := 0) rfl; have c1 := hbx.at_ (j := 1) rfl; have c2 := hbx.at_ (j := 2) rfl; clear hbx; clear hS; first | (go_simp; done) | (go_simp; with_reducible rfl))
      try simp only [Act.put, List.setIfInBounds_toArray, List.set_cons_zero, List.set_cons_succ]
      refine wpAnyH_take (i := 7) (oi := ⟨some 14, _, _, _, _, _⟩) (v := ?_) rfl (by kernel_rfl) (by kernel_rfl) (by kernel_rfl) (fun _ _ _ h => h) (Or.inl ⟨by kernel_rfl, ?_⟩) hHeld ?_
      rotate_left
      focus (intro W hS; obtain ⟨v, hbx⟩ := hS.bx; have c0 := hbx.at_ (j := 0) rfl; have c1 := hbx.at_ (j := 1) rfl; have c2 := hbx.at_ (j := 2) rfl; clear hbx; clear hS; first | (go_simp; done) | (go_simp; with_reducible rfl))
      try simp only [Act.put, List.setIfInBounds_toArray, List.set_cons_zero, List.set_cons_succ]
      refine wpAnyH_ready (rs := [1, 8]) (by kernel_rfl) (by simp) ?_
      refine AllReadyH.cons (o := ⟨some 8, _, _, _, _, _⟩) rfl (fun K hK => ?_) ?_
      · skip
        go_simp
        refine Calls.mono (C10.out _ (pow10_below hT hHeld.below)) ?_
        rintro e x1 ⟨rfl, hb1⟩
        refine hK.out _ _ (DeedW.new hHeld hb1) (fun hHeld' => ?_)
        clear hK K hHeld hb1
        have hHeld := hHeld'
        clear hHeld'
        try simp only [Act.put, List.setIfInBounds_toArray, List.set_cons_zero, List.set_cons_succ]
        refine wpAnyH_ready (rs := [8]) (by kernel_rfl) (by simp) ?_
        refine AllReadyH.cons (o := ⟨some 15, _, _, _, _, _⟩) rfl (fun K hK => ?_) AllReadyH.nil
        go_simp
        have GVa := box_new (x1) 3 #[.int .i64 1, .int .i64 x.f0, .int .i64 x.f1, .int .i64 x.f2]
        have hb1 := (Below.refl (x1).heap.size (x1)).alloc (Nat.le_refl _) (.cells #[.int .i64 1, .int .i64 x.f0, .int .i64 x.f1, .int .i64 x.f2] 3)
        have LVa : w.heap.size ≤ (x1).heap.size := by have := (hHeld).size; omega
        generalize (x1).alloc (.cells #[.int .i64 1, .int .i64 x.f0, .int .i64 x.f1, .int .i64 x.f2] 3) = x2 at hb1 GVa  ⊢
        generalize hg : (x1).heap.size = gVa at GVa LVa  ⊢
        clear hg
        refine hK.out _ _ (DeedW.new hHeld hb1) (fun hHeld' => ?_)
        clear hK K hHeld hb1
        have hHeld := hHeld'
        clear hHeld'
        try simp only [Act.put, List.setIfInBounds_toArray, List.set_cons_zero, List.set_cons_succ]
        refine wpAnyH_ready (rs := [9]) (by kernel_rfl) (by simp) ?_
        refine AllReadyH.cons (o := ⟨some 16, _, _, _, _, _⟩) rfl (fun K hK => ?_) AllReadyH.nil
        go_simp
        refine Calls.mono (impl_sealer1 _ _ _ _) ?_
        rintro e x3 ⟨rfl, hb1⟩
        replace GVa := GVa.new hb1
        refine hK.out _ _ (DeedW.new hHeld hb1) (fun hHeld' => ?_)
        clear hK K hHeld hb1
        have hHeld := hHeld'
        clear hHeld'
        try simp only [Act.put, List.setIfInBounds_toArray, List.set_cons_zero, List.set_cons_succ]
        refine wpAnyH_take (i := 10) (oi := ⟨some 17, _, _, _, _, _⟩) (v := ?_) rfl (by kernel_rfl) (by kernel_rfl) (by kernel_rfl) (fun _ _ _ h => h) (Or.inl ⟨by kernel_rfl, ?_⟩) hHeld ?_
        rotate_left
        focus (intro W hS; obtain ⟨v, hbx⟩ := hS.bx; have c0 := hbx.at_ (j := 0) rfl; have c1 := hbx.at_ (j := 1) rfl; have c2 := hbx.at_ (j := 2) rfl; clear hbx; clear hS; first | (go_simp; done) | (go_simp; with_reducible rfl))
        try simp only [Act.put, List.setIfInBounds_toArray, List.set_cons_zero, List.set_cons_succ]
        refine wpAnyH_ready (rs := [11]) (by kernel_rfl) (by simp) ?_
        refine AllReadyH.cons (o := ⟨none, _, _, _, _, _⟩) rfl (fun K hK => ?_) AllReadyH.nil
        obtain ⟨v, hbx⟩ := hHeld.bx
        have c3 := hbx.at_ (j := 3) rfl
        have f3 := hbx.free 3
        have hlt := hbx.lt
        go_simp
        have GX := bx_cell (u := .int .i64 0) (j := 3) hbx
        have GR := bx_cell_far (g := w.heap.size) (j := 3) (u := .int .i64 0) hHeld.br (by omega)
        have GB := hHeld.below.setCell (p := ⟨w.heap.size, 3, none⟩) (Nat.le_refl _) (.int .i64 0)
        refine hK.out _ _ ⟨⟨_, GX⟩, GR, GB⟩ (fun hHeld' => ?_)
        clear hK K hHeld hbx c3 f3 hHeld'
        try simp only [Act.put, List.setIfInBounds_toArray, List.set_cons_zero, List.set_cons_succ]
        refine wpAnyH_done (by kernel_rfl) ?_ _
        have HXa := Lib.hid (show BoxAt _ w.heap.size 24 #[.int .i64 x.f0, .int .i64 x.f1, .int .i64 x.f2, .int .i64 0, .int .i64 x.f4] from GX)
        have HRa := Lib.hid GR
        have HBa := Lib.hid GB
        clear GX GR GB
        go_wp2_with fail
        refine wp_region_held_drew (S := fun w' => DeedW w (fun v => #[.int .i64 x.f0, .int .i64 x.f1, .int .i64 x.f2, .int .i64 0, v]) w') (by kernel_rfl) ?_ (fun hHeld => ?_)
        · exact (⟨⟨.int .i64 x.f4, HXa.out.drw⟩, HRa.out.drw, HBa.out.drew⟩ : DeedW w (fun v => #[.int .i64 x.f0, .int .i64 x.f1, .int .i64 x.f2, .int .i64 0, v]) _)
        generalize (World.drew _) = x0 at hHeld ⊢
        refine wpAnyH_take (i := 0) (oi := ⟨some 18, _, _, _, _, _⟩) (v := ?_) rfl (by kernel_rfl) (by kernel_rfl) (by kernel_rfl) (fun _ _ _ h => h) (Or.inl ⟨by kernel_rfl, ?_⟩) hHeld ?_
        rotate_left
        focus (intro W hS; obtain ⟨v, hbx⟩ := hS.bx; have c0 := hbx.at_ (j := 0) rfl; have c1 := hbx.at_ (j := 1) rfl; have c2 := hbx.at_ (j := 2) rfl; clear hbx; clear hS; first | (go_simp; done) | (go_simp; with_reducible rfl))
        try simp only [Act.put, List.setIfInBounds_toArray, List.set_cons_zero, List.set_cons_succ]
        refine wpAnyH_take (i := 2) (oi := ⟨some 20, _, _, _, _, _⟩) (v := ?_) rfl (by kernel_rfl) (by kernel_rfl) (by kernel_rfl) (fun _ _ _ h => h) (Or.inl ⟨by kernel_rfl, ?_⟩) hHeld ?_
        rotate_left
        focus (intro W hS; obtain ⟨v, hbx⟩ := hS.bx; have c0 := hbx.at_ (j := 0) rfl; have c1 := hbx.at_ (j := 1) rfl; have c2 := hbx.at_ (j := 2) rfl; clear hbx; clear hS; first | (go_simp; done) | (go_simp; with_reducible rfl))
        try simp only [Act.put, List.setIfInBounds_toArray, List.set_cons_zero, List.set_cons_succ]
        refine wpAnyH_take (i := 3) (oi := ⟨some 21, _, _, _, _, _⟩) (v := ?_) rfl (by kernel_rfl) (by kernel_rfl) (by kernel_rfl) (fun _ _ _ h => h) (Or.inl ⟨by kernel_rfl, ?_⟩) hHeld ?_
        rotate_left
        focus (intro W hS; obtain ⟨v, hbx⟩ := hS.bx; have c0 := hbx.at_ (j := 0) rfl; have c1 := hbx.at_ (j := 1) rfl; have c2 := hbx.at_ (j := 2) rfl; clear hbx; clear hS; first | (go_simp; done) | (go_simp; with_reducible rfl))
        try simp only [Act.put, List.setIfInBounds_toArray, List.set_cons_zero, List.set_cons_succ]
        refine wpAnyH_take (i := 4) (oi := ⟨some 22, _, _, _, _, _⟩) (v := ?_) rfl (by kernel_rfl) (by kernel_rfl) (by kernel_rfl) (fun _ _ _ h => h) (Or.inl ⟨by kernel_rfl, ?_⟩) hHeld ?_
        rotate_left
        focus (intro W hS; obtain ⟨v, hbx⟩ := hS.bx; have c0 := hbx.at_ (j := 0) rfl; have c1 := hbx.at_ (j := 1) rfl; have c2 := hbx.at_ (j := 2) rfl; clear hbx; clear hS; first | (go_simp; done) | (go_simp; with_reducible rfl))
        try simp only [Act.put, List.setIfInBounds_toArray, List.set_cons_zero, List.set_cons_succ]
        refine wpAnyH_take (i := 5) (oi := ⟨some 23, _, _, _, _, _⟩) (v := ?_) rfl (by kernel_rfl) (by kernel_rfl) (by kernel_rfl) (fun _ _ _ h => h) (Or.inl ⟨by kernel_rfl, ?_⟩) hHeld ?_
        rotate_left
        focus (intro W hS; obtain ⟨v, hbx⟩ := hS.bx; have c0 := hbx.at_ (j := 0) rfl; have c1 := hbx.at_ (j := 1) rfl; have c2 := hbx.at_ (j := 2) rfl; clear hbx; clear hS; first | (go_simp; done) | (go_simp; with_reducible rfl))
        try simp only [Act.put, List.setIfInBounds_toArray, List.set_cons_zero, List.set_cons_succ]
        refine wpAnyH_take (i := 6) (oi := ⟨some 24, _, _, _, _, _⟩) (v := ?_) rfl (by kernel_rfl) (by kernel_rfl) (by kernel_rfl) (fun _ _ _ h => h) (Or.inl ⟨by kernel_rfl, ?_⟩) hHeld ?_
        rotate_left
        focus (intro W hS; obtain ⟨v, hbx⟩ := hS.bx; have c0 := hbx.at_ (j := 0) rfl; have c1 := hbx.at_ (j := 1) rfl; have c2 := hbx.at_ (j := 2) rfl; clear hbx; clear hS; first | (go_simp; done) | (go_simp; with_reducible rfl))
        try simp only [Act.put, List.setIfInBounds_toArray, List.set_cons_zero, List.set_cons_succ]
        refine wpAnyH_take (i := 7) (oi := ⟨some 25, _, _, _, _, _⟩) (v := ?_) rfl (by kernel_rfl) (by kernel_rfl) (by kernel_rfl) (fun _ _ _ h => h) (Or.inl ⟨by kernel_rfl, ?_⟩) hHeld ?_
        rotate_left
        focus (intro W hS; obtain ⟨v, hbx⟩ := hS.bx; have c0 := hbx.at_ (j := 0) rfl; have c1 := hbx.at_ (j := 1) rfl; have c2 := hbx.at_ (j := 2) rfl; clear hbx; clear hS; first | (go_simp; done) | (go_simp; with_reducible rfl))
        try simp only [Act.put, List.setIfInBounds_toArray, List.set_cons_zero, List.set_cons_succ]
        refine wpAnyH_ready (rs := [1, 8]) (by kernel_rfl) (by simp) ?_
        refine AllReadyH.cons (o := ⟨some 19, _, _, _, _, _⟩) rfl (fun K hK => ?_) ?_
        · skip
          go_simp
          refine Calls.mono (C20.out _ (pow10_below hT hHeld.below)) ?_
          rintro e x1 ⟨gKb, rfl, GKb, hb1⟩
          refine hK.out _ _ (DeedW.new hHeld hb1) (fun hHeld' => ?_)
          clear hK K hHeld hb1
          have hHeld := hHeld'
          clear hHeld'
          try simp only [Act.put, List.setIfInBounds_toArray, List.set_cons_zero, List.set_cons_succ]
          refine wpAnyH_ready (rs := [8]) (by kernel_rfl) (by simp) ?_
          refine AllReadyH.cons (o := ⟨some 26, _, _, _, _, _⟩) rfl (fun K hK => ?_) AllReadyH.nil
          go_simp
          have GVb := box_new (x1) 3 #[.int .i64 2, .int .i64 x.f0, .int .i64 x.f1, .int .i64 x.f2]
          have hb1 := (Below.refl (x1).heap.size (x1)).alloc (Nat.le_refl _) (.cells #[.int .i64 2, .int .i64 x.f0, .int .i64 x.f1, .int .i64 x.f2] 3)
          have LVb : w.heap.size ≤ (x1).heap.size := by have := (hHeld).size; omega
          have NKbVb : gKb < (x1).heap.size := GKb.lt
          replace GKb := GKb.new hb1
          generalize (x1).alloc (.cells #[.int .i64 2, .int .i64 x.f0, .int .i64 x.f1, .int .i64 x.f2] 3) = x2 at hb1 GVb GKb ⊢
          generalize hg : (x1).heap.size = gVb at GVb LVb NKbVb ⊢
          clear hg
          refine hK.out _ _ (DeedW.new hHeld hb1) (fun hHeld' => ?_)
          clear hK K hHeld hb1
          have hHeld := hHeld'
          clear hHeld'
          try simp only [Act.put, List.setIfInBounds_toArray, List.set_cons_zero, List.set_cons_succ]
          refine wpAnyH_ready (rs := [9]) (by kernel_rfl) (by simp) ?_
          refine AllReadyH.cons (o := ⟨some 27, _, _, _, _, _⟩) rfl (fun K hK => ?_) AllReadyH.nil
          go_simp
          refine Calls.mono (C21.out _ _ GKb GVb) ?_
          rintro e x3 ⟨rfl, hb1⟩
          replace GKb := GKb.new hb1
          replace GVb := GVb.new hb1
          refine hK.out _ _ (DeedW.new hHeld hb1) (fun hHeld' => ?_)
          clear hK K hHeld hb1
          have hHeld := hHeld'
          clear hHeld'
          try simp only [Act.put, List.setIfInBounds_toArray, List.set_cons_zero, List.set_cons_succ]
          refine wpAnyH_take (i := 10) (oi := ⟨some 28, _, _, _, _, _⟩) (v := ?_) rfl (by kernel_rfl) (by kernel_rfl) (by kernel_rfl) (fun _ _ _ h => h) (Or.inl ⟨by kernel_rfl, ?_⟩) hHeld ?_
          rotate_left
          focus (intro W hS; obtain ⟨v, hbx⟩ := hS.bx; have c0 := hbx.at_ (j := 0) rfl; have c1 := hbx.at_ (j := 1) rfl; have c2 := hbx.at_ (j := 2) rfl; clear hbx; clear hS; first | (go_simp; done) | (go_simp; with_reducible rfl))
          try simp only [Act.put, List.setIfInBounds_toArray, List.set_cons_zero, List.set_cons_succ]
          refine wpAnyH_ready (rs := [11]) (by kernel_rfl) (by simp) ?_
          refine AllReadyH.cons (o := ⟨none, _, _, _, _, _⟩) rfl (fun K hK => ?_) AllReadyH.nil
          obtain ⟨v, hbx⟩ := hHeld.bx
          have c3 := hbx.at_ (j := 4) rfl
          have f3 := hbx.free 4
          have hlt := hbx.lt
          go_simp
          have GX := bx_cell (u := .int .i64 y) (j := 4) hbx
          have GR := bx_cell_far (g := w.heap.size) (j := 4) (u := .int .i64 y) hHeld.br (by omega)
          have GB := hHeld.below.setCell (p := ⟨w.heap.size, 4, none⟩) (Nat.le_refl _) (.int .i64 y)
          refine hK.out _ _ ⟨⟨_, GX⟩, GR, GB⟩ (fun hHeld' => ?_)
          clear hK K hHeld hbx c3 f3 hHeld'
          try simp only [Act.put, List.setIfInBounds_toArray, List.set_cons_zero, List.set_cons_succ]
          refine wpAnyH_done (by kernel_rfl) ?_ _
          have HX := Lib.hid (show BoxAt _ w.heap.size 24 #[.int .i64 x.f0, .int .i64 x.f1, .int .i64 x.f2, .int .i64 0, .int .i64 y] from GX)
          have HR := Lib.hid GR
          have HB := Lib.hid GB
          clear GX GR GB
          have e0 := HX.out.at_ (j := 0) rfl
          have e1 := HX.out.at_ (j := 1) rfl
          have e2 := HX.out.at_ (j := 2) rfl
          have e3 := HX.out.at_ (j := 3) rfl
          have e4 := HX.out.at_ (j := 4) rfl
          go_wp2_with (refine wpList_store_row rfl 24 _ _ rfl (w.heap.size + 1) #[.int .i64 x.f0, .int .i64 x.f1, .int .i64 x.f2, .int .i64 0, .int .i64 y] rfl rfl 24 _ HR.out (by kernel_rfl) (by kernel_rfl) (by kernel_rfl) ?_)
          have k0 := (box_row (cs := #[.int .i64 x.f0, .int .i64 x.f1, .int .i64 x.f2, .int .i64 0, .int .i64 y]) HR.out).at_ (j := 0) rfl
          have k1 := (box_row (cs := #[.int .i64 x.f0, .int .i64 x.f1, .int .i64 x.f2, .int .i64 0, .int .i64 y]) HR.out).at_ (j := 1) rfl
          have k2 := (box_row (cs := #[.int .i64 x.f0, .int .i64 x.f1, .int .i64 x.f2, .int .i64 0, .int .i64 y]) HR.out).at_ (j := 2) rfl
          have k3 := (box_row (cs := #[.int .i64 x.f0, .int .i64 x.f1, .int .i64 x.f2, .int .i64 0, .int .i64 y]) HR.out).at_ (j := 3) rfl
          have k4 := (box_row (cs := #[.int .i64 x.f0, .int .i64 x.f1, .int .i64 x.f2, .int .i64 0, .int .i64 y]) HR.out).at_ (j := 4) rfl
          exact bodyPost_ret (v := vDeed ⟨x.f0, x.f1, x.f2, 0, y⟩) (by simp [results, Tryd.results6, go_sem, k0, k1, k2, k3, k4]) rfl ⟨rfl, below_setRow HB.out (by omega) _⟩
        refine AllReadyH.cons (o := ⟨some 26, _, _, _, _, _⟩) rfl (fun K hK => ?_) ?_
        · skip
          go_simp
          have GVb := box_new (x0) 3 #[.int .i64 2, .int .i64 x.f0, .int .i64 x.f1, .int .i64 x.f2]
          have hb1 := (Below.refl (x0).heap.size (x0)).alloc (Nat.le_refl _) (.cells #[.int .i64 2, .int .i64 x.f0, .int .i64 x.f1, .int .i64 x.f2] 3)
          have LVb : w.heap.size ≤ (x0).heap.size := by have := (hHeld).size; omega
          generalize (x0).alloc (.cells #[.int .i64 2, .int .i64 x.f0, .int .i64 x.f1, .int .i64 x.f2] 3) = x1 at hb1 GVb  ⊢
          generalize hg : (x0).heap.size = gVb at GVb LVb  ⊢
          clear hg
          refine hK.out _ _ (DeedW.new hHeld hb1) (fun hHeld' => ?_)
          clear hK K hHeld hb1
          have hHeld := hHeld'
          clear hHeld'
          try simp only [Act.put, List.setIfInBounds_toArray, List.set_cons_zero, List.set_cons_succ]
          refine wpAnyH_ready (rs := [1]) (by kernel_rfl) (by simp) ?_
          refine AllReadyH.cons (o := ⟨some 19, _, _, _, _, _⟩) rfl (fun K hK => ?_) AllReadyH.nil
          go_simp
          refine Calls.mono (C20.out _ (pow10_below hT hHeld.below)) ?_
          rintro e x2 ⟨gKb, rfl, GKb, hb1⟩
          replace GVb := GVb.new hb1
          refine hK.out _ _ (DeedW.new hHeld hb1) (fun hHeld' => ?_)
          clear hK K hHeld hb1
          have hHeld := hHeld'
          clear hHeld'
          try simp only [Act.put, List.setIfInBounds_toArray, List.set_cons_zero, List.set_cons_succ]
          refine wpAnyH_ready (rs := [9]) (by kernel_rfl) (by simp) ?_
          refine AllReadyH.cons (o := ⟨some 27, _, _, _, _, _⟩) rfl (fun K hK => ?_) AllReadyH.nil
          go_simp
          refine Calls.mono (C21.out _ _ GKb GVb) ?_
          rintro e x3 ⟨rfl, hb1⟩
          replace GVb := GVb.new hb1
          replace GKb := GKb.new hb1
          refine hK.out _ _ (DeedW.new hHeld hb1) (fun hHeld' => ?_)
          clear hK K hHeld hb1
          have hHeld := hHeld'
          clear hHeld'
          try simp only [Act.put, List.setIfInBounds_toArray, List.set_cons_zero, List.set_cons_succ]
          refine wpAnyH_take (i := 10) (oi := ⟨some 28, _, _, _, _, _⟩) (v := ?_) rfl (by kernel_rfl) (by kernel_rfl) (by kernel_rfl) (fun _ _ _ h => h) (Or.inl ⟨by kernel_rfl, ?_⟩) hHeld ?_
          rotate_left
          focus (intro W hS; obtain ⟨v, hbx⟩ := hS.bx; have c0 := hbx.at_ (j := 0) rfl; have c1 := hbx.at_ (j := 1) rfl; have c2 := hbx.at_ (j := 2) rfl; clear hbx; clear hS; first | (go_simp; done) | (go_simp; with_reducible rfl))
          try simp only [Act.put, List.setIfInBounds_toArray, List.set_cons_zero, List.set_cons_succ]
          refine wpAnyH_ready (rs := [11]) (by kernel_rfl) (by simp) ?_
          refine AllReadyH.cons (o := ⟨none, _, _, _, _, _⟩) rfl (fun K hK => ?_) AllReadyH.nil
          obtain ⟨v, hbx⟩ := hHeld.bx
          have c3 := hbx.at_ (j := 4) rfl
          have f3 := hbx.free 4
          have hlt := hbx.lt
          go_simp
          have GX := bx_cell (u := .int .i64 y) (j := 4) hbx
          have GR := bx_cell_far (g := w.heap.size) (j := 4) (u := .int .i64 y) hHeld.br (by omega)
          have GB := hHeld.below.setCell (p := ⟨w.heap.size, 4, none⟩) (Nat.le_refl _) (.int .i64 y)
          refine hK.out _ _ ⟨⟨_, GX⟩, GR, GB⟩ (fun hHeld' => ?_)
          clear hK K hHeld hbx c3 f3 hHeld'
          try simp only [Act.put, List.setIfInBounds_toArray, List.set_cons_zero, List.set_cons_succ]
          refine wpAnyH_done (by kernel_rfl) ?_ _
          have HX := Lib.hid (show BoxAt _ w.heap.size 24 #[.int .i64 x.f0, .int .i64 x.f1, .int .i64 x.f2, .int .i64 0, .int .i64 y] from GX)
          have HR := Lib.hid GR
          have HB := Lib.hid GB
          clear GX GR GB
          have e0 := HX.out.at_ (j := 0) rfl
          have e1 := HX.out.at_ (j := 1) rfl
          have e2 := HX.out.at_ (j := 2) rfl
          have e3 := HX.out.at_ (j := 3) rfl
          have e4 := HX.out.at_ (j := 4) rfl
          go_wp2_with (refine wpList_store_row rfl 24 _ _ rfl (w.heap.size + 1) #[.int .i64 x.f0, .int .i64 x.f1, .int .i64 x.f2, .int .i64 0, .int .i64 y] rfl rfl 24 _ HR.out (by kernel_rfl) (by kernel_rfl) (by kernel_rfl) ?_)
          have k0 := (box_row (cs := #[.int .i64 x.f0, .int .i64 x.f1, .int .i64 x.f2, .int .i64 0, .int .i64 y]) HR.out).at_ (j := 0) rfl
          have k1 := (box_row (cs := #[.int .i64 x.f0, .int .i64 x.f1, .int .i64 x.f2, .int .i64 0, .int .i64 y]) HR.out).at_ (j := 1) rfl
          have k2 := (box_row (cs := #[.int .i64 x.f0, .int .i64 x.f1, .int .i64 x.f2, .int .i64 0, .int .i64 y]) HR.out).at_ (j := 2) rfl
          have k3 := (box_row (cs := #[.int .i64 x.f0, .int .i64 x.f1, .int .i64 x.f2, .int .i64 0, .int .i64 y]) HR.out).at_ (j := 3) rfl
          have k4 := (box_row (cs := #[.int .i64 x.f0, .int .i64 x.f1, .int .i64 x.f2, .int .i64 0, .int .i64 y]) HR.out).at_ (j := 4) rfl
          exact bodyPost_ret (v := vDeed ⟨x.f0, x.f1, x.f2, 0, y⟩) (by simp [results, Tryd.results6, go_sem, k0, k1, k2, k3, k4]) rfl ⟨rfl, below_setRow HB.out (by omega) _⟩
        exact AllReadyH.nil
      refine AllReadyH.cons (o := ⟨some 15, _, _, _, _, _⟩) rfl (fun K hK => ?_) ?_
      · skip
        go_simp
        have GVa := box_new (x0) 3 #[.int .i64 1, .int .i64 x.f0, .int .i64 x.f1, .int .i64 x.f2]
        have hb1 := (Below.refl (x0).heap.size (x0)).alloc (Nat.le_refl _) (.cells #[.int .i64 1, .int .i64 x.f0, .int .i64 x.f1, .int .i64 x.f2] 3)
        have LVa : w.heap.size ≤ (x0).heap.size := by have := (hHeld).size; omega
        generalize (x0).alloc (.cells #[.int .i64 1, .int .i64 x.f0, .int .i64 x.f1, .int .i64 x.f2] 3) = x1 at hb1 GVa  ⊢
        generalize hg : (x0).heap.size = gVa at GVa LVa  ⊢
        clear hg
        refine hK.out _ _ (DeedW.new hHeld hb1) (fun hHeld' => ?_)
        clear hK K hHeld hb1
        have hHeld := hHeld'
        clear hHeld'
        try simp only [Act.put, List.setIfInBounds_toArray, List.set_cons_zero, List.set_cons_succ]
        refine wpAnyH_ready (rs := [1]) (by kernel_rfl) (by simp) ?_
        refine AllReadyH.cons (o := ⟨some 8, _, _, _, _, _⟩) rfl (fun K hK => ?_) AllReadyH.nil
        go_simp
        refine Calls.mono (C10.out _ (pow10_below hT hHeld.below)) ?_
        rintro e x2 ⟨rfl, hb1⟩
        replace GVa := GVa.new hb1
        refine hK.out _ _ (DeedW.new hHeld hb1) (fun hHeld' => ?_)
        clear hK K hHeld hb1
        have hHeld := hHeld'
        clear hHeld'
        try simp only [Act.put, List.setIfInBounds_toArray, List.set_cons_zero, List.set_cons_succ]
        refine wpAnyH_ready (rs := [9]) (by kernel_rfl) (by simp) ?_
        refine AllReadyH.cons (o := ⟨some 16, _, _, _, _, _⟩) rfl (fun K hK => ?_) AllReadyH.nil
        go_simp
        refine Calls.mono (impl_sealer1 _ _ _ _) ?_
        rintro e x3 ⟨rfl, hb1⟩
        replace GVa := GVa.new hb1
        refine hK.out _ _ (DeedW.new hHeld hb1) (fun hHeld' => ?_)
        clear hK K hHeld hb1
        have hHeld := hHeld'
        clear hHeld'
        try simp only [Act.put, List.setIfInBounds_toArray, List.set_cons_zero, List.set_cons_succ]
        refine wpAnyH_take (i := 10) (oi := ⟨some 17, _, _, _, _, _⟩) (v := ?_) rfl (by kernel_rfl) (by kernel_rfl) (by kernel_rfl) (fun _ _ _ h => h) (Or.inl ⟨by kernel_rfl, ?_⟩) hHeld ?_
        rotate_left
        focus (intro W hS; obtain ⟨v, hbx⟩ := hS.bx; have c0 := hbx.at_ (j := 0) rfl; have c1 := hbx.at_ (j := 1) rfl; have c2 := hbx.at_ (j := 2) rfl; clear hbx; clear hS; first | (go_simp; done) | (go_simp; with_reducible rfl))
        try simp only [Act.put, List.setIfInBounds_toArray, List.set_cons_zero, List.set_cons_succ]
        refine wpAnyH_ready (rs := [11]) (by kernel_rfl) (by simp) ?_
        refine AllReadyH.cons (o := ⟨none, _, _, _, _, _⟩) rfl (fun K hK => ?_) AllReadyH.nil
        obtain ⟨v, hbx⟩ := hHeld.bx
        have c3 := hbx.at_ (j := 3) rfl
        have f3 := hbx.free 3
        have hlt := hbx.lt
        go_simp
        have GX := bx_cell (u := .int .i64 0) (j := 3) hbx
        have GR := bx_cell_far (g := w.heap.size) (j := 3) (u := .int .i64 0) hHeld.br (by omega)
        have GB := hHeld.below.setCell (p := ⟨w.heap.size, 3, none⟩) (Nat.le_refl _) (.int .i64 0)
        refine hK.out _ _ ⟨⟨_, GX⟩, GR, GB⟩ (fun hHeld' => ?_)
        clear hK K hHeld hbx c3 f3 hHeld'
        try simp only [Act.put, List.setIfInBounds_toArray, List.set_cons_zero, List.set_cons_succ]
        refine wpAnyH_done (by kernel_rfl) ?_ _
        have HXa := Lib.hid (show BoxAt _ w.heap.size 24 #[.int .i64 x.f0, .int .i64 x.f1, .int .i64 x.f2, .int .i64 0, .int .i64 x.f4] from GX)
        have HRa := Lib.hid GR
        have HBa := Lib.hid GB
        clear GX GR GB
        go_wp2_with fail
        refine wp_region_held_drew (S := fun w' => DeedW w (fun v => #[.int .i64 x.f0, .int .i64 x.f1, .int .i64 x.f2, .int .i64 0, v]) w') (by kernel_rfl) ?_ (fun hHeld => ?_)
        · exact (⟨⟨.int .i64 x.f4, HXa.out.drw⟩, HRa.out.drw, HBa.out.drew⟩ : DeedW w (fun v => #[.int .i64 x.f0, .int .i64 x.f1, .int .i64 x.f2, .int .i64 0, v]) _)
        generalize (World.drew _) = x0 at hHeld ⊢
        refine wpAnyH_take (i := 0) (oi := ⟨some 18, _, _, _, _, _⟩) (v := ?_) rfl (by kernel_rfl) (by kernel_rfl) (by kernel_rfl) (fun _ _ _ h => h) (Or.inl ⟨by kernel_rfl, ?_⟩) hHeld ?_
        rotate_left
        focus (intro W hS; obtain ⟨v, hbx⟩ := hS.bx; have c0 := hbx.at_ (j := 0) rfl; have c1 := hbx.at_ (j := 1) rfl; have c2 := hbx.at_ (j := 2) rfl; clear hbx; clear hS; first | (go_simp; done) | (go_simp; with_reducible rfl))
        try simp only [Act.put, List.setIfInBounds_toArray, List.set_cons_zero, List.set_cons_succ]
        refine wpAnyH_take (i := 2) (oi := ⟨some 20, _, _, _, _, _⟩) (v := ?_) rfl (by kernel_rfl) (by kernel_rfl) (by kernel_rfl) (fun _ _ _ h => h) (Or.inl ⟨by kernel_rfl, ?_⟩) hHeld ?_
        rotate_left
        focus (intro W hS; obtain ⟨v, hbx⟩ := hS.bx; have c0 := hbx.at_ (j := 0) rfl; have c1 := hbx.at_ (j := 1) rfl; have c2 := hbx.at_ (j := 2) rfl; clear hbx; clear hS; first | (go_simp; done) | (go_simp; with_reducible rfl))
        try simp only [Act.put, List.setIfInBounds_toArray, List.set_cons_zero, List.set_cons_succ]
        refine wpAnyH_take (i := 3) (oi := ⟨some 21, _, _, _, _, _⟩) (v := ?_) rfl (by kernel_rfl) (by kernel_rfl) (by kernel_rfl) (fun _ _ _ h => h) (Or.inl ⟨by kernel_rfl, ?_⟩) hHeld ?_
        rotate_left
        focus (intro W hS; obtain ⟨v, hbx⟩ := hS.bx; have c0 := hbx.at_ (j := 0) rfl; have c1 := hbx.at_ (j := 1) rfl; have c2 := hbx.at_ (j := 2) rfl; clear hbx; clear hS; first | (go_simp; done) | (go_simp; with_reducible rfl))
        try simp only [Act.put, List.setIfInBounds_toArray, List.set_cons_zero, List.set_cons_succ]
        refine wpAnyH_take (i := 4) (oi := ⟨some 22, _, _, _, _, _⟩) (v := ?_) rfl (by kernel_rfl) (by kernel_rfl) (by kernel_rfl) (fun _ _ _ h => h) (Or.inl ⟨by kernel_rfl, ?_⟩) hHeld ?_
        rotate_left
        focus (intro W hS; obtain ⟨v, hbx⟩ := hS.bx; have c0 := hbx.at_ (j := 0) rfl; have c1 := hbx.at_ (j := 1) rfl; have c2 := hbx.at_ (j := 2) rfl; clear hbx; clear hS; first | (go_simp; done) | (go_simp; with_reducible rfl))
        try simp only [Act.put, List.setIfInBounds_toArray, List.set_cons_zero, List.set_cons_succ]
        refine wpAnyH_take (i := 5) (oi := ⟨some 23, _, _, _, _, _⟩) (v := ?_) rfl (by kernel_rfl) (by kernel_rfl) (by kernel_rfl) (fun _ _ _ h => h) (Or.inl ⟨by kernel_rfl, ?_⟩) hHeld ?_
        rotate_left
        focus (intro W hS; obtain ⟨v, hbx⟩ := hS.bx; have c0 := hbx.at_ (j := 0) rfl; have c1 := hbx.at_ (j := 1) rfl; have c2 := hbx.at_ (j := 2) rfl; clear hbx; clear hS; first | (go_simp; done) | (go_simp; with_reducible rfl))
        try simp only [Act.put, List.setIfInBounds_toArray, List.set_cons_zero, List.set_cons_succ]
        refine wpAnyH_take (i := 6) (oi := ⟨some 24, _, _, _, _, _⟩) (v := ?_) rfl (by kernel_rfl) (by kernel_rfl) (by kernel_rfl) (fun _ _ _ h => h) (Or.inl ⟨by kernel_rfl, ?_⟩) hHeld ?_
        rotate_left
        focus (intro W hS; obtain ⟨v, hbx⟩ := hS.bx; have c0 := hbx.at_ (j := 0) rfl; have c1 := hbx.at_ (j := 1) rfl; have c2 := hbx.at_ (j := 2) rfl; clear hbx; clear hS; first | (go_simp; done) | (go_simp; with_reducible rfl))
        try simp only [Act.put, List.setIfInBounds_toArray, List.set_cons_zero, List.set_cons_succ]
        refine wpAnyH_take (i := 7) (oi := ⟨some 25, _, _, _, _, _⟩) (v := ?_) rfl (by kernel_rfl) (by kernel_rfl) (by kernel_rfl) (fun _ _ _ h => h) (Or.inl ⟨by kernel_rfl, ?_⟩) hHeld ?_
        rotate_left
        focus (intro W hS; obtain ⟨v, hbx⟩ := hS.bx; have c0 := hbx.at_ (j := 0) rfl; have c1 := hbx.at_ (j := 1) rfl; have c2 := hbx.at_ (j := 2) rfl; clear hbx; clear hS; first | (go_simp; done) | (go_simp; with_reducible rfl))
        try simp only [Act.put, List.setIfInBounds_toArray, List.set_cons_zero, List.set_cons_succ]
        refine wpAnyH_ready (rs := [1, 8]) (by kernel_rfl) (by simp) ?_
        refine AllReadyH.cons (o := ⟨some 19, _, _, _, _, _⟩) rfl (fun K hK => ?_) ?_
        · skip
          go_simp
          refine Calls.mono (C20.out _ (pow10_below hT hHeld.below)) ?_
          rintro e x1 ⟨gKb, rfl, GKb, hb1⟩
          refine hK.out _ _ (DeedW.new hHeld hb1) (fun hHeld' => ?_)
          clear hK K hHeld hb1
          have hHeld := hHeld'
          clear hHeld'
          try simp only [Act.put, List.setIfInBounds_toArray, List.set_cons_zero, List.set_cons_succ]
          refine wpAnyH_ready (rs := [8]) (by kernel_rfl) (by simp) ?_
          refine AllReadyH.cons (o := ⟨some 26, _, _, _, _, _⟩) rfl (fun K hK => ?_) AllReadyH.nil
          go_simp
          have GVb := box_new (x1) 3 #[.int .i64 2, .int .i64 x.f0, .int .i64 x.f1, .int .i64 x.f2]
          have hb1 := (Below.refl (x1).heap.size (x1)).alloc (Nat.le_refl _) (.cells #[.int .i64 2, .int .i64 x.f0, .int .i64 x.f1, .int .i64 x.f2] 3)
          have LVb : w.heap.size ≤ (x1).heap.size := by have := (hHeld).size; omega
          have NKbVb : gKb < (x1).heap.size := GKb.lt
          replace GKb := GKb.new hb1
          generalize (x1).alloc (.cells #[.int .i64 2, .int .i64 x.f0, .int .i64 x.f1, .int .i64 x.f2] 3) = x2 at hb1 GVb GKb ⊢
          generalize hg : (x1).heap.size = gVb at GVb LVb NKbVb ⊢
          clear hg
          refine hK.out _ _ (DeedW.new hHeld hb1) (fun hHeld' => ?_)
          clear hK K hHeld hb1
          have hHeld := hHeld'
          clear hHeld'
          try simp only [Act.put, List.setIfInBounds_toArray, List.set_cons_zero, List.set_cons_succ]
          refine wpAnyH_ready (rs := [9]) (by kernel_rfl) (by simp) ?_
          refine AllReadyH.cons (o := ⟨some 27, _, _, _, _, _⟩) rfl (fun K hK => ?_) AllReadyH.nil
          go_simp
          refine Calls.mono (C21.out _ _ GKb GVb) ?_
          rintro e x3 ⟨rfl, hb1⟩
          replace GKb := GKb.new hb1
          replace GVb := GVb.new hb1
          refine hK.out _ _ (DeedW.new hHeld hb1) (fun hHeld' => ?_)
          clear hK K hHeld hb1
          have hHeld := hHeld'
          clear hHeld'
          try simp only [Act.put, List.setIfInBounds_toArray, List.set_cons_zero, List.set_cons_succ]
          refine wpAnyH_take (i := 10) (oi := ⟨some 28, _, _, _, _, _⟩) (v := ?_) rfl (by kernel_rfl) (by kernel_rfl) (by kernel_rfl) (fun _ _ _ h => h) (Or.inl ⟨by kernel_rfl, ?_⟩) hHeld ?_
          rotate_left
          focus (intro W hS; obtain ⟨v, hbx⟩ := hS.bx; have c0 := hbx.at_ (j := 0) rfl; have c1 := hbx.at_ (j := 1) rfl; have c2 := hbx.at_ (j := 2) rfl; clear hbx; clear hS; first | (go_simp; done) | (go_simp; with_reducible rfl))
          try simp only [Act.put, List.setIfInBounds_toArray, List.set_cons_zero, List.set_cons_succ]
          refine wpAnyH_ready (rs := [11]) (by kernel_rfl) (by simp) ?_
          refine AllReadyH.cons (o := ⟨none, _, _, _, _, _⟩) rfl (fun K hK => ?_) AllReadyH.nil
          obtain ⟨v, hbx⟩ := hHeld.bx
          have c3 := hbx.at_ (j := 4) rfl
          have f3 := hbx.free 4
          have hlt := hbx.lt
          go_simp
          have GX := bx_cell (u := .int .i64 y) (j := 4) hbx
          have GR := bx_cell_far (g := w.heap.size) (j := 4) (u := .int .i64 y) hHeld.br (by omega)
          have GB := hHeld.below.setCell (p := ⟨w.heap.size, 4, none⟩) (Nat.le_refl _) (.int .i64 y)
          refine hK.out _ _ ⟨⟨_, GX⟩, GR, GB⟩ (fun hHeld' => ?_)
          clear hK K hHeld hbx c3 f3 hHeld'
          try simp only [Act.put, List.setIfInBounds_toArray, List.set_cons_zero, List.set_cons_succ]
          refine wpAnyH_done (by kernel_rfl) ?_ _
          have HX := Lib.hid (show BoxAt _ w.heap.size 24 #[.int .i64 x.f0, .int .i64 x.f1, .int .i64 x.f2, .int .i64 0, .int .i64 y] from GX)
          have HR := Lib.hid GR
          have HB := Lib.hid GB
          clear GX GR GB
          have e0 := HX.out.at_ (j := 0) rfl
          have e1 := HX.out.at_ (j := 1) rfl
          have e2 := HX.out.at_ (j := 2) rfl
          have e3 := HX.out.at_ (j := 3) rfl
          have e4 := HX.out.at_ (j := 4) rfl
          go_wp2_with (refine wpList_store_row rfl 24 _ _ rfl (w.heap.size + 1) #[.int .i64 x.f0, .int .i64 x.f1, .int .i64 x.f2, .int .i64 0, .int .i64 y] rfl rfl 24 _ HR.out (by kernel_rfl) (by kernel_rfl) (by kernel_rfl) ?_)
          have k0 := (box_row (cs := #[.int .i64 x.f0, .int .i64 x.f1, .int .i64 x.f2, .int .i64 0, .int .i64 y]) HR.out).at_ (j := 0) rfl
          have k1 := (box_row (cs := #[.int .i64 x.f0, .int .i64 x.f1, .int .i64 x.f2, .int .i64 0, .int .i64 y]) HR.out).at_ (j := 1) rfl
          have k2 := (box_row (cs := #[.int .i64 x.f0, .int .i64 x.f1, .int .i64 x.f2, .int .i64 0, .int .i64 y]) HR.out).at_ (j := 2) rfl
          have k3 := (box_row (cs := #[.int .i64 x.f0, .int .i64 x.f1, .int .i64 x.f2, .int .i64 0, .int .i64 y]) HR.out).at_ (j := 3) rfl
          have k4 := (box_row (cs := #[.int .i64 x.f0, .int .i64 x.f1, .int .i64 x.f2, .int .i64 0, .int .i64 y]) HR.out).at_ (j := 4) rfl
          exact bodyPost_ret (v := vDeed ⟨x.f0, x.f1, x.f2, 0, y⟩) (by simp [results, Tryd.results6, go_sem, k0, k1, k2, k3, k4]) rfl ⟨rfl, below_setRow HB.out (by omega) _⟩
        refine AllReadyH.cons (o := ⟨some 26, _, _, _, _, _⟩) rfl (fun K hK => ?_) ?_
        · skip
          go_simp
          have GVb := box_new (x0) 3 #[.int .i64 2, .int .i64 x.f0, .int .i64 x.f1, .int .i64 x.f2]
          have hb1 := (Below.refl (x0).heap.size (x0)).alloc (Nat.le_refl _) (.cells #[.int .i64 2, .int .i64 x.f0, .int .i64 x.f1, .int .i64 x.f2] 3)
          have LVb : w.heap.size ≤ (x0).heap.size := by have := (hHeld).size; omega
          generalize (x0).alloc (.cells #[.int .i64 2, .int .i64 x.f0, .int .i64 x.f1, .int .i64 x.f2] 3) = x1 at hb1 GVb  ⊢
          generalize hg : (x0).heap.size = gVb at GVb LVb  ⊢
          clear hg
          refine hK.out _ _ (DeedW.new hHeld hb1) (fun hHeld' => ?_)
          clear hK K hHeld hb1
          have hHeld := hHeld'
          clear hHeld'
          try simp only [Act.put, List.setIfInBounds_toArray, List.set_cons_zero, List.set_cons_succ]
          refine wpAnyH_ready (rs := [1]) (by kernel_rfl) (by simp) ?_
          refine AllReadyH.cons (o := ⟨some 19, _, _, _, _, _⟩) rfl (fun K hK => ?_) AllReadyH.nil
          go_simp
          refine Calls.mono (C20.out _ (pow10_below hT hHeld.below)) ?_
          rintro e x2 ⟨gKb, rfl, GKb, hb1⟩
          replace GVb := GVb.new hb1
          refine hK.out _ _ (DeedW.new hHeld hb1) (fun hHeld' => ?_)
          clear hK K hHeld hb1
          have hHeld := hHeld'
          clear hHeld'
          try simp only [Act.put, List.setIfInBounds_toArray, List.set_cons_zero, List.set_cons_succ]
          refine wpAnyH_ready (rs := [9]) (by kernel_rfl) (by simp) ?_
          refine AllReadyH.cons (o := ⟨some 27, _, _, _, _, _⟩) rfl (fun K hK => ?_) AllReadyH.nil
          go_simp
          refine Calls.mono (C21.out _ _ GKb GVb) ?_
          rintro e x3 ⟨rfl, hb1⟩
          replace GVb := GVb.new hb1
          replace GKb := GKb.new hb1
          refine hK.out _ _ (DeedW.new hHeld hb1) (fun hHeld' => ?_)
          clear hK K hHeld hb1
          have hHeld := hHeld'
          clear hHeld'
          try simp only [Act.put, List.setIfInBounds_toArray, List.set_cons_zero, List.set_cons_succ]
          refine wpAnyH_take (i := 10) (oi := ⟨some 28, _, _, _, _, _⟩) (v := ?_) rfl (by kernel_rfl) (by kernel_rfl) (by kernel_rfl) (fun _ _ _ h => h) (Or.inl ⟨by kernel_rfl, ?_⟩) hHeld ?_
          rotate_left
          focus (intro W hS; obtain ⟨v, hbx⟩ := hS.bx; have c0 := hbx.at_ (j := 0) rfl; have c1 := hbx.at_ (j := 1) rfl; have c2 := hbx.at_ (j := 2) rfl; clear hbx; clear hS; first | (go_simp; done) | (go_simp; with_reducible rfl))
          try simp only [Act.put, List.setIfInBounds_toArray, List.set_cons_zero, List.set_cons_succ]
          refine wpAnyH_ready (rs := [11]) (by kernel_rfl) (by simp) ?_
          refine AllReadyH.cons (o := ⟨none, _, _, _, _, _⟩) rfl (fun K hK => ?_) AllReadyH.nil
          obtain ⟨v, hbx⟩ := hHeld.bx
          have c3 := hbx.at_ (j := 4) rfl
          have f3 := hbx.free 4
          have hlt := hbx.lt
          go_simp
          have GX := bx_cell (u := .int .i64 y) (j := 4) hbx
          have GR := bx_cell_far (g := w.heap.size) (j := 4) (u := .int .i64 y) hHeld.br (by omega)
          have GB := hHeld.below.setCell (p := ⟨w.heap.size, 4, none⟩) (Nat.le_refl _) (.int .i64 y)
          refine hK.out _ _ ⟨⟨_, GX⟩, GR, GB⟩ (fun hHeld' => ?_)
          clear hK K hHeld hbx c3 f3 hHeld'
          try simp only [Act.put, List.setIfInBounds_toArray, List.set_cons_zero, List.set_cons_succ]
          refine wpAnyH_done (by kernel_rfl) ?_ _
          have HX := Lib.hid (show BoxAt _ w.heap.size 24 #[.int .i64 x.f0, .int .i64 x.f1, .int .i64 x.f2, .int .i64 0, .int .i64 y] from GX)
          have HR := Lib.hid GR
          have HB := Lib.hid GB
          clear GX GR GB
          have e0 := HX.out.at_ (j := 0) rfl
          have e1 := HX.out.at_ (j := 1) rfl
          have e2 := HX.out.at_ (j := 2) rfl
          have e3 := HX.out.at_ (j := 3) rfl
          have e4 := HX.out.at_ (j := 4) rfl
          go_wp2_with (refine wpList_store_row rfl 24 _ _ rfl (w.heap.size + 1) #[.int .i64 x.f0, .int .i64 x.f1, .int .i64 x.f2, .int .i64 0, .int .i64 y] rfl rfl 24 _ HR.out (by kernel_rfl) (by kernel_rfl) (by kernel_rfl) ?_)
          have k0 := (box_row (cs := #[.int .i64 x.f0, .int .i64 x.f1, .int .i64 x.f2, .int .i64 0, .int .i64 y]) HR.out).at_ (j := 0) rfl
          have k1 := (box_row (cs := #[.int .i64 x.f0, .int .i64 x.f1, .int .i64 x.f2, .int .i64 0, .int .i64 y]) HR.out).at_ (j := 1) rfl
          have k2 := (box_row (cs := #[.int .i64 x.f0, .int .i64 x.f1, .int .i64 x.f2, .int .i64 0, .int .i64 y]) HR.out).at_ (j := 2) rfl
          have k3 := (box_row (cs := #[.int .i64 x.f0, .int .i64 x.f1, .int .i64 x.f2, .int .i64 0, .int .i64 y]) HR.out).at_ (j := 3) rfl
          have k4 := (box_row (cs := #[.int .i64 x.f0, .int .i64 x.f1, .int .i64 x.f2, .int .i64 0, .int .i64 y]) HR.out).at_ (j := 4) rfl
          exact bodyPost_ret (v := vDeed ⟨x.f0, x.f1, x.f2, 0, y⟩) (by simp [results, Tryd.results6, go_sem, k0, k1, k2, k3, k4]) rfl ⟨rfl, below_setRow HB.out (by omega) _⟩
        exact AllReadyH.nil
      exact AllReadyH.nil
  · cases hv2 : mValid k2
    · skip
      have HV := Lib.hid (show mDeed x k1 k2 = ⟨x.f0, x.f1, x.f2, mKHash k1 [1, x.f0, x.f1, x.f2], 0⟩ by unfold mDeed mSealD; rw [hv1, hv2]; rfl)
      rw [HV.out]
      have C10 := Lib.hid (fun W hT => impl_sealer_yes k1 W hT wk1 hv1)
      have C11 := fun (W : World) (g : Nat) {B : Nat} (hK : BoxAt W B 3 #[.int .i64 k1]) (hV : BoxAt W g 3 #[.int .i64 1, .int .i64 x.f0, .int .i64 x.f1, .int .i64 x.f2]) => impl_sealer2 k1 [1, x.f0, x.f1, x.f2] (some ⟨g, 0, none⟩) 4 4 g (g + 1) B W hK wk1 (by decide) (rd_boxi hV) (deed_i64 Hx.out (by decide))
      generalize mKHash k1 [1, x.f0, x.f1, x.f2] = z at C11 ⊢
      replace C11 := Lib.hid C11
      have C20 := Lib.hid (fun W hT => impl_sealer_no k2 W hT wk2 hv2)
      clear hv1 hv2 wk1 wk2
      go_enter Tryd.func6, Tryd.ntmps6
      go_wp2_with fail
      refine wp_region_held_drew (S := fun w' => DeedW w (fun v => #[.int .i64 x.f0, .int .i64 x.f1, .int .i64 x.f2, v, .int .i64 x.f4]) w') (by kernel_rfl) ?_ (fun hHeld => ?_)
      · exact (⟨⟨.int .i64 x.f3, KB.1.drw⟩, KB.2.1.drw, KB.2.2.drew⟩ : DeedW w (fun v => #[.int .i64 x.f0, .int .i64 x.f1, .int .i64 x.f2, v, .int .i64 x.f4]) _)
      generalize (World.drew _) = x0 at hHeld ⊢
      refine wpAnyH_take (i := 0) (oi := ⟨some 7, _, _, _, _, _⟩) (v := ?_) rfl (by kernel_rfl) (by kernel_rfl) (by kernel_rfl) (fun _ _ _ h => h) (Or.inl ⟨by kernel_rfl, ?_⟩) hHeld ?_
      rotate_left
      focus (intro W hS; obtain ⟨v, hbx⟩ := hS.bx; have c0 := hbx.at_ (j := 0) rfl; have c1 := hbx.at_ (j := 1) rfl; have c2 := hbx.at_ (j := 2) rfl; clear hbx; clear hS; first | (go_simp; done) | (go_simp; with_reducible rfl))
      try simp only [Act.put, List.setIfInBounds_toArray, List.set_cons_zero, List.set_cons_succ]
      refine wpAnyH_take (i := 2) (oi := ⟨some 9, _, _, _, _, _⟩) (v := ?_) rfl (by kernel_rfl) (by kernel_rfl) (by kernel_rfl) (fun _ _ _ h => h) (Or.inl ⟨by kernel_rfl, ?_⟩) hHeld ?_
      rotate_left
      focus (intro W hS; obtain ⟨v, hbx⟩ := hS.bx; have c0 := hbx.at_ (j := 0) rfl; have c1 := hbx.at_ (j := 1) rfl; have c2 := hbx.at_ (j := 2) rfl; clear hbx; clear hS; first | (go_simp; done) | (go_simp; with_reducible rfl))
      try simp only [Act.put, List.setIfInBounds_toArray, List.set_cons_zero, List.set_cons_succ]
      refine wpAnyH_take (i := 3) (oi := ⟨some 10, _, _, _, _, _⟩) (v := ?_) rfl (by kernel_rfl) (by kernel_rfl) (by kernel_rfl) (fun _ _ _ h => h) (Or.inl ⟨by kernel_rfl, ?_⟩) hHeld ?_
      rotate_left
      focus (intro W hS; obtain ⟨v, hbx⟩ := hS.bx; have c0 := hbx.at_ (j := 0) rfl; have c1 := hbx.at_ (j := 1) rfl; have c2 := hbx.at_ (j := 2) rfl; clear hbx; clear hS; first | (go_simp; done) | (go_simp; with_reducible rfl))
      try simp only [Act.put, List.setIfInBounds_toArray, List.set_cons_zero, List.set_cons_succ]
      refine wpAnyH_take (i := 4) (oi := ⟨some 11, _, _, _, _, _⟩) (v := ?_) rfl (by kernel_rfl) (by kernel_rfl) (by kernel_rfl) (fun _ _ _ h => h) (Or.inl ⟨by kernel_rfl, ?_⟩) hHeld ?_
      rotate_left
      focus (intro W hS; obtain ⟨v, hbx⟩ := hS.bx; have c0 := hbx.at_ (j := 0) rfl; have c1 := hbx.at_ (j := 1) rfl; have c2 := hbx.at_ (j := 2) rfl; clear hbx; clear hS; first | (go_simp; done) | (go_simp; with_reducible rfl))
      try simp only [Act.put, List.setIfInBounds_toArray, List.set_cons_zero, List.set_cons_succ]
      refine wpAnyH_take (i := 5) (oi := ⟨some 12, _, _, _, _, _⟩) (v := ?_) rfl (by kernel_rfl) (by kernel_rfl) (by kernel_rfl) (fun _ _ _ h => h) (Or.inl ⟨by kernel_rfl, ?_⟩) hHeld ?_
      rotate_left
      focus (intro W hS; obtain ⟨v, hbx⟩ := hS.bx; have c0 := hbx.at_ (j := 0) rfl; have c1 := hbx.at_ (j := 1) rfl; have c2 := hbx.at_ (j := 2) rfl; clear hbx; clear hS; first | (go_simp; done) | (go_simp; with_reducible rfl))
      try simp only [Act.put, List.setIfInBounds_toArray, List.set_cons_zero, List.set_cons_succ]
      refine wpAnyH_take (i := 6) (oi := ⟨some 13, _, _, _, _, _⟩) (v := ?_) rfl (by kernel_rfl) (by kernel_rfl) (by kernel_rfl) (fun _ _ _ h => h) (Or.inl ⟨by kernel_rfl, ?_⟩) hHeld ?_
      rotate_left
      focus (intro W hS; obtain ⟨v, hbx⟩ := hS.bx; have c0 := hbx.at_ (j := 0) rfl; have c1 := hbx.at_ (j := 1) rfl; have c2 := hbx.at_ (j := 2) rfl; clear hbx; clear hS; first | (go_simp; done) | (go_simp; with_reducible rfl))
      try simp only [Act.put, List.setIfInBounds_toArray, List.set_cons_zero, List.set_cons_succ]
      refine wpAnyH_take (i := 7) (oi := ⟨some 14, _, _, _, _, _⟩) (v := ?_) rfl (by kernel_rfl) (by kernel_rfl) (by kernel_rfl) (fun _ _ _ h => h) (Or.inl ⟨by kernel_rfl, ?_⟩) hHeld ?_
      rotate_left
      focus (intro W hS; obtain ⟨v, hbx⟩ := hS.bx; have c0 := hbx.at_ (j := 0) rfl; have c1 := hbx.at_ (j := 1) rfl; have c2 := hbx.at_ (j := 2) rfl; clear hbx; clear hS; first | (go_simp; done) | (go_simp; with_reducible rfl))
      try simp only [Act.put, List.setIfInBounds_toArray, List.set_cons_zero, List.set_cons_succ]
      refine wpAnyH_ready (rs := [1, 8]) (by kernel_rfl) (by simp) ?_
      refine AllReadyH.cons (o := ⟨some 8, _, _, _, _, _⟩) rfl (fun K hK => ?_) ?_
      · skip
        go_simp
        refine Calls.mono (C10.out _ (pow10_below hT hHeld.below)) ?_
        rintro e x1 ⟨gKa, rfl, GKa, hb1⟩
        refine hK.out _ _ (DeedW.new hHeld hb1) (fun hHeld' => ?_)
        clear hK K hHeld hb1
        have hHeld := hHeld'
        clear hHeld'
        try simp only [Act.put, List.setIfInBounds_toArray, List.set_cons_zero, List.set_cons_succ]
        refine wpAnyH_ready (rs := [8]) (by kernel_rfl) (by simp) ?_
        refine AllReadyH.cons (o := ⟨some 15, _, _, _, _, _⟩) rfl (fun K hK => ?_) AllReadyH.nil
        go_simp
        have GVa := box_new (x1) 3 #[.int .i64 1, .int .i64 x.f0, .int .i64 x.f1, .int .i64 x.f2]
        have hb1 := (Below.refl (x1).heap.size (x1)).alloc (Nat.le_refl _) (.cells #[.int .i64 1, .int .i64 x.f0, .int .i64 x.f1, .int .i64 x.f2] 3)
        have LVa : w.heap.size ≤ (x1).heap.size := by have := (hHeld).size; omega
        have NKaVa : gKa < (x1).heap.size := GKa.lt
        replace GKa := GKa.new hb1
        generalize (x1).alloc (.cells #[.int .i64 1, .int .i64 x.f0, .int .i64 x.f1, .int .i64 x.f2] 3) = x2 at hb1 GVa GKa ⊢
        generalize hg : (x1).heap.size = gVa at GVa LVa NKaVa ⊢
        clear hg
        refine hK.out _ _ (DeedW.new hHeld hb1) (fun hHeld' => ?_)
        clear hK K hHeld hb1
        have hHeld := hHeld'
        clear hHeld'
        try simp only [Act.put, List.setIfInBounds_toArray, List.set_cons_zero, List.set_cons_succ]
        refine wpAnyH_ready (rs := [9]) (by kernel_rfl) (by simp) ?_
        refine AllReadyH.cons (o := ⟨some 16, _, _, _, _, _⟩) rfl (fun K hK => ?_) AllReadyH.nil
        go_simp
        refine Calls.mono (C11.out _ _ GKa GVa) ?_
        rintro e x3 ⟨rfl, hb1⟩
        replace GKa := GKa.new hb1
        replace GVa := GVa.new hb1
        refine hK.out _ _ (DeedW.new hHeld hb1) (fun hHeld' => ?_)
        clear hK K hHeld hb1
        have hHeld := hHeld'
        clear hHeld'
        try simp only [Act.put, List.setIfInBounds_toArray, List.set_cons_zero, List.set_cons_succ]
        refine wpAnyH_take (i := 10) (oi := ⟨some 17, _, _, _, _, _⟩) (v := ?_) rfl (by kernel_rfl) (by kernel_rfl) (by kernel_rfl) (fun _ _ _ h => h) (Or.inl ⟨by kernel_rfl, ?_⟩) hHeld ?_
        rotate_left
        focus (intro W hS; obtain ⟨v, hbx⟩ := hS.bx; have c0 := hbx.at_ (j := 0) rfl; have c1 := hbx.at_ (j := 1) rfl; have c2 := hbx.at_ (j := 2) rfl; clear hbx; clear hS; first | (go_simp; done) | (go_simp; with_reducible rfl))
        try simp only [Act.put, List.setIfInBounds_toArray, List.set_cons_zero, List.set_cons_succ]
        refine wpAnyH_ready (rs := [11]) (by kernel_rfl) (by simp) ?_
        refine AllReadyH.cons (o := ⟨none, _, _, _, _, _⟩) rfl (fun K hK => ?_) AllReadyH.nil
        obtain ⟨v, hbx⟩ := hHeld.bx
        have c3 := hbx.at_ (j := 3) rfl
        have f3 := hbx.free 3
        have hlt := hbx.lt
        go_simp
        have GX := bx_cell (u := .int .i64 z) (j := 3) hbx
        have GR := bx_cell_far (g := w.heap.size) (j := 3) (u := .int .i64 z) hHeld.br (by omega)
        have GB := hHeld.below.setCell (p := ⟨w.heap.size, 3, none⟩) (Nat.le_refl _) (.int .i64 z)
        refine hK.out _ _ ⟨⟨_, GX⟩, GR, GB⟩ (fun hHeld' => ?_)
        clear hK K hHeld hbx c3 f3 hHeld'
        try simp only [Act.put, List.setIfInBounds_toArray, List.set_cons_zero, List.set_cons_succ]
        refine wpAnyH_done (by kernel_rfl) ?_ _
        have HXa := Lib.hid (show BoxAt _ w.heap.size 24 #[.int .i64 x.f0, .int .i64 x.f1, .int .i64 x.f2, .int .i64 z, .int .i64 x.f4] from GX)
        have HRa := Lib.hid GR
        have HBa := Lib.hid GB
        clear GX GR GB
        go_wp2_with fail
        refine wp_region_held_drew (S := fun w' => DeedW w (fun v => #[.int .i64 x.f0, .int .i64 x.f1, .int .i64 x.f2, .int .i64 z, v]) w') (by kernel_rfl) ?_ (fun hHeld => ?_)
        · exact (⟨⟨.int .i64 x.f4, HXa.out.drw⟩, HRa.out.drw, HBa.out.drew⟩ : DeedW w (fun v => #[.int .i64 x.f0, .int .i64 x.f1, .int .i64 x.f2, .int .i64 z, v]) _)
        generalize (World.drew _) = x0 at hHeld ⊢
        refine wpAnyH_take (i := 0) (oi := ⟨some 18, _, _, _, _, _⟩) (v := ?_) rfl (by kernel_rfl) (by kernel_rfl) (by kernel_rfl) (fun _ _ _ h => h) (Or.inl ⟨by kernel_rfl, ?_⟩) hHeld ?_
        rotate_left
        focus (intro W hS; obtain ⟨v, hbx⟩ := hS.bx; have c0 := hbx.at_ (j := 0) rfl; have c1 := hbx.at_ (j := 1) rfl; have c2 := hbx.at_ (j := 2) rfl; clear hbx; clear hS; first | (go_simp; done) | (go_simp; with_reducible rfl))
        try simp only [Act.put, List.setIfInBounds_toArray, List.set_cons_zero, List.set_cons_succ]
        refine wpAnyH_take (i := 2) (oi := ⟨some 20, _, _, _, _, _⟩) (v := ?_) rfl (by kernel_rfl) (by kernel_rfl) (by kernel_rfl) (fun _ _ _ h => h) (Or.inl ⟨by kernel_rfl, ?_⟩) hHeld ?_
        rotate_left
        focus (intro W hS; obtain ⟨v, hbx⟩ := hS.bx; have c0 := hbx.at_ (j := 0) rfl; have c1 := hbx.at_ (j := 1) rfl; have c2 := hbx.at_ (j := 2) rfl; clear hbx; clear hS; first | (go_simp; done) | (go_simp; with_reducible rfl))
        try simp only [Act.put, List.setIfInBounds_toArray, List.set_cons_zero, List.set_cons_succ]
        refine wpAnyH_take (i := 3) (oi := ⟨some 21, _, _, _, _, _⟩) (v := ?_) rfl (by kernel_rfl) (by kernel_rfl) (by kernel_rfl) (fun _ _ _ h => h) (Or.inl ⟨by kernel_rfl, ?_⟩) hHeld ?_
        rotate_left
        focus (intro W hS; obtain ⟨v, hbx⟩ := hS.bx; have c0 := hbx.at_ (j := 0) rfl; have c1 := hbx.at_ (j := 1) rfl; have c2 := hbx.at_ (j := 2) rfl; clear hbx; clear hS; first | (go_simp; done) | (go_simp; with_reducible rfl))
        try simp only [Act.put, List.setIfInBounds_toArray, List.set_cons_zero, List.set_cons_succ]
        refine wpAnyH_take (i := 4) (oi := ⟨some 22, _, _, _, _, _⟩) (v := ?_) rfl (by kernel_rfl) (by kernel_rfl) (by kernel_rfl) (fun _ _ _ h => h) (Or.inl ⟨by kernel_rfl, ?_⟩) hHeld ?_
        rotate_left
        focus (intro W hS; obtain ⟨v, hbx⟩ := hS.bx; have c0 := hbx.at_ (j := 0) rfl; have c1 := hbx.at_ (j := 1) rfl; have c2 := hbx.at_ (j := 2) rfl; clear hbx; clear hS; first | (go_simp; done) | (go_simp; with_reducible rfl))
        try simp only [Act.put, List.setIfInBounds_toArray, List.set_cons_zero, List.set_cons_succ]
        refine wpAnyH_take (i := 5) (oi := ⟨some 23, _, _, _, _, _⟩) (v := ?_) rfl (by kernel_rfl) (by kernel_rfl) (by kernel_rfl) (fun _ _ _ h => h) (Or.inl ⟨by kernel_rfl, ?_⟩) hHeld ?_
        rotate_left
        focus (intro W hS; obtain ⟨v, hbx⟩ := hS.bx; have c0 := hbx.at_ (j := 0) rfl; have c1 := hbx.at_ (j := 1) rfl; have c2 := hbx.at_ (j := 2) rfl; clear hbx; clear hS; first | (go_simp; done) | (go_simp; with_reducible rfl))
        try simp only [Act.put, List.setIfInBounds_toArray, List.set_cons_zero, List.set_cons_succ]
        refine wpAnyH_take (i := 6) (oi := ⟨some 24, _, _, _, _, _⟩) (v := ?_) rfl (by kernel_rfl) (by kernel_rfl) (by kernel_rfl) (fun _ _ _ h => h) (Or.inl ⟨by kernel_rfl, ?_⟩) hHeld ?_
        rotate_left
        focus (intro W hS; obtain ⟨v, hbx⟩ := hS.bx; have c0 := hbx.at_ (j := 0) rfl; have c1 := hbx.at_ (j := 1) rfl; have c2 := hbx.at_ (j := 2) rfl; clear hbx; clear hS; first | (go_simp; done) | (go_simp; with_reducible rfl))
        try simp only [Act.put, List.setIfInBounds_toArray, List.set_cons_zero, List.set_cons_succ]
        refine wpAnyH_take (i := 7) (oi := ⟨some 25, _, _, _, _, _⟩) (v := ?_) rfl (by kernel_rfl) (by kernel_rfl) (by kernel_rfl) (fun _ _ _ h => h) (Or.inl ⟨by kernel_rfl, ?_⟩) hHeld ?_
        rotate_left
        focus (intro W hS; obtain ⟨v, hbx⟩ := hS.bx; have c0 := hbx.at_ (j := 0) rfl; have c1 := hbx.at_ (j := 1) rfl; have c2 := hbx.at_ (j := 2) rfl; clear hbx; clear hS; first | (go_simp; done) | (go_simp; with_reducible rfl))
        try simp only [Act.put, List.setIfInBounds_toArray, List.set_cons_zero, List.set_cons_succ]
        refine wpAnyH_ready (rs := [1, 8]) (by kernel_rfl) (by simp) ?_
        refine AllReadyH.cons (o := ⟨some 19, _, _, _, _, _⟩) rfl (fun K hK => ?_) ?_
        · skip
          go_simp
          refine Calls.mono (C20.out _ (pow10_below hT hHeld.below)) ?_
          rintro e x1 ⟨rfl, hb1⟩
          refine hK.out _ _ (DeedW.new hHeld hb1) (fun hHeld' => ?_)
          clear hK K hHeld hb1
          have hHeld := hHeld'
          clear hHeld'
          try simp only [Act.put, List.setIfInBounds_toArray, List.set_cons_zero, List.set_cons_succ]
          refine wpAnyH_ready (rs := [8]) (by kernel_rfl) (by simp) ?_
          refine AllReadyH.cons (o := ⟨some 26, _, _, _, _, _⟩) rfl (fun K hK => ?_) AllReadyH.nil
          go_simp
          have GVb := box_new (x1) 3 #[.int .i64 2, .int .i64 x.f0, .int .i64 x.f1, .int .i64 x.f2]
          have hb1 := (Below.refl (x1).heap.size (x1)).alloc (Nat.le_refl _) (.cells #[.int .i64 2, .int .i64 x.f0, .int .i64 x.f1, .int .i64 x.f2] 3)
          have LVb : w.heap.size ≤ (x1).heap.size := by have := (hHeld).size; omega
          generalize (x1).alloc (.cells #[.int .i64 2, .int .i64 x.f0, .int .i64 x.f1, .int .i64 x.f2] 3) = x2 at hb1 GVb  ⊢
          generalize hg : (x1).heap.size = gVb at GVb LVb  ⊢
          clear hg
          refine hK.out _ _ (DeedW.new hHeld hb1) (fun hHeld' => ?_)
          clear hK K hHeld hb1
          have hHeld := hHeld'
          clear hHeld'
          try simp only [Act.put, List.setIfInBounds_toArray, List.set_cons_zero, List.set_cons_succ]
          refine wpAnyH_ready (rs := [9]) (by kernel_rfl) (by simp) ?_
          refine AllReadyH.cons (o := ⟨some 27, _, _, _, _, _⟩) rfl (fun K hK => ?_) AllReadyH.nil
          go_simp
          refine Calls.mono (impl_sealer1 _ _ _ _) ?_
          rintro e x3 ⟨rfl, hb1⟩
          replace GVb := GVb.new hb1
          refine hK.out _ _ (DeedW.new hHeld hb1) (fun hHeld' => ?_)
          clear hK K hHeld hb1
          have hHeld := hHeld'
          clear hHeld'
          try simp only [Act.put, List.setIfInBounds_toArray, List.set_cons_zero, List.set_cons_succ]
          refine wpAnyH_take (i := 10) (oi := ⟨some 28, _, _, _, _, _⟩) (v := ?_) rfl (by kernel_rfl) (by kernel_rfl) (by kernel_rfl) (fun _ _ _ h => h) (Or.inl ⟨by kernel_rfl, ?_⟩) hHeld ?_
          rotate_left
          focus (intro W hS; obtain ⟨v, hbx⟩ := hS.bx; have c0 := hbx.at_ (j := 0) rfl; have c1 := hbx.at_ (j := 1) rfl; have c2 := hbx.at_ (j := 2) rfl; clear hbx; clear hS; first | (go_simp; done) | (go_simp; with_reducible rfl))
          try simp only [Act.put, List.setIfInBounds_toArray, List.set_cons_zero, List.set_cons_succ]
          refine wpAnyH_ready (rs := [11]) (by kernel_rfl) (by simp) ?_
          refine AllReadyH.cons (o := ⟨none, _, _, _, _, _⟩) rfl (fun K hK => ?_) AllReadyH.nil
          obtain ⟨v, hbx⟩ := hHeld.bx
          have c3 := hbx.at_ (j := 4) rfl
          have f3 := hbx.free 4
          have hlt := hbx.lt
          go_simp
          have GX := bx_cell (u := .int .i64 0) (j := 4) hbx
          have GR := bx_cell_far (g := w.heap.size) (j := 4) (u := .int .i64 0) hHeld.br (by omega)
          have GB := hHeld.below.setCell (p := ⟨w.heap.size, 4, none⟩) (Nat.le_refl _) (.int .i64 0)
          refine hK.out _ _ ⟨⟨_, GX⟩, GR, GB⟩ (fun hHeld' => ?_)
          clear hK K hHeld hbx c3 f3 hHeld'
          try simp only [Act.put, List.setIfInBounds_toArray, List.set_cons_zero, List.set_cons_succ]
          refine wpAnyH_done (by kernel_rfl) ?_ _
          have HX := Lib.hid (show BoxAt _ w.heap.size 24 #[.int .i64 x.f0, .int .i64 x.f1, .int .i64 x.f2, .int .i64 z, .int .i64 0] from GX)
          have HR := Lib.hid GR
          have HB := Lib.hid GB
          clear GX GR GB
          have e0 := HX.out.at_ (j := 0) rfl
          have e1 := HX.out.at_ (j := 1) rfl
          have e2 := HX.out.at_ (j := 2) rfl
          have e3 := HX.out.at_ (j := 3) rfl
          have e4 := HX.out.at_ (j := 4) rfl
          go_wp2_with (refine wpList_store_row rfl 24 _ _ rfl (w.heap.size + 1) #[.int .i64 x.f0, .int .i64 x.f1, .int .i64 x.f2, .int .i64 z, .int .i64 0] rfl rfl 24 _ HR.out (by kernel_rfl) (by kernel_rfl) (by kernel_rfl) ?_)
          have k0 := (box_row (cs := #[.int .i64 x.f0, .int .i64 x.f1, .int .i64 x.f2, .int .i64 z, .int .i64 0]) HR.out).at_ (j := 0) rfl
          have k1 := (box_row (cs := #[.int .i64 x.f0, .int .i64 x.f1, .int .i64 x.f2, .int .i64 z, .int .i64 0]) HR.out).at_ (j := 1) rfl
          have k2 := (box_row (cs := #[.int .i64 x.f0, .int .i64 x.f1, .int .i64 x.f2, .int .i64 z, .int .i64 0]) HR.out).at_ (j := 2) rfl
          have k3 := (box_row (cs := #[.int .i64 x.f0, .int .i64 x.f1, .int .i64 x.f2, .int .i64 z, .int .i64 0]) HR.out).at_ (j := 3) rfl
          have k4 := (box_row (cs := #[.int .i64 x.f0, .int .i64 x.f1, .int .i64 x.f2, .int .i64 z, .int .i64 0]) HR.out).at_ (j := 4) rfl
          exact bodyPost_ret (v := vDeed ⟨x.f0, x.f1, x.f2, z, 0⟩) (by simp [results, Tryd.results6, go_sem, k0, k1, k2, k3, k4]) rfl ⟨rfl, below_setRow HB.out (by omega) _⟩
        refine AllReadyH.cons (o := ⟨some 26, _, _, _, _, _⟩) rfl (fun K hK => ?_) ?_
        · skip
          go_simp
          have GVb := box_new (x0) 3 #[.int .i64 2, .int .i64 x.f0, .int .i64 x.f1, .int .i64 x.f2]
          have hb1 := (Below.refl (x0).heap.size (x0)).alloc (Nat.le_refl _) (.cells #[.int .i64 2, .int .i64 x.f0, .int .i64 x.f1, .int .i64 x.f2] 3)
          have LVb : w.heap.size ≤ (x0).heap.size := by have := (hHeld).size; omega
          generalize (x0).alloc (.cells #[.int .i64 2, .int .i64 x.f0, .int .i64 x.f1, .int .i64 x.f2] 3) = x1 at hb1 GVb  ⊢
          generalize hg : (x0).heap.size = gVb at GVb LVb  ⊢
          clear hg
          refine hK.out _ _ (DeedW.new hHeld hb1) (fun hHeld' => ?_)
          clear hK K hHeld hb1
          have hHeld := hHeld'
          clear hHeld'
          try simp only [Act.put, List.setIfInBounds_toArray, List.set_cons_zero, List.set_cons_succ]
          refine wpAnyH_ready (rs := [1]) (by kernel_rfl) (by simp) ?_
          refine AllReadyH.cons (o := ⟨some 19, _, _, _, _, _⟩) rfl (fun K hK => ?_) AllReadyH.nil
          go_simp
          refine Calls.mono (C20.out _ (pow10_below hT hHeld.below)) ?_
          rintro e x2 ⟨rfl, hb1⟩
          replace GVb := GVb.new hb1
          refine hK.out _ _ (DeedW.new hHeld hb1) (fun hHeld' => ?_)
          clear hK K hHeld hb1
          have hHeld := hHeld'
          clear hHeld'
          try simp only [Act.put, List.setIfInBounds_toArray, List.set_cons_zero, List.set_cons_succ]
          refine wpAnyH_ready (rs := [9]) (by kernel_rfl) (by simp) ?_
          refine AllReadyH.cons (o := ⟨some 27, _, _, _, _, _⟩) rfl (fun K hK => ?_) AllReadyH.nil
          go_simp
          refine Calls.mono (impl_sealer1 _ _ _ _) ?_
          rintro e x3 ⟨rfl, hb1⟩
          replace GVb := GVb.new hb1
          refine hK.out _ _ (DeedW.new hHeld hb1) (fun hHeld' => ?_)
          clear hK K hHeld hb1
          have hHeld := hHeld'
          clear hHeld'
          try simp only [Act.put, List.setIfInBounds_toArray, List.set_cons_zero, List.set_cons_succ]
          refine wpAnyH_take (i := 10) (oi := ⟨some 28, _, _, _, _, _⟩) (v := ?_) rfl (by kernel_rfl) (by kernel_rfl) (by kernel_rfl) (fun _ _ _ h => h) (Or.inl ⟨by kernel_rfl, ?_⟩) hHeld ?_
          rotate_left
          focus (intro W hS; obtain ⟨v, hbx⟩ := hS.bx; have c0 := hbx.at_ (j := 0) rfl; have c1 := hbx.at_ (j := 1) rfl; have c2 := hbx.at_ (j := 2) rfl; clear hbx; clear hS; first | (go_simp; done) | (go_simp; with_reducible rfl))
          try simp only [Act.put, List.setIfInBounds_toArray, List.set_cons_zero, List.set_cons_succ]
          refine wpAnyH_ready (rs := [11]) (by kernel_rfl) (by simp) ?_
          refine AllReadyH.cons (o := ⟨none, _, _, _, _, _⟩) rfl (fun K hK => ?_) AllReadyH.nil
          obtain ⟨v, hbx⟩ := hHeld.bx
          have c3 := hbx.at_ (j := 4) rfl
          have f3 := hbx.free 4
          have hlt := hbx.lt
          go_simp
          have GX := bx_cell (u := .int .i64 0) (j := 4) hbx
          have GR := bx_cell_far (g := w.heap.size) (j := 4) (u := .int .i64 0) hHeld.br (by omega)
          have GB := hHeld.below.setCell (p := ⟨w.heap.size, 4, none⟩) (Nat.le_refl _) (.int .i64 0)
          refine hK.out _ _ ⟨⟨_, GX⟩, GR, GB⟩ (fun hHeld' => ?_)
          clear hK K hHeld hbx c3 f3 hHeld'
          try simp only [Act.put, List.setIfInBounds_toArray, List.set_cons_zero, List.set_cons_succ]
          refine wpAnyH_done (by kernel_rfl) ?_ _
          have HX := Lib.hid (show BoxAt _ w.heap.size 24 #[.int .i64 x.f0, .int .i64 x.f1, .int .i64 x.f2, .int .i64 z, .int .i64 0] from GX)
          have HR := Lib.hid GR
          have HB := Lib.hid GB
          clear GX GR GB
          have e0 := HX.out.at_ (j := 0) rfl
          have e1 := HX.out.at_ (j := 1) rfl
          have e2 := HX.out.at_ (j := 2) rfl
          have e3 := HX.out.at_ (j := 3) rfl
          have e4 := HX.out.at_ (j := 4) rfl
          go_wp2_with (refine wpList_store_row rfl 24 _ _ rfl (w.heap.size + 1) #[.int .i64 x.f0, .int .i64 x.f1, .int .i64 x.f2, .int .i64 z, .int .i64 0] rfl rfl 24 _ HR.out (by kernel_rfl) (by kernel_rfl) (by kernel_rfl) ?_)
          have k0 := (box_row (cs := #[.int .i64 x.f0, .int .i64 x.f1, .int .i64 x.f2, .int .i64 z, .int .i64 0]) HR.out).at_ (j := 0) rfl
          have k1 := (box_row (cs := #[.int .i64 x.f0, .int .i64 x.f1, .int .i64 x.f2, .int .i64 z, .int .i64 0]) HR.out).at_ (j := 1) rfl
          have k2 := (box_row (cs := #[.int .i64 x.f0, .int .i64 x.f1, .int .i64 x.f2, .int .i64 z, .int .i64 0]) HR.out).at_ (j := 2) rfl
          have k3 := (box_row (cs := #[.int .i64 x.f0, .int .i64 x.f1, .int .i64 x.f2, .int .i64 z, .int .i64 0]) HR.out).at_ (j := 3) rfl
          have k4 := (box_row (cs := #[.int .i64 x.f0, .int .i64 x.f1, .int .i64 x.f2, .int .i64 z, .int .i64 0]) HR.out).at_ (j := 4) rfl
          exact bodyPost_ret (v := vDeed ⟨x.f0, x.f1, x.f2, z, 0⟩) (by simp [results, Tryd.results6, go_sem, k0, k1, k2, k3, k4]) rfl ⟨rfl, below_setRow HB.out (by omega) _⟩
        exact AllReadyH.nil
      refine AllReadyH.cons (o := ⟨some 15, _, _, _, _, _⟩) rfl (fun K hK => ?_) ?_
      · skip
        go_simp
        have GVa := box_new (x0) 3 #[.int .i64 1, .int .i64 x.f0, .int .i64 x.f1, .int .i64 x.f2]
        have hb1 := (Below.refl (x0).heap.size (x0)).alloc (Nat.le_refl _) (.cells #[.int .i64 1, .int .i64 x.f0, .int .i64 x.f1, .int .i64 x.f2] 3)
        have LVa : w.heap.size ≤ (x0).heap.size := by have := (hHeld).size; omega
        generalize (x0).alloc (.cells #[.int .i64 1, .int .i64 x.f0, .int .i64 x.f1, .int .i64 x.f2] 3) = x1 at hb1 GVa  ⊢
        generalize hg : (x0).heap.size = gVa at GVa LVa  ⊢
        clear hg
        refine hK.out _ _ (DeedW.new hHeld hb1) (fun hHeld' => ?_)
        clear hK K hHeld hb1
        have hHeld := hHeld'
        clear hHeld'
        try simp only [Act.put, List.setIfInBounds_toArray, List.set_cons_zero, List.set_cons_succ]
        refine wpAnyH_ready (rs := [1]) (by kernel_rfl) (by simp) ?_
        refine AllReadyH.cons (o := ⟨some 8, _, _, _, _, _⟩) rfl (fun K hK => ?_) AllReadyH.nil
        go_simp
        refine Calls.mono (C10.out _ (pow10_below hT hHeld.below)) ?_
        rintro e x2 ⟨gKa, rfl, GKa, hb1⟩
        replace GVa := GVa.new hb1
        refine hK.out _ _ (DeedW.new hHeld hb1) (fun hHeld' => ?_)
        clear hK K hHeld hb1
        have hHeld := hHeld'
        clear hHeld'
        try simp only [Act.put, List.setIfInBounds_toArray, List.set_cons_zero, List.set_cons_succ]
        refine wpAnyH_ready (rs := [9]) (by kernel_rfl) (by simp) ?_
        refine AllReadyH.cons (o := ⟨some 16, _, _, _, _, _⟩) rfl (fun K hK => ?_) AllReadyH.nil
        go_simp
        refine Calls.mono (C11.out _ _ GKa GVa) ?_
        rintro e x3 ⟨rfl, hb1⟩
        replace GVa := GVa.new hb1
        replace GKa := GKa.new hb1
        refine hK.out _ _ (DeedW.new hHeld hb1) (fun hHeld' => ?_)
        clear hK K hHeld hb1
        have hHeld := hHeld'
        clear hHeld'
        try simp only [Act.put, List.setIfInBounds_toArray, List.set_cons_zero, List.set_cons_succ]
        refine wpAnyH_take (i := 10) (oi := ⟨some 17, _, _, _, _, _⟩) (v := ?_) rfl (by kernel_rfl) (by kernel_rfl) (by kernel_rfl) (fun _ _ _ h => h) (Or.inl ⟨by kernel_rfl, ?_⟩) hHeld ?_
        rotate_left
        focus (intro W hS; obtain ⟨v, hbx⟩ := hS.bx; have c0 := hbx.at_ (j := 0) rfl; have c1 := hbx.at_ (j := 1) rfl; have c2 := hbx.at_ (j := 2) rfl; clear hbx; clear hS; first | (go_simp; done) | (go_simp; with_reducible rfl))
        try simp only [Act.put, List.setIfInBounds_toArray, List.set_cons_zero, List.set_cons_succ]
        refine wpAnyH_ready (rs := [11]) (by kernel_rfl) (by simp) ?_
        refine AllReadyH.cons (o := ⟨none, _, _, _, _, _⟩) rfl (fun K hK => ?_) AllReadyH.nil
        obtain ⟨v, hbx⟩ := hHeld.bx
        have c3 := hbx.at_ (j := 3) rfl
        have f3 := hbx.free 3
        have hlt := hbx.lt
        go_simp
        have GX := bx_cell (u := .int .i64 z) (j := 3) hbx
        have GR := bx_cell_far (g := w.heap.size) (j := 3) (u := .int .i64 z) hHeld.br (by omega)
        have GB := hHeld.below.setCell (p := ⟨w.heap.size, 3, none⟩) (Nat.le_refl _) (.int .i64 z)
        refine hK.out _ _ ⟨⟨_, GX⟩, GR, GB⟩ (fun hHeld' => ?_)
        clear hK K hHeld hbx c3 f3 hHeld'
        try simp only [Act.put, List.setIfInBounds_toArray, List.set_cons_zero, List.set_cons_succ]
        refine wpAnyH_done (by kernel_rfl) ?_ _
        have HXa := Lib.hid (show BoxAt _ w.heap.size 24 #[.int .i64 x.f0, .int .i64 x.f1, .int .i64 x.f2, .int .i64 z, .int .i64 x.f4] from GX)
        have HRa := Lib.hid GR
        have HBa := Lib.hid GB
        clear GX GR GB
        go_wp2_with fail
        refine wp_region_held_drew (S := fun w' => DeedW w (fun v => #[.int .i64 x.f0, .int .i64 x.f1, .int .i64 x.f2, .int .i64 z, v]) w') (by kernel_rfl) ?_ (fun hHeld => ?_)
        · exact (⟨⟨.int .i64 x.f4, HXa.out.drw⟩, HRa.out.drw, HBa.out.drew⟩ : DeedW w (fun v => #[.int .i64 x.f0, .int .i64 x.f1, .int .i64 x.f2, .int .i64 z, v]) _)
        generalize (World.drew _) = x0 at hHeld ⊢
        refine wpAnyH_take (i := 0) (oi := ⟨some 18, _, _, _, _, _⟩) (v := ?_) rfl (by kernel_rfl) (by kernel_rfl) (by kernel_rfl) (fun _ _ _ h => h) (Or.inl ⟨by kernel_rfl, ?_⟩) hHeld ?_
        rotate_left
        focus (intro W hS; obtain ⟨v, hbx⟩ := hS.bx; have c0 := hbx.at_ (j := 0) rfl; have c1 := hbx.at_ (j := 1) rfl; have c2 := hbx.at_ (j := 2) rfl; clear hbx; clear hS; first | (go_simp; done) | (go_simp; with_reducible rfl))
        try simp only [Act.put, List.setIfInBounds_toArray, List.set_cons_zero, List.set_cons_succ]
        refine wpAnyH_take (i := 2) (oi := ⟨some 20, _, _, _, _, _⟩) (v := ?_) rfl (by kernel_rfl) (by kernel_rfl) (by kernel_rfl) (fun _ _ _ h => h) (Or.inl ⟨by kernel_rfl, ?_⟩) hHeld ?_
        rotate_left
        focus (intro W hS; obtain ⟨v, hbx⟩ := hS.bx; have c0 := hbx.at_ (j := 0) rfl; have c1 := hbx.at_ (j := 1) rfl; have c2 := hbx.at_ (j := 2) rfl; clear hbx; clear hS; first | (go_simp; done) | (go_simp; with_reducible rfl))
        try simp only [Act.put, List.setIfInBounds_toArray, List.set_cons_zero, List.set_cons_succ]
        refine wpAnyH_take (i := 3) (oi := ⟨some 21, _, _, _, _, _⟩) (v := ?_) rfl (by kernel_rfl) (by kernel_rfl) (by kernel_rfl) (fun _ _ _ h => h) (Or.inl ⟨by kernel_rfl, ?_⟩) hHeld ?_
        rotate_left
        focus (intro W hS; obtain ⟨v, hbx⟩ := hS.bx; have c0 := hbx.at_ (j := 0) rfl; have c1 := hbx.at_ (j := 1) rfl; have c2 := hbx.at_ (j := 2) rfl; clear hbx; clear hS; first | (go_simp; done) | (go_simp; with_reducible rfl))
        try simp only [Act.put, List.setIfInBounds_toArray, List.set_cons_zero, List.set_cons_succ]
        refine wpAnyH_take (i := 4) (oi := ⟨some 22, _, _, _, _, _⟩) (v := ?_) rfl (by kernel_rfl) (by kernel_rfl) (by kernel_rfl) (fun _ _ _ h => h) (Or.inl ⟨by kernel_rfl, ?_⟩) hHeld ?_
        rotate_left
        focus (intro W hS; obtain ⟨v, hbx⟩ := hS.bx; have c0 := hbx.at_ (j := 0) rfl; have c1 := hbx.at_ (j := 1) rfl; have c2 := hbx.at_ (j := 2) rfl; clear hbx; clear hS; first | (go_simp; done) | (go_simp; with_reducible rfl))
        try simp only [Act.put, List.setIfInBounds_toArray, List.set_cons_zero, List.set_cons_succ]
        refine wpAnyH_take (i := 5) (oi := ⟨some 23, _, _, _, _, _⟩) (v := ?_) rfl (by kernel_rfl) (by kernel_rfl) (by kernel_rfl) (fun _ _ _ h => h) (Or.inl ⟨by kernel_rfl, ?_⟩) hHeld ?_
        rotate_left
        focus (intro W hS; obtain ⟨v, hbx⟩ := hS.bx; have c0 := hbx.at_ (j := 0) rfl; have c1 := hbx.at_ (j := 1) rfl; have c2 := hbx.at_ (j := 2) rfl; clear hbx; clear hS; first | (go_simp; done) | (go_simp; with_reducible rfl))
        try simp only [Act.put, List.setIfInBounds_toArray, List.set_cons_zero, List.set_cons_succ]
        refine wpAnyH_take (i := 6) (oi := ⟨some 24, _, _, _, _, _⟩) (v := ?_) rfl (by kernel_rfl) (by kernel_rfl) (by kernel_rfl) (fun _ _ _ h => h) (Or.inl ⟨by kernel_rfl, ?_⟩) hHeld ?_
        rotate_left
        focus (intro W hS; obtain ⟨v, hbx⟩ := hS.bx; have c0 := hbx.at_ (j := 0) rfl; have c1 := hbx.at_ (j := 1) rfl; have c2 := hbx.at_ (j := 2) rfl; clear hbx; clear hS; first | (go_simp; done) | (go_simp; with_reducible rfl))
        try simp only [Act.put, List.setIfInBounds_toArray, List.set_cons_zero, List.set_cons_succ]
        refine wpAnyH_take (i := 7) (oi := ⟨some 25, _, _, _, _, _⟩) (v := ?_) rfl (by kernel_rfl) (by kernel_rfl) (by kernel_rfl) (fun _ _ _ h => h) (Or.inl ⟨by kernel_rfl, ?_⟩) hHeld ?_
        rotate_left
        focus (intro W hS; obtain ⟨v, hbx⟩ := hS.bx; have c0 := hbx.at_ (j := 0) rfl; have c1 := hbx.at_ (j := 1) rfl; have c2 := hbx.at_ (j := 2) rfl; clear hbx; clear hS; first | (go_simp; done) | (go_simp; with_reducible rfl))
        try simp only [Act.put, List.setIfInBounds_toArray, List.set_cons_zero, List.set_cons_succ]
        refine wpAnyH_ready (rs := [1, 8]) (by kernel_rfl) (by simp) ?_
        refine AllReadyH.cons (o := ⟨some 19, _, _, _, _, _⟩) rfl (fun K hK => ?_) ?_
        · skip
          go_simp
          refine Calls.mono (C20.out _ (pow10_below hT hHeld.below)) ?_
          rintro e x1 ⟨rfl, hb1⟩
          refine hK.out _ _ (DeedW.new hHeld hb1) (fun hHeld' => ?_)
          clear hK K hHeld hb1
          have hHeld := hHeld'
          clear hHeld'
          try simp only [Act.put, List.setIfInBounds_toArray, List.set_cons_zero, List.set_cons_succ]
          refine wpAnyH_ready (rs := [8]) (by kernel_rfl) (by simp) ?_
          refine AllReadyH.cons (o := ⟨some 26, _, _, _, _, _⟩) rfl (fun K hK => ?_) AllReadyH.nil
          go_simp
          have GVb := box_new (x1) 3 #[.int .i64 2, .int .i64 x.f0, .int .i64 x.f1, .int .i64 x.f2]
          have hb1 := (Below.refl (x1).heap.size (x1)).alloc (Nat.le_refl _) (.cells #[.int .i64 2, .int .i64 x.f0, .int .i64 x.f1, .int .i64 x.f2] 3)
          have LVb : w.heap.size ≤ (x1).heap.size := by have := (hHeld).size; omega
          generalize (x1).alloc (.cells #[.int .i64 2, .int .i64 x.f0, .int .i64 x.f1, .int .i64 x.f2] 3) = x2 at hb1 GVb  ⊢
          generalize hg : (x1).heap.size = gVb at GVb LVb  ⊢
          clear hg
          refine hK.out _ _ (DeedW.new hHeld hb1) (fun hHeld' => ?_)
          clear hK K hHeld hb1
          have hHeld := hHeld'
          clear hHeld'
          try simp only [Act.put, List.setIfInBounds_toArray, List.set_cons_zero, List.set_cons_succ]
          refine wpAnyH_ready (rs := [9]) (by kernel_rfl) (by simp) ?_
          refine AllReadyH.cons (o := ⟨some 27, _, _, _, _, _⟩) rfl (fun K hK => ?_) AllReadyH.nil
          go_simp
          refine Calls.mono (impl_sealer1 _ _ _ _) ?_
          rintro e x3 ⟨rfl, hb1⟩
          replace GVb := GVb.new hb1
          refine hK.out _ _ (DeedW.new hHeld hb1) (fun hHeld' => ?_)
          clear hK K hHeld hb1
          have hHeld := hHeld'
          clear hHeld'
          try simp only [Act.put, List.setIfInBounds_toArray, List.set_cons_zero, List.set_cons_succ]
          refine wpAnyH_take (i := 10) (oi := ⟨some 28, _, _, _, _, _⟩) (v := ?_) rfl (by kernel_rfl) (by kernel_rfl) (by kernel_rfl) (fun _ _ _ h => h) (Or.inl ⟨by kernel_rfl, ?_⟩) hHeld ?_
          rotate_left
          focus (intro W hS; obtain ⟨v, hbx⟩ := hS.bx; have c0 := hbx.at_ (j := 0) rfl; have c1 := hbx.at_ (j := 1) rfl; have c2 := hbx.at_ (j := 2) rfl; clear hbx; clear hS; first | (go_simp; done) | (go_simp; with_reducible rfl))
          try simp only [Act.put, List.setIfInBounds_toArray, List.set_cons_zero, List.set_cons_succ]
          refine wpAnyH_ready (rs := [11]) (by kernel_rfl) (by simp) ?_
          refine AllReadyH.cons (o := ⟨none, _, _, _, _, _⟩) rfl (fun K hK => ?_) AllReadyH.nil
          obtain ⟨v, hbx⟩ := hHeld.bx
          have c3 := hbx.at_ (j := 4) rfl
          have f3 := hbx.free 4
          have hlt := hbx.lt
          go_simp
          have GX := bx_cell (u := .int .i64 0) (j := 4) hbx
          have GR := bx_cell_far (g := w.heap.size) (j := 4) (u := .int .i64 0) hHeld.br (by omega)
          have GB := hHeld.below.setCell (p := ⟨w.heap.size, 4, none⟩) (Nat.le_refl _) (.int .i64 0)
          refine hK.out _ _ ⟨⟨_, GX⟩, GR, GB⟩ (fun hHeld' => ?_)
          clear hK K hHeld hbx c3 f3 hHeld'
          try simp only [Act.put, List.setIfInBounds_toArray, List.set_cons_zero, List.set_cons_succ]
          refine wpAnyH_done (by kernel_rfl) ?_ _
          have HX := Lib.hid (show BoxAt _ w.heap.size 24 #[.int .i64 x.f0, .int .i64 x.f1, .int .i64 x.f2, .int .i64 z, .int .i64 0] from GX)
          have HR := Lib.hid GR
          have HB := Lib.hid GB
          clear GX GR GB
          have e0 := HX.out.at_ (j := 0) rfl
          have e1 := HX.out.at_ (j := 1) rfl
          have e2 := HX.out.at_ (j := 2) rfl
          have e3 := HX.out.at_ (j := 3) rfl
          have e4 := HX.out.at_ (j := 4) rfl
          go_wp2_with (refine wpList_store_row rfl 24 _ _ rfl (w.heap.size + 1) #[.int .i64 x.f0, .int .i64 x.f1, .int .i64 x.f2, .int .i64 z, .int .i64 0] rfl rfl 24 _ HR.out (by kernel_rfl) (by kernel_rfl) (by kernel_rfl) ?_)
          have k0 := (box_row (cs := #[.int .i64 x.f0, .int .i64 x.f1, .int .i64 x.f2, .int .i64 z, .int .i64 0]) HR.out).at_ (j := 0) rfl
          have k1 := (box_row (cs := #[.int .i64 x.f0, .int .i64 x.f1, .int .i64 x.f2, .int .i64 z, .int .i64 0]) HR.out).at_ (j := 1) rfl
          have k2 := (box_row (cs := #[.int .i64 x.f0, .int .i64 x.f1, .int .i64 x.f2, .int .i64 z, .int .i64 0]) HR.out).at_ (j := 2) rfl
          have k3 := (box_row (cs := #[.int .i64 x.f0, .int .i64 x.f1, .int .i64 x.f2, .int .i64 z, .int .i64 0]) HR.out).at_ (j := 3) rfl
          have k4 := (box_row (cs := #[.int .i64 x.f0, .int .i64 x.f1, .int .i64 x.f2, .int .i64 z, .int .i64 0]) HR.out).at_ (j := 4) rfl
          exact bodyPost_ret (v := vDeed ⟨x.f0, x.f1, x.f2, z, 0⟩) (by simp [results, Tryd.results6, go_sem, k0, k1, k2, k3, k4]) rfl ⟨rfl, below_setRow HB.out (by omega) _⟩
        refine AllReadyH.cons (o := ⟨some 26, _, _, _, _, _⟩) rfl (fun K hK => ?_) ?_
        · skip
          go_simp
          have GVb := box_new (x0) 3 #[.int .i64 2, .int .i64 x.f0, .int .i64 x.f1, .int .i64 x.f2]
          have hb1 := (Below.refl (x0).heap.size (x0)).alloc (Nat.le_refl _) (.cells #[.int .i64 2, .int .i64 x.f0, .int .i64 x.f1, .int .i64 x.f2] 3)
          have LVb : w.heap.size ≤ (x0).heap.size := by have := (hHeld).size; omega
          generalize (x0).alloc (.cells #[.int .i64 2, .int .i64 x.f0, .int .i64 x.f1, .int .i64 x.f2] 3) = x1 at hb1 GVb  ⊢
          generalize hg : (x0).heap.size = gVb at GVb LVb  ⊢
          clear hg
          refine hK.out _ _ (DeedW.new hHeld hb1) (fun hHeld' => ?_)
          clear hK K hHeld hb1
          have hHeld := hHeld'
          clear hHeld'
          try simp only [Act.put, List.setIfInBounds_toArray, List.set_cons_zero, List.set_cons_succ]
          refine wpAnyH_ready (rs := [1]) (by kernel_rfl) (by simp) ?_
          refine AllReadyH.cons (o := ⟨some 19, _, _, _, _, _⟩) rfl (fun K hK => ?_) AllReadyH.nil
          go_simp
          refine Calls.mono (C20.out _ (pow10_below hT hHeld.below)) ?_
          rintro e x2 ⟨rfl, hb1⟩
          replace GVb := GVb.new hb1
          refine hK.out _ _ (DeedW.new hHeld hb1) (fun hHeld' => ?_)
          clear hK K hHeld hb1
          have hHeld := hHeld'
          clear hHeld'
          try simp only [Act.put, List.setIfInBounds_toArray, List.set_cons_zero, List.set_cons_succ]
          refine wpAnyH_ready (rs := [9]) (by kernel_rfl) (by simp) ?_
          refine AllReadyH.cons (o := ⟨some 27, _, _, _, _, _⟩) rfl (fun K hK => ?_) AllReadyH.nil
          go_simp
          refine Calls.mono (impl_sealer1 _ _ _ _) ?_
          rintro e x3 ⟨rfl, hb1⟩
          replace GVb := GVb.new hb1
          refine hK.out _ _ (DeedW.new hHeld hb1) (fun hHeld' => ?_)
          clear hK K hHeld hb1
          have hHeld := hHeld'
          clear hHeld'
          try simp only [Act.put, List.setIfInBounds_toArray, List.set_cons_zero, List.set_cons_succ]
          refine wpAnyH_take (i := 10) (oi := ⟨some 28, _, _, _, _, _⟩) (v := ?_) rfl (by kernel_rfl) (by kernel_rfl) (by kernel_rfl) (fun _ _ _ h => h) (Or.inl ⟨by kernel_rfl, ?_⟩) hHeld ?_
          rotate_left
          focus (intro W hS; obtain ⟨v, hbx⟩ := hS.bx; have c0 := hbx.at_ (j := 0) rfl; have c1 := hbx.at_ (j := 1) rfl; have c2 := hbx.at_ (j := 2) rfl; clear hbx; clear hS; first | (go_simp; done) | (go_simp; with_reducible rfl))
          try simp only [Act.put, List.setIfInBounds_toArray, List.set_cons_zero, List.set_cons_succ]
          refine wpAnyH_ready (rs := [11]) (by kernel_rfl) (by simp) ?_
          refine AllReadyH.cons (o := ⟨none, _, _, _, _, _⟩) rfl (fun K hK => ?_) AllReadyH.nil
          obtain ⟨v, hbx⟩ := hHeld.bx
          have c3 := hbx.at_ (j := 4) rfl
          have f3 := hbx.free 4
          have hlt := hbx.lt
          go_simp
          have GX := bx_cell (u := .int .i64 0) (j := 4) hbx
          have GR := bx_cell_far (g := w.heap.size) (j := 4) (u := .int .i64 0) hHeld.br (by omega)
          have GB := hHeld.below.setCell (p := ⟨w.heap.size, 4, none⟩) (Nat.le_refl _) (.int .i64 0)
          refine hK.out _ _ ⟨⟨_, GX⟩, GR, GB⟩ (fun hHeld' => ?_)
          clear hK K hHeld hbx c3 f3 hHeld'
          try simp only [Act.put, List.setIfInBounds_toArray, List.set_cons_zero, List.set_cons_succ]
          refine wpAnyH_done (by kernel_rfl) ?_ _
          have HX := Lib.hid (show BoxAt _ w.heap.size 24 #[.int .i64 x.f0, .int .i64 x.f1, .int .i64 x.f2, .int .i64 z, .int .i64 0] from GX)
          have HR := Lib.hid GR
          have HB := Lib.hid GB
          clear GX GR GB
          have e0 := HX.out.at_ (j := 0) rfl
          have e1 := HX.out.at_ (j := 1) rfl
          have e2 := HX.out.at_ (j := 2) rfl
          have e3 := HX.out.at_ (j := 3) rfl
          have e4 := HX.out.at_ (j := 4) rfl
          go_wp2_with (refine wpList_store_row rfl 24 _ _ rfl (w.heap.size + 1) #[.int .i64 x.f0, .int .i64 x.f1, .int .i64 x.f2, .int .i64 z, .int .i64 0] rfl rfl 24 _ HR.out (by kernel_rfl) (by kernel_rfl) (by kernel_rfl) ?_)
          have k0 := (box_row (cs := #[.int .i64 x.f0, .int .i64 x.f1, .int .i64 x.f2, .int .i64 z, .int .i64 0]) HR.out).at_ (j := 0) rfl
          have k1 := (box_row (cs := #[.int .i64 x.f0, .int .i64 x.f1, .int .i64 x.f2, .int .i64 z, .int .i64 0]) HR.out).at_ (j := 1) rfl
          have k2 := (box_row (cs := #[.int .i64 x.f0, .int .i64 x.f1, .int .i64 x.f2, .int .i64 z, .int .i64 0]) HR.out).at_ (j := 2) rfl
          have k3 := (box_row (cs := #[.int .i64 x.f0, .int .i64 x.f1, .int .i64 x.f2, .int .i64 z, .int .i64 0]) HR.out).at_ (j := 3) rfl
          have k4 := (box_row (cs := #[.int .i64 x.f0, .int .i64 x.f1, .int .i64 x.f2, .int .i64 z, .int .i64 0]) HR.out).at_ (j := 4) rfl
          exact bodyPost_ret (v := vDeed ⟨x.f0, x.f1, x.f2, z, 0⟩) (by simp [results, Tryd.results6, go_sem, k0, k1, k2, k3, k4]) rfl ⟨rfl, below_setRow HB.out (by omega) _⟩
        exact AllReadyH.nil
      exact AllReadyH.nil
    · skip
      have HV := Lib.hid (show mDeed x k1 k2 = ⟨x.f0, x.f1, x.f2, mKHash k1 [1, x.f0, x.f1, x.f2], mKHash k2 [2, x.f0, x.f1, x.f2]⟩ by unfold mDeed mSealD; rw [hv1, hv2]; rfl)
      rw [HV.out]
      have C10 := Lib.hid (fun W hT => impl_sealer_yes k1 W hT wk1 hv1)
      have C11 := fun (W : World) (g : Nat) {B : Nat} (hK : BoxAt W B 3 #[.int .i64 k1]) (hV : BoxAt W g 3 #[.int .i64 1, .int .i64 x.f0, .int .i64 x.f1, .int .i64 x.f2]) => impl_sealer2 k1 [1, x.f0, x.f1, x.f2] (some ⟨g, 0, none⟩) 4 4 g (g + 1) B W hK wk1 (by decide) (rd_boxi hV) (deed_i64 Hx.out (by decide))
      generalize mKHash k1 [1, x.f0, x.f1, x.f2] = z at C11 ⊢
      replace C11 := Lib.hid C11
      have C20 := Lib.hid (fun W hT => impl_sealer_yes k2 W hT wk2 hv2)
      have C21 := fun (W : World) (g : Nat) {B : Nat} (hK : BoxAt W B 3 #[.int .i64 k2]) (hV : BoxAt W g 3 #[.int .i64 2, .int .i64 x.f0, .int .i64 x.f1, .int .i64 x.f2]) => impl_sealer2 k2 [2, x.f0, x.f1, x.f2] (some ⟨g, 0, none⟩) 4 4 g (g + 1) B W hK wk2 (by decide) (rd_boxi hV) (deed_i64 Hx.out (by decide))
      generalize mKHash k2 [2, x.f0, x.f1, x.f2] = y at C21 ⊢
      replace C21 := Lib.hid C21
      clear hv1 hv2 wk1 wk2
      go_enter Tryd.func6, Tryd.ntmps6
      go_wp2_with fail
      refine wp_region_held_drew (S := fun w' => DeedW w (fun v => #[.int .i64 x.f0, .int .i64 x.f1, .int .i64 x.f2, v, .int .i64 x.f4]) w') (by kernel_rfl) ?_ (fun hHeld => ?_)
      · exact (⟨⟨.int .i64 x.f3, KB.1.drw⟩, KB.2.1.drw, KB.2.2.drew⟩ : DeedW w (fun v => #[.int .i64 x.f0, .int .i64 x.f1, .int .i64 x.f2, v, .int .i64 x.f4]) _)
      generalize (World.drew _) = x0 at hHeld ⊢
      refine wpAnyH_take (i := 0) (oi := ⟨some 7, _, _, _, _, _⟩) (v := ?_) rfl (by kernel_rfl) (by kernel_rfl) (by kernel_rfl) (fun _ _ _ h => h) (Or.inl ⟨by kernel_rfl, ?_⟩) hHeld ?_
      rotate_left
      focus (intro W hS; obtain ⟨v, hbx⟩ := hS.bx; have c0 := hbx.at_ (j := 0) rfl; have c1 := hbx.at_ (j := 1) rfl; have c2 := hbx.at_ (j := 2) rfl; clear hbx; clear hS; first | (go_simp; done) | (go_simp; with_reducible rfl))
      try simp only [Act.put, List.setIfInBounds_toArray, List.set_cons_zero, List.set_cons_succ]
      refine wpAnyH_take (i := 2) (oi := ⟨some 9, _, _, _, _, _⟩) (v := ?_) rfl (by kernel_rfl) (by kernel_rfl) (by kernel_rfl) (fun _ _ _ h => h) (Or.inl ⟨by kernel_rfl, ?_⟩) hHeld ?_
      rotate_left
      focus (intro W hS; obtain ⟨v, hbx⟩ := hS.bx; have c0 := hbx.at_ (j := 0) rfl; have c1 := hbx.at_ (j := 1) rfl; have c2 := hbx.at_ (j := 2) rfl; clear hbx; clear hS; first | (go_simp; done) | (go_simp; with_reducible rfl))
      try simp only [Act.put, List.setIfInBounds_toArray, List.set_cons_zero, List.set_cons_succ]
      refine wpAnyH_take (i := 3) (oi := ⟨some 10, _, _, _, _, _⟩) (v := ?_) rfl (by kernel_rfl) (by kernel_rfl) (by kernel_rfl) (fun _ _ _ h => h) (Or.inl ⟨by kernel_rfl, ?_⟩) hHeld ?_
      rotate_left
      focus (intro W hS; obtain ⟨v, hbx⟩ := hS.bx; have c0 := hbx.at_ (j := 0) rfl; have c1 := hbx.at_ (j := 1) rfl; have c2 := hbx.at_ (j := 2) rfl; clear hbx; clear hS; first | (go_simp; done) | (go_simp; with_reducible rfl))
      try simp only [Act.put, List.setIfInBounds_toArray, List.set_cons_zero, List.set_cons_succ]
      refine wpAnyH_take (i := 4) (oi := ⟨some 11, _, _, _, _, _⟩) (v := ?_) rfl (by kernel_rfl) (by kernel_rfl) (by kernel_rfl) (fun _ _ _ h => h) (Or.inl ⟨by kernel_rfl, ?_⟩) hHeld ?_
      rotate_left
      focus (intro W hS; obtain ⟨v, hbx⟩ := hS.bx; have c0 := hbx.at_ (j := 0) rfl; have c1 := hbx.at_ (j := 1) rfl; have c2 := hbx.at_ (j := 2) rfl; clear hbx; clear hS; first | (go_simp; done) | (go_simp; with_reducible rfl))
      try simp only [Act.put, List.setIfInBounds_toArray, List.set_cons_zero, List.set_cons_succ]
      refine wpAnyH_take (i := 5) (oi := ⟨some 12, _, _, _, _, _⟩) (v := ?_) rfl (by kernel_rfl) (by kernel_rfl) (by kernel_rfl) (fun _ _ _ h => h) (Or.inl ⟨by kernel_rfl, ?_⟩) hHeld ?_
      rotate_left
      focus (intro W hS; obtain ⟨v, hbx⟩ := hS.bx; have c0 := hbx.at_ (j := 0) rfl; have c1 := hbx.at_ (j := 1) rfl; have c2 := hbx.at_ (j := 2) rfl; clear hbx; clear hS; first | (go_simp; done) | (go_simp; with_reducible rfl))
      try simp only [Act.put, List.setIfInBounds_toArray, List.set_cons_zero, List.set_cons_succ]
      refine wpAnyH_take (i := 6) (oi := ⟨some 13, _, _, _, _, _⟩) (v := ?_) rfl (by kernel_rfl) (by kernel_rfl) (by kernel_rfl) (fun _ _ _ h => h) (Or.inl ⟨by kernel_rfl, ?_⟩) hHeld ?_
      rotate_left
      focus (intro W hS; obtain ⟨v, hbx⟩ := hS.bx; have c0 := hbx.at_ (j := 0) rfl; have c1 := hbx.at_ (j := 1) rfl; have c2 := hbx.at_ (j := 2) rfl; clear hbx; clear hS; first | (go_simp; done) | (go_simp; with_reducible rfl))
      try simp only [Act.put, List.setIfInBounds_toArray, List.set_cons_zero, List.set_cons_succ]
      refine wpAnyH_take (i := 7) (oi := ⟨some 14, _, _, _, _, _⟩) (v := ?_) rfl (by kernel_rfl) (by kernel_rfl) (by kernel_rfl) (fun _ _ _ h => h) (Or.inl ⟨by kernel_rfl, ?_⟩) hHeld ?_
      rotate_left
      focus (intro W hS; obtain ⟨v, hbx⟩ := hS.bx; have c0 := hbx.at_ (j := 0) rfl; have c1 := hbx.at_ (j := 1) rfl; have c2 := hbx.at_ (j := 2) rfl; clear hbx; clear hS; first | (go_simp; done) | (go_simp; with_reducible rfl))
      try simp only [Act.put, List.setIfInBounds_toArray, List.set_cons_zero, List.set_cons_succ]
      refine wpAnyH_ready (rs := [1, 8]) (by kernel_rfl) (by simp) ?_
      refine AllReadyH.cons (o := ⟨some 8, _, _, _, _, _⟩) rfl (fun K hK => ?_) ?_
      · skip
        go_simp
        refine Calls.mono (C10.out _ (pow10_below hT hHeld.below)) ?_
        rintro e x1 ⟨gKa, rfl, GKa, hb1⟩
        refine hK.out _ _ (DeedW.new hHeld hb1) (fun hHeld' => ?_)
        clear hK K hHeld hb1
        have hHeld := hHeld'
        clear hHeld'
        try simp only [Act.put, List.setIfInBounds_toArray, List.set_cons_zero, List.set_cons_succ]
        refine wpAnyH_ready (rs := [8]) (by kernel_rfl) (by simp) ?_
        refine AllReadyH.cons (o := ⟨some 15, _, _, _, _, _⟩) rfl (fun K hK => ?_) AllReadyH.nil
        go_simp
        have GVa := box_new (x1) 3 #[.int .i64 1, .int .i64 x.f0, .int .i64 x.f1, .int .i64 x.f2]
        have hb1 := (Below.refl (x1).heap.size (x1)).alloc (Nat.le_refl _) (.cells #[.int .i64 1, .int .i64 x.f0, .int .i64 x.f1, .int .i64 x.f2] 3)
        have LVa : w.heap.size ≤ (x1).heap.size := by have := (hHeld).size; omega
        have NKaVa : gKa < (x1).heap.size := GKa.lt
        replace GKa := GKa.new hb1
        generalize (x1).alloc (.cells #[.int .i64 1, .int .i64 x.f0, .int .i64 x.f1, .int .i64 x.f2] 3) = x2 at hb1 GVa GKa ⊢
        generalize hg : (x1).heap.size = gVa at GVa LVa NKaVa ⊢
        clear hg
        refine hK.out _ _ (DeedW.new hHeld hb1) (fun hHeld' => ?_)
        clear hK K hHeld hb1
        have hHeld := hHeld'
        clear hHeld'
        try simp only [Act.put, List.setIfInBounds_toArray, List.set_cons_zero, List.set_cons_succ]
        refine wpAnyH_ready (rs := [9]) (by kernel_rfl) (by simp) ?_
        refine AllReadyH.cons (o := ⟨some 16, _, _, _, _, _⟩) rfl (fun K hK => ?_) AllReadyH.nil
        go_simp
        refine Calls.mono (C11.out _ _ GKa GVa) ?_
        rintro e x3 ⟨rfl, hb1⟩
        replace GKa := GKa.new hb1
        replace GVa := GVa.new hb1
        refine hK.out _ _ (DeedW.new hHeld hb1) (fun hHeld' => ?_)
        clear hK K hHeld hb1
        have hHeld := hHeld'
        clear hHeld'
        try simp only [Act.put, List.setIfInBounds_toArray, List.set_cons_zero, List.set_cons_succ]
        refine wpAnyH_take (i := 10) (oi := ⟨some 17, _, _, _, _, _⟩) (v := ?_) rfl (by kernel_rfl) (by kernel_rfl) (by kernel_rfl) (fun _ _ _ h => h) (Or.inl ⟨by kernel_rfl, ?_⟩) hHeld ?_
        rotate_left
        focus (intro W hS; obtain ⟨v, hbx⟩ := hS.bx; have c0 := hbx.at_ (j := 0) rfl; have c1 := hbx.at_ (j := 1) rfl; have c2 := hbx.at_ (j := 2) rfl; clear hbx; clear hS; first | (go_simp; done) | (go_simp; with_reducible rfl))
        try simp only [Act.put, List.setIfInBounds_toArray, List.set_cons_zero, List.set_cons_succ]
        refine wpAnyH_ready (rs := [11]) (by kernel_rfl) (by simp) ?_
        refine AllReadyH.cons (o := ⟨none, _, _, _, _, _⟩) rfl (fun K hK => ?_) AllReadyH.nil
        obtain ⟨v, hbx⟩ := hHeld.bx
        have c3 := hbx.at_ (j := 3) rfl
        have f3 := hbx.free 3
        have hlt := hbx.lt
        go_simp
        have GX := bx_cell (u := .int .i64 z) (j := 3) hbx
        have GR := bx_cell_far (g := w.heap.size) (j := 3) (u := .int .i64 z) hHeld.br (by omega)
        have GB := hHeld.below.setCell (p := ⟨w.heap.size, 3, none⟩) (Nat.le_refl _) (.int .i64 z)
        refine hK.out _ _ ⟨⟨_, GX⟩, GR, GB⟩ (fun hHeld' => ?_)
        clear hK K hHeld hbx c3 f3 hHeld'
        try simp only [Act.put, List.setIfInBounds_toArray, List.set_cons_zero, List.set_cons_succ]
        refine wpAnyH_done (by kernel_rfl) ?_ _
        have HXa := Lib.hid (show BoxAt _ w.heap.size 24 #[.int .i64 x.f0, .int .i64 x.f1, .int .i64 x.f2, .int .i64 z, .int .i64 x.f4] from GX)
        have HRa := Lib.hid GR
        have HBa := Lib.hid GB
        clear GX GR GB
        go_wp2_with fail
        refine wp_region_held_drew (S := fun w' => DeedW w (fun v => #[.int .i64 x.f0, .int .i64 x.f1, .int .i64 x.f2, .int .i64 z, v]) w') (by kernel_rfl) ?_ (fun hHeld => ?_)
        · exact (⟨⟨.int .i64 x.f4, HXa.out.drw⟩, HRa.out.drw, HBa.out.drew⟩ : DeedW w (fun v => #[.int .i64 x.f0, .int .i64 x.f1, .int .i64 x.f2, .int .i64 z, v]) _)
        generalize (World.drew _) = x0 at hHeld ⊢
        refine wpAnyH_take (i := 0) (oi := ⟨some 18, _, _, _, _, _⟩) (v := ?_) rfl (by kernel_rfl) (by kernel_rfl) (by kernel_rfl) (fun _ _ _ h => h) (Or.inl ⟨by kernel_rfl, ?_⟩) hHeld ?_
        rotate_left
        focus (intro W hS; obtain ⟨v, hbx⟩ := hS.bx; have c0 := hbx.at_ (j := 0) rfl; have c1 := hbx.at_ (j := 1) rfl; have c2 := hbx.at_ (j := 2) rfl; clear hbx; clear hS; first | (go_simp; done) | (go_simp; with_reducible rfl))
        try simp only [Act.put, List.setIfInBounds_toArray, List.set_cons_zero, List.set_cons_succ]
        refine wpAnyH_take (i := 2) (oi := ⟨some 20, _, _, _, _, _⟩) (v := ?_) rfl (by kernel_rfl) (by kernel_rfl) (by kernel_rfl) (fun _ _ _ h => h) (Or.inl ⟨by kernel_rfl, ?_⟩) hHeld ?_
        rotate_left
        focus (intro W hS; obtain ⟨v, hbx⟩ := hS.bx; have c0 := hbx.at_ (j := 0) rfl; have c1 := hbx.at_ (j := 1) rfl; have c2 := hbx.at_ (j := 2) rfl; clear hbx; clear hS; first | (go_simp; done) | (go_simp; with_reducible rfl))
        try simp only [Act.put, List.setIfInBounds_toArray, List.set_cons_zero, List.set_cons_succ]
        refine wpAnyH_take (i := 3) (oi := ⟨some 21, _, _, _, _, _⟩) (v := ?_) rfl (by kernel_rfl) (by kernel_rfl) (by kernel_rfl) (fun _ _ _ h => h) (Or.inl ⟨by kernel_rfl, ?_⟩) hHeld ?_
        rotate_left
        focus (intro W hS; obtain ⟨v, hbx⟩ := hS.bx; have c0 := hbx.at_ (j := 0) rfl; have c1 := hbx.at_ (j := 1) rfl; have c2 := hbx.at_ (j := 2) rfl; clear hbx; clear hS; first | (go_simp; done) | (go_simp; with_reducible rfl))
        try simp only [Act.put, List.setIfInBounds_toArray, List.set_cons_zero, List.set_cons_succ]
        refine wpAnyH_take (i := 4) (oi := ⟨some 22, _, _, _, _, _⟩) (v := ?_) rfl (by kernel_rfl) (by kernel_rfl) (by kernel_rfl) (fun _ _ _ h => h) (Or.inl ⟨by kernel_rfl, ?_⟩) hHeld ?_
        rotate_left
        focus (intro W hS; obtain ⟨v, hbx⟩ := hS.bx; have c0 := hbx.at_ (j := 0) rfl; have c1 := hbx.at_ (j := 1) rfl; have c2 := hbx.at_ (j := 2) rfl; clear hbx; clear hS; first | (go_simp; done) | (go_simp; with_reducible rfl))
        try simp only [Act.put, List.setIfInBounds_toArray, List.set_cons_zero, List.set_cons_succ]
        refine wpAnyH_take (i := 5) (oi := ⟨some 23, _, _, _, _, _⟩) (v := ?_) rfl (by kernel_rfl) (by kernel_rfl) (by kernel_rfl) (fun _ _ _ h => h) (Or.inl ⟨by kernel_rfl, ?_⟩) hHeld ?_
        rotate_left
        focus (intro W hS; obtain ⟨v, hbx⟩ := hS.bx; have c0 := hbx.at_ (j := 0) rfl; have c1 := hbx.at_ (j := 1) rfl; have c2 := hbx.at_ (j := 2) rfl; clear hbx; clear hS; first | (go_simp; done) | (go_simp; with_reducible rfl))
        try simp only [Act.put, List.setIfInBounds_toArray, List.set_cons_zero, List.set_cons_succ]
        refine wpAnyH_take (i := 6) (oi := ⟨some 24, _, _, _, _, _⟩) (v := ?_) rfl (by kernel_rfl) (by kernel_rfl) (by kernel_rfl) (fun _ _ _ h => h) (Or.inl ⟨by kernel_rfl, ?_⟩) hHeld ?_
        rotate_left
        focus (intro W hS; obtain ⟨v, hbx⟩ := hS.bx; have c0 := hbx.at_ (j := 0) rfl; have c1 := hbx.at_ (j := 1) rfl; have c2 := hbx.at_ (j := 2) rfl; clear hbx; clear hS; first | (go_simp; done) | (go_simp; with_reducible rfl))
        try simp only [Act.put, List.setIfInBounds_toArray, List.set_cons_zero, List.set_cons_succ]
        refine wpAnyH_take (i := 7) (oi := ⟨some 25, _, _, _, _, _⟩) (v := ?_) rfl (by kernel_rfl) (by kernel_rfl) (by kernel_rfl) (fun _ _ _ h => h) (Or.inl ⟨by kernel_rfl, ?_⟩) hHeld ?_
        rotate_left
        focus (intro W hS; obtain ⟨v, hbx⟩ := hS.bx; have c0 := hbx.at_ (j := 0) rfl; have c1 := hbx.at_ (j := 1) rfl; have c2 := hbx.at_ (j := 2) rfl; clear hbx; clear hS; first | (go_simp; done) | (go_simp; with_reducible rfl))
        try simp only [Act.put, List.setIfInBounds_toArray, List.set_cons_zero, List.set_cons_succ]
        refine wpAnyH_ready (rs := [1, 8]) (by kernel_rfl) (by simp) ?_
        refine AllReadyH.cons (o := ⟨some 19, _, _, _, _, _⟩) rfl (fun K hK => ?_) ?_
        · skip
          go_simp
          refine Calls.mono (C20.out _ (pow10_below hT hHeld.below)) ?_
          rintro e x1 ⟨gKb, rfl, GKb, hb1⟩
          refine hK.out _ _ (DeedW.new hHeld hb1) (fun hHeld' => ?_)
          clear hK K hHeld hb1
          have hHeld := hHeld'
          clear hHeld'
          try simp only [Act.put, List.setIfInBounds_toArray, List.set_cons_zero, List.set_cons_succ]
          refine wpAnyH_ready (rs := [8]) (by kernel_rfl) (by simp) ?_
          refine AllReadyH.cons (o := ⟨some 26, _, _, _, _, _⟩) rfl (fun K hK => ?_) AllReadyH.nil
          go_simp
          have GVb := box_new (x1) 3 #[.int .i64 2, .int .i64 x.f0, .int .i64 x.f1, .int .i64 x.f2]
          have hb1 := (Below.refl (x1).heap.size (x1)).alloc (Nat.le_refl _) (.cells #[.int .i64 2, .int .i64 x.f0, .int .i64 x.f1, .int .i64 x.f2] 3)
          have LVb : w.heap.size ≤ (x1).heap.size := by have := (hHeld).size; omega
          have NKbVb : gKb < (x1).heap.size := GKb.lt
          replace GKb := GKb.new hb1
          generalize (x1).alloc (.cells #[.int .i64 2, .int .i64 x.f0, .int .i64 x.f1, .int .i64 x.f2] 3) = x2 at hb1 GVb GKb ⊢
          generalize hg : (x1).heap.size = gVb at GVb LVb NKbVb ⊢
          clear hg
          refine hK.out _ _ (DeedW.new hHeld hb1) (fun hHeld' => ?_)
          clear hK K hHeld hb1
          have hHeld := hHeld'
          clear hHeld'
          try simp only [Act.put, List.setIfInBounds_toArray, List.set_cons_zero, List.set_cons_succ]
          refine wpAnyH_ready (rs := [9]) (by kernel_rfl) (by simp) ?_
          refine AllReadyH.cons (o := ⟨some 27, _, _, _, _, _⟩) rfl (fun K hK => ?_) AllReadyH.nil
          go_simp
          refine Calls.mono (C21.out _ _ GKb GVb) ?_
          rintro e x3 ⟨rfl, hb1⟩
          replace GKb := GKb.new hb1
          replace GVb := GVb.new hb1
          refine hK.out _ _ (DeedW.new hHeld hb1) (fun hHeld' => ?_)
          clear hK K hHeld hb1
          have hHeld := hHeld'
          clear hHeld'
          try simp only [Act.put, List.setIfInBounds_toArray, List.set_cons_zero, List.set_cons_succ]
          refine wpAnyH_take (i := 10) (oi := ⟨some 28, _, _, _, _, _⟩) (v := ?_) rfl (by kernel_rfl) (by kernel_rfl) (by kernel_rfl) (fun _ _ _ h => h) (Or.inl ⟨by kernel_rfl, ?_⟩) hHeld ?_
          rotate_left
          focus (intro W hS; obtain ⟨v, hbx⟩ := hS.bx; have c0 := hbx.at_ (j := 0) rfl; have c1 := hbx.at_ (j := 1) rfl; have c2 := hbx.at_ (j := 2) rfl; clear hbx; clear hS; first | (go_simp; done) | (go_simp; with_reducible rfl))
          try simp only [Act.put, List.setIfInBounds_toArray, List.set_cons_zero, List.set_cons_succ]
          refine wpAnyH_ready (rs := [11]) (by kernel_rfl) (by simp) ?_
          refine AllReadyH.cons (o := ⟨none, _, _, _, _, _⟩) rfl (fun K hK => ?_) AllReadyH.nil
          obtain ⟨v, hbx⟩ := hHeld.bx
          have c3 := hbx.at_ (j := 4) rfl
          have f3 := hbx.free 4
          have hlt := hbx.lt
          go_simp
          have GX := bx_cell (u := .int .i64 y) (j := 4) hbx
          have GR := bx_cell_far (g := w.heap.size) (j := 4) (u := .int .i64 y) hHeld.br (by omega)
          have GB := hHeld.below.setCell (p := ⟨w.heap.size, 4, none⟩) (Nat.le_refl _) (.int .i64 y)
          refine hK.out _ _ ⟨⟨_, GX⟩, GR, GB⟩ (fun hHeld' => ?_)
          clear hK K hHeld hbx c3 f3 hHeld'
          try simp only [Act.put, List.setIfInBounds_toArray, List.set_cons_zero, List.set_cons_succ]
          refine wpAnyH_done (by kernel_rfl) ?_ _
          have HX := Lib.hid (show BoxAt _ w.heap.size 24 #[.int .i64 x.f0, .int .i64 x.f1, .int .i64 x.f2, .int .i64 z, .int .i64 y] from GX)
          have HR := Lib.hid GR
          have HB := Lib.hid GB
          clear GX GR GB
          have e0 := HX.out.at_ (j := 0) rfl
          have e1 := HX.out.at_ (j := 1) rfl
          have e2 := HX.out.at_ (j := 2) rfl
          have e3 := HX.out.at_ (j := 3) rfl
          have e4 := HX.out.at_ (j := 4) rfl
          go_wp2_with (refine wpList_store_row rfl 24 _ _ rfl (w.heap.size + 1) #[.int .i64 x.f0, .int .i64 x.f1, .int .i64 x.f2, .int .i64 z, .int .i64 y] rfl rfl 24 _ HR.out (by kernel_rfl) (by kernel_rfl) (by kernel_rfl) ?_)
          have k0 := (box_row (cs := #[.int .i64 x.f0, .int .i64 x.f1, .int .i64 x.f2, .int .i64 z, .int .i64 y]) HR.out).at_ (j := 0) rfl
          have k1 := (box_row (cs := #[.int .i64 x.f0, .int .i64 x.f1, .int .i64 x.f2, .int .i64 z, .int .i64 y]) HR.out).at_ (j := 1) rfl
          have k2 := (box_row (cs := #[.int .i64 x.f0, .int .i64 x.f1, .int .i64 x.f2, .int .i64 z, .int .i64 y]) HR.out).at_ (j := 2) rfl
          have k3 := (box_row (cs := #[.int .i64 x.f0, .int .i64 x.f1, .int .i64 x.f2, .int .i64 z, .int .i64 y]) HR.out).at_ (j := 3) rfl
          have k4 := (box_row (cs := #[.int .i64 x.f0, .int .i64 x.f1, .int .i64 x.f2, .int .i64 z, .int .i64 y]) HR.out).at_ (j := 4) rfl
          exact bodyPost_ret (v := vDeed ⟨x.f0, x.f1, x.f2, z, y⟩) (by simp [results, Tryd.results6, go_sem, k0, k1, k2, k3, k4]) rfl ⟨rfl, below_setRow HB.out (by omega) _⟩
        refine AllReadyH.cons (o := ⟨some 26, _, _, _, _, _⟩) rfl (fun K hK => ?_) ?_
        · skip
          go_simp
          have GVb := box_new (x0) 3 #[.int .i64 2, .int .i64 x.f0, .int .i64 x.f1, .int .i64 x.f2]
          have hb1 := (Below.refl (x0).heap.size (x0)).alloc (Nat.le_refl _) (.cells #[.int .i64 2, .int .i64 x.f0, .int .i64 x.f1, .int .i64 x.f2] 3)
          have LVb : w.heap.size ≤ (x0).heap.size := by have := (hHeld).size; omega
          generalize (x0).alloc (.cells #[.int .i64 2, .int .i64 x.f0, .int .i64 x.f1, .int .i64 x.f2] 3) = x1 at hb1 GVb  ⊢
          generalize hg : (x0).heap.size = gVb at GVb LVb  ⊢
          clear hg
          refine hK.out _ _ (DeedW.new hHeld hb1) (fun hHeld' => ?_)
          clear hK K hHeld hb1
          have hHeld := hHeld'
          clear hHeld'
          try simp only [Act.put, List.setIfInBounds_toArray, List.set_cons_zero, List.set_cons_succ]
          refine wpAnyH_ready (rs := [1]) (by kernel_rfl) (by simp) ?_
          refine AllReadyH.cons (o := ⟨some 19, _, _, _, _, _⟩) rfl (fun K hK => ?_) AllReadyH.nil
          go_simp
          refine Calls.mono (C20.out _ (pow10_below hT hHeld.below)) ?_
          rintro e x2 ⟨gKb, rfl, GKb, hb1⟩
          replace GVb := GVb.new hb1
          refine hK.out _ _ (DeedW.new hHeld hb1) (fun hHeld' => ?_)
          clear hK K hHeld hb1
          have hHeld := hHeld'
          clear hHeld'
          try simp only [Act.put, List.setIfInBounds_toArray, List.set_cons_zero, List.set_cons_succ]
          refine wpAnyH_ready (rs := [9]) (by kernel_rfl) (by simp) ?_
          refine AllReadyH.cons (o := ⟨some 27, _, _, _, _, _⟩) rfl (fun K hK => ?_) AllReadyH.nil
          go_simp
          refine Calls.mono (C21.out _ _ GKb GVb) ?_
          rintro e x3 ⟨rfl, hb1⟩
          replace GVb := GVb.new hb1
          replace GKb := GKb.new hb1
          refine hK.out _ _ (DeedW.new hHeld hb1) (fun hHeld' => ?_)
          clear hK K hHeld hb1
          have hHeld := hHeld'
          clear hHeld'
          try simp only [Act.put, List.setIfInBounds_toArray, List.set_cons_zero, List.set_cons_succ]
          refine wpAnyH_take (i := 10) (oi := ⟨some 28, _, _, _, _, _⟩) (v := ?_) rfl (by kernel_rfl) (by kernel_rfl) (by kernel_rfl) (fun _ _ _ h => h) (Or.inl ⟨by kernel_rfl, ?_⟩) hHeld ?_
          rotate_left
          focus (intro W hS; obtain ⟨v, hbx⟩ := hS.bx; have c0 := hbx.at_ (j := 0) rfl; have c1 := hbx.at_ (j := 1) rfl; have c2 := hbx.at_ (j := 2) rfl; clear hbx; clear hS; first | (go_simp; done) | (go_simp; with_reducible rfl))
          try simp only [Act.put, List.setIfInBounds_toArray, List.set_cons_zero, List.set_cons_succ]
          refine wpAnyH_ready (rs := [11]) (by kernel_rfl) (by simp) ?_
          refine AllReadyH.cons (o := ⟨none, _, _, _, _, _⟩) rfl (fun K hK => ?_) AllReadyH.nil
          obtain ⟨v, hbx⟩ := hHeld.bx
          have c3 := hbx.at_ (j := 4) rfl
          have f3 := hbx.free 4
          have hlt := hbx.lt
          go_simp
          have GX := bx_cell (u := .int .i64 y) (j := 4) hbx
          have GR := bx_cell_far (g := w.heap.size) (j := 4) (u := .int .i64 y) hHeld.br (by omega)
          have GB := hHeld.below.setCell (p := ⟨w.heap.size, 4, none⟩) (Nat.le_refl _) (.int .i64 y)
          refine hK.out _ _ ⟨⟨_, GX⟩, GR, GB⟩ (fun hHeld' => ?_)
          clear hK K hHeld hbx c3 f3 hHeld'
          try simp only [Act.put, List.setIfInBounds_toArray, List.set_cons_zero, List.set_cons_succ]
          refine wpAnyH_done (by kernel_rfl) ?_ _
          have HX := Lib.hid (show BoxAt _ w.heap.size 24 #[.int .i64 x.f0, .int .i64 x.f1, .int .i64 x.f2, .int .i64 z, .int .i64 y] from GX)
          have HR := Lib.hid GR
          have HB := Lib.hid GB
          clear GX GR GB
          have e0 := HX.out.at_ (j := 0) rfl
          have e1 := HX.out.at_ (j := 1) rfl
          have e2 := HX.out.at_ (j := 2) rfl
          have e3 := HX.out.at_ (j := 3) rfl
          have e4 := HX.out.at_ (j := 4) rfl
          go_wp2_with (refine wpList_store_row rfl 24 _ _ rfl (w.heap.size + 1) #[.int .i64 x.f0, .int .i64 x.f1, .int .i64 x.f2, .int .i64 z, .int .i64 y] rfl rfl 24 _ HR.out (by kernel_rfl) (by kernel_rfl) (by kernel_rfl) ?_)
          have k0 := (box_row (cs := #[.int .i64 x.f0, .int .i64 x.f1, .int .i64 x.f2, .int .i64 z, .int .i64 y]) HR.out).at_ (j := 0) rfl
          have k1 := (box_row (cs := #[.int .i64 x.f0, .int .i64 x.f1, .int .i64 x.f2, .int .i64 z, .int .i64 y]) HR.out).at_ (j := 1) rfl
          have k2 := (box_row (cs := #[.int .i64 x.f0, .int .i64 x.f1, .int .i64 x.f2, .int .i64 z, .int .i64 y]) HR.out).at_ (j := 2) rfl
          have k3 := (box_row (cs := #[.int .i64 x.f0, .int .i64 x.f1, .int .i64 x.f2, .int .i64 z, .int .i64 y]) HR.out).at_ (j := 3) rfl
          have k4 := (box_row (cs := #[.int .i64 x.f0, .int .i64 x.f1, .int .i64 x.f2, .int .i64 z, .int .i64 y]) HR.out).at_ (j := 4) rfl
          exact bodyPost_ret (v := vDeed ⟨x.f0, x.f1, x.f2, z, y⟩) (by simp [results, Tryd.results6, go_sem, k0, k1, k2, k3, k4]) rfl ⟨rfl, below_setRow HB.out (by omega) _⟩
        exact AllReadyH.nil
      refine AllReadyH.cons (o := ⟨some 15, _, _, _, _, _⟩) rfl (fun K hK => ?_) ?_
      · skip
        go_simp
        have GVa := box_new (x0) 3 #[.int .i64 1, .int .i64 x.f0, .int .i64 x.f1, .int .i64 x.f2]
        have hb1 := (Below.refl (x0).heap.size (x0)).alloc (Nat.le_refl _) (.cells #[.int .i64 1, .int .i64 x.f0, .int .i64 x.f1, .int .i64 x.f2] 3)
        have LVa : w.heap.size ≤ (x0).heap.size := by have := (hHeld).size; omega
        generalize (x0).alloc (.cells #[.int .i64 1, .int .i64 x.f0, .int .i64 x.f1, .int .i64 x.f2] 3) = x1 at hb1 GVa  ⊢
        generalize hg : (x0).heap.size = gVa at GVa LVa  ⊢
        clear hg
        refine hK.out _ _ (DeedW.new hHeld hb1) (fun hHeld' => ?_)
        clear hK K hHeld hb1
        have hHeld := hHeld'
        clear hHeld'
        try simp only [Act.put, List.setIfInBounds_toArray, List.set_cons_zero, List.set_cons_succ]
        refine wpAnyH_ready (rs := [1]) (by kernel_rfl) (by simp) ?_
        refine AllReadyH.cons (o := ⟨some 8, _, _, _, _, _⟩) rfl (fun K hK => ?_) AllReadyH.nil
        go_simp
        refine Calls.mono (C10.out _ (pow10_below hT hHeld.below)) ?_
        rintro e x2 ⟨gKa, rfl, GKa, hb1⟩
        replace GVa := GVa.new hb1
        refine hK.out _ _ (DeedW.new hHeld hb1) (fun hHeld' => ?_)
        clear hK K hHeld hb1
        have hHeld := hHeld'
        clear hHeld'
        try simp only [Act.put, List.setIfInBounds_toArray, List.set_cons_zero, List.set_cons_succ]
        refine wpAnyH_ready (rs := [9]) (by kernel_rfl) (by simp) ?_
        refine AllReadyH.cons (o := ⟨some 16, _, _, _, _, _⟩) rfl (fun K hK => ?_) AllReadyH.nil
        go_simp
        refine Calls.mono (C11.out _ _ GKa GVa) ?_
        rintro e x3 ⟨rfl, hb1⟩
        replace GVa := GVa.new hb1
        replace GKa := GKa.new hb1
        refine hK.out _ _ (DeedW.new hHeld hb1) (fun hHeld' => ?_)
        clear hK K hHeld hb1
        have hHeld := hHeld'
        clear hHeld'
        try simp only [Act.put, List.setIfInBounds_toArray, List.set_cons_zero, List.set_cons_succ]
        refine wpAnyH_take (i := 10) (oi := ⟨some 17, _, _, _, _, _⟩) (v := ?_) rfl (by kernel_rfl) (by kernel_rfl) (by kernel_rfl) (fun _ _ _ h => h) (Or.inl ⟨by kernel_rfl, ?_⟩) hHeld ?_
        rotate_left
        focus (intro W hS; obtain ⟨v, hbx⟩ := hS.bx; have c0 := hbx.at_ (j := 0) rfl; have c1 := hbx.at_ (j := 1) rfl; have c2 := hbx.at_ (j := 2) rfl; clear hbx; clear hS; first | (go_simp; done) | (go_simp; with_reducible rfl))
        try simp only [Act.put, List.setIfInBounds_toArray, List.set_cons_zero, List.set_cons_succ]
        refine wpAnyH_ready (rs := [11]) (by kernel_rfl) (by simp) ?_
        refine AllReadyH.cons (o := ⟨none, _, _, _, _, _⟩) rfl (fun K hK => ?_) AllReadyH.nil
        obtain ⟨v, hbx⟩ := hHeld.bx
        have c3 := hbx.at_ (j := 3) rfl
        have f3 := hbx.free 3
        have hlt := hbx.lt
        go_simp
        have GX := bx_cell (u := .int .i64 z) (j := 3) hbx
        have GR := bx_cell_far (g := w.heap.size) (j := 3) (u := .int .i64 z) hHeld.br (by omega)
        have GB := hHeld.below.setCell (p := ⟨w.heap.size, 3, none⟩) (Nat.le_refl _) (.int .i64 z)
        refine hK.out _ _ ⟨⟨_, GX⟩, GR, GB⟩ (fun hHeld' => ?_)
        clear hK K hHeld hbx c3 f3 hHeld'
        try simp only [Act.put, List.setIfInBounds_toArray, List.set_cons_zero, List.set_cons_succ]
        refine wpAnyH_done (by kernel_rfl) ?_ _
        have HXa := Lib.hid (show BoxAt _ w.heap.size 24 #[.int .i64 x.f0, .int .i64 x.f1, .int .i64 x.f2, .int .i64 z, .int .i64 x.f4] from GX)
        have HRa := Lib.hid GR
        have HBa := Lib.hid GB
        clear GX GR GB
        go_wp2_with fail
        refine wp_region_held_drew (S := fun w' => DeedW w (fun v => #[.int .i64 x.f0, .int .i64 x.f1, .int .i64 x.f2, .int .i64 z, v]) w') (by kernel_rfl) ?_ (fun hHeld => ?_)
        · exact (⟨⟨.int .i64 x.f4, HXa.out.drw⟩, HRa.out.drw, HBa.out.drew⟩ : DeedW w (fun v => #[.int .i64 x.f0, .int .i64 x.f1, .int .i64 x.f2, .int .i64 z, v]) _)
        generalize (World.drew _) = x0 at hHeld ⊢
        refine wpAnyH_take (i := 0) (oi := ⟨some 18, _, _, _, _, _⟩) (v := ?_) rfl (by kernel_rfl) (by kernel_rfl) (by kernel_rfl) (fun _ _ _ h => h) (Or.inl ⟨by kernel_rfl, ?_⟩) hHeld ?_
        rotate_left
        focus (intro W hS; obtain ⟨v, hbx⟩ := hS.bx; have c0 := hbx.at_ (j := 0) rfl; have c1 := hbx.at_ (j := 1) rfl; have c2 := hbx.at_ (j := 2) rfl; clear hbx; clear hS; first | (go_simp; done) | (go_simp; with_reducible rfl))
        try simp only [Act.put, List.setIfInBounds_toArray, List.set_cons_zero, List.set_cons_succ]
        refine wpAnyH_take (i := 2) (oi := ⟨some 20, _, _, _, _, _⟩) (v := ?_) rfl (by kernel_rfl) (by kernel_rfl) (by kernel_rfl) (fun _ _ _ h => h) (Or.inl ⟨by kernel_rfl, ?_⟩) hHeld ?_
        rotate_left
        focus (intro W hS; obtain ⟨v, hbx⟩ := hS.bx; have c0 := hbx.at_ (j := 0) rfl; have c1 := hbx.at_ (j := 1) rfl; have c2 := hbx.at_ (j := 2) rfl; clear hbx; clear hS; first | (go_simp; done) | (go_simp; with_reducible rfl))
        try simp only [Act.put, List.setIfInBounds_toArray, List.set_cons_zero, List.set_cons_succ]
        refine wpAnyH_take (i := 3) (oi := ⟨some 21, _, _, _, _, _⟩) (v := ?_) rfl (by kernel_rfl) (by kernel_rfl) (by kernel_rfl) (fun _ _ _ h => h) (Or.inl ⟨by kernel_rfl, ?_⟩) hHeld ?_
        rotate_left
        focus (intro W hS; obtain ⟨v, hbx⟩ := hS.bx; have c0 := hbx.at_ (j := 0) rfl; have c1 := hbx.at_ (j := 1) rfl; have c2 := hbx.at_ (j := 2) rfl; clear hbx; clear hS; first | (go_simp; done) | (go_simp; with_reducible rfl))
        try simp only [Act.put, List.setIfInBounds_toArray, List.set_cons_zero, List.set_cons_succ]
        refine wpAnyH_take (i := 4) (oi := ⟨some 22, _, _, _, _, _⟩) (v := ?_) rfl (by kernel_rfl) (by kernel_rfl) (by kernel_rfl) (fun _ _ _ h => h) (Or.inl ⟨by kernel_rfl, ?_⟩) hHeld ?_
        rotate_left
        focus (intro W hS; obtain ⟨v, hbx⟩ := hS.bx; have c0 := hbx.at_ (j := 0) rfl; have c1 := hbx.at_ (j := 1) rfl; have c2 := hbx.at_ (j := 2) rfl; clear hbx; clear hS; first | (go_simp; done) | (go_simp; with_reducible rfl))
        try simp only [Act.put, List.setIfInBounds_toArray, List.set_cons_zero, List.set_cons_succ]
        refine wpAnyH_take (i := 5) (oi := ⟨some 23, _, _, _, _, _⟩) (v := ?_) rfl (by kernel_rfl) (by kernel_rfl) (by kernel_rfl) (fun _ _ _ h => h) (Or.inl ⟨by kernel_rfl, ?_⟩) hHeld ?_
        rotate_left
        focus (intro W hS; obtain ⟨v, hbx⟩ := hS.bx; have c0 := hbx.at_ (j := 0) rfl; have c1 := hbx.at_ (j := 1) rfl; have c2 := hbx.at_ (j := 2) rfl; clear hbx; clear hS; first | (go_simp; done) | (go_simp; with_reducible rfl))
        try simp only [Act.put, List.setIfInBounds_toArray, List.set_cons_zero, List.set_cons_succ]
        refine wpAnyH_take (i := 6) (oi := ⟨some 24, _, _, _, _, _⟩) (v := ?_) rfl (by kernel_rfl) (by kernel_rfl) (by kernel_rfl) (fun _ _ _ h => h) (Or.inl ⟨by kernel_rfl, ?_⟩) hHeld ?_
        rotate_left
        focus (intro W hS; obtain ⟨v, hbx⟩ := hS.bx; have c0 := hbx.at_ (j := 0) rfl; have c1 := hbx.at_ (j := 1) rfl; have c2 := hbx.at_ (j := 2) rfl; clear hbx; clear hS; first | (go_simp; done) | (go_simp; with_reducible rfl))
        try simp only [Act.put, List.setIfInBounds_toArray, List.set_cons_zero, List.set_cons_succ]
        refine wpAnyH_take (i := 7) (oi := ⟨some 25, _, _, _, _, _⟩) (v := ?_) rfl (by kernel_rfl) (by kernel_rfl) (by kernel_rfl) (fun _ _ _ h => h) (Or.inl ⟨by kernel_rfl, ?_⟩) hHeld ?_
        rotate_left
        focus (intro W hS; obtain ⟨v, hbx⟩ := hS.bx; have c0 := hbx.at_ (j := 0) rfl; have c1 := hbx.at_ (j := 1) rfl; have c2 := hbx.at_ (j := 2) rfl; clear hbx; clear hS; first | (go_simp; done) | (go_simp; with_reducible rfl))
        try simp only [Act.put, List.setIfInBounds_toArray, List.set_cons_zero, List.set_cons_succ]
        refine wpAnyH_ready (rs := [1, 8]) (by kernel_rfl) (by simp) ?_
        refine AllReadyH.cons (o := ⟨some 19, _, _, _, _, _⟩) rfl (fun K hK => ?_) ?_
        · skip
          go_simp
          refine Calls.mono (C20.out _ (pow10_below hT hHeld.below)) ?_
          rintro e x1 ⟨gKb, rfl, GKb, hb1⟩
          refine hK.out _ _ (DeedW.new hHeld hb1) (fun hHeld' => ?_)
          clear hK K hHeld hb1
          have hHeld := hHeld'
          clear hHeld'
          try simp only [Act.put, List.setIfInBounds_toArray, List.set_cons_zero, List.set_cons_succ]
          refine wpAnyH_ready (rs := [8]) (by kernel_rfl) (by simp) ?_
          refine AllReadyH.cons (o := ⟨some 26, _, _, _, _, _⟩) rfl (fun K hK => ?_) AllReadyH.nil
          go_simp
          have GVb := box_new (x1) 3 #[.int .i64 2, .int .i64 x.f0, .int .i64 x.f1, .int .i64 x.f2]
          have hb1 := (Below.refl (x1).heap.size (x1)).alloc (Nat.le_refl _) (.cells #[.int .i64 2, .int .i64 x.f0, .int .i64 x.f1, .int .i64 x.f2] 3)
          have LVb : w.heap.size ≤ (x1).heap.size := by have := (hHeld).size; omega
          have NKbVb : gKb < (x1).heap.size := GKb.lt
          replace GKb := GKb.new hb1
          generalize (x1).alloc (.cells #[.int .i64 2, .int .i64 x.f0, .int .i64 x.f1, .int .i64 x.f2] 3) = x2 at hb1 GVb GKb ⊢
          generalize hg : (x1).heap.size = gVb at GVb LVb NKbVb ⊢
          clear hg
          refine hK.out _ _ (DeedW.new hHeld hb1) (fun hHeld' => ?_)
          clear hK K hHeld hb1
          have hHeld := hHeld'
          clear hHeld'
          try simp only [Act.put, List.setIfInBounds_toArray, List.set_cons_zero, List.set_cons_succ]
          refine wpAnyH_ready (rs := [9]) (by kernel_rfl) (by simp) ?_
          refine AllReadyH.cons (o := ⟨some 27, _, _, _, _, _⟩) rfl (fun K hK => ?_) AllReadyH.nil
          go_simp
          refine Calls.mono (C21.out _ _ GKb GVb) ?_
          rintro e x3 ⟨rfl, hb1⟩
          replace GKb := GKb.new hb1
          replace GVb := GVb.new hb1
          refine hK.out _ _ (DeedW.new hHeld hb1) (fun hHeld' => ?_)
          clear hK K hHeld hb1
          have hHeld := hHeld'
          clear hHeld'
          try simp only [Act.put, List.setIfInBounds_toArray, List.set_cons_zero, List.set_cons_succ]
          refine wpAnyH_take (i := 10) (oi := ⟨some 28, _, _, _, _, _⟩) (v := ?_) rfl (by kernel_rfl) (by kernel_rfl) (by kernel_rfl) (fun _ _ _ h => h) (Or.inl ⟨by kernel_rfl, ?_⟩) hHeld ?_
          rotate_left
          focus (intro W hS; obtain ⟨v, hbx⟩ := hS.bx; have c0 := hbx.at_ (j := 0) rfl; have c1 := hbx.at_ (j := 1) rfl; have c2 := hbx.at_ (j := 2) rfl; clear hbx; clear hS; first | (go_simp; done) | (go_simp; with_reducible rfl))
          try simp only [Act.put, List.setIfInBounds_toArray, List.set_cons_zero, List.set_cons_succ]
          refine wpAnyH_ready (rs := [11]) (by kernel_rfl) (by simp) ?_
          refine AllReadyH.cons (o := ⟨none, _, _, _, _, _⟩) rfl (fun K hK => ?_) AllReadyH.nil
          obtain ⟨v, hbx⟩ := hHeld.bx
          have c3 := hbx.at_ (j := 4) rfl
          have f3 := hbx.free 4
          have hlt := hbx.lt
          go_simp
          have GX := bx_cell (u := .int .i64 y) (j := 4) hbx
          have GR := bx_cell_far (g := w.heap.size) (j := 4) (u := .int .i64 y) hHeld.br (by omega)
          have GB := hHeld.below.setCell (p := ⟨w.heap.size, 4, none⟩) (Nat.le_refl _) (.int .i64 y)
          refine hK.out _ _ ⟨⟨_, GX⟩, GR, GB⟩ (fun hHeld' => ?_)
          clear hK K hHeld hbx c3 f3 hHeld'
          try simp only [Act.put, List.setIfInBounds_toArray, List.set_cons_zero, List.set_cons_succ]
          refine wpAnyH_done (by kernel_rfl) ?_ _
          have HX := Lib.hid (show BoxAt _ w.heap.size 24 #[.int .i64 x.f0, .int .i64 x.f1, .int .i64 x.f2, .int .i64 z, .int .i64 y] from GX)
          have HR := Lib.hid GR
          have HB := Lib.hid GB
          clear GX GR GB
          have e0 := HX.out.at_ (j := 0) rfl
          have e1 := HX.out.at_ (j := 1) rfl
          have e2 := HX.out.at_ (j := 2) rfl
          have e3 := HX.out.at_ (j := 3) rfl
          have e4 := HX.out.at_ (j := 4) rfl
          go_wp2_with (refine wpList_store_row rfl 24 _ _ rfl (w.heap.size + 1) #[.int .i64 x.f0, .int .i64 x.f1, .int .i64 x.f2, .int .i64 z, .int .i64 y] rfl rfl 24 _ HR.out (by kernel_rfl) (by kernel_rfl) (by kernel_rfl) ?_)
          have k0 := (box_row (cs := #[.int .i64 x.f0, .int .i64 x.f1, .int .i64 x.f2, .int .i64 z, .int .i64 y]) HR.out).at_ (j := 0) rfl
          have k1 := (box_row (cs := #[.int .i64 x.f0, .int .i64 x.f1, .int .i64 x.f2, .int .i64 z, .int .i64 y]) HR.out).at_ (j := 1) rfl
          have k2 := (box_row (cs := #[.int .i64 x.f0, .int .i64 x.f1, .int .i64 x.f2, .int .i64 z, .int .i64 y]) HR.out).at_ (j := 2) rfl
          have k3 := (box_row (cs := #[.int .i64 x.f0, .int .i64 x.f1, .int .i64 x.f2, .int .i64 z, .int .i64 y]) HR.out).at_ (j := 3) rfl
          have k4 := (box_row (cs := #[.int .i64 x.f0, .int .i64 x.f1, .int .i64 x.f2, .int .i64 z, .int .i64 y]) HR.out).at_ (j := 4) rfl
          exact bodyPost_ret (v := vDeed ⟨x.f0, x.f1, x.f2, z, y⟩) (by simp [results, Tryd.results6, go_sem, k0, k1, k2, k3, k4]) rfl ⟨rfl, below_setRow HB.out (by omega) _⟩
        refine AllReadyH.cons (o := ⟨some 26, _, _, _, _, _⟩) rfl (fun K hK => ?_) ?_
        · skip
          go_simp
          have GVb := box_new (x0) 3 #[.int .i64 2, .int .i64 x.f0, .int .i64 x.f1, .int .i64 x.f2]
          have hb1 := (Below.refl (x0).heap.size (x0)).alloc (Nat.le_refl _) (.cells #[.int .i64 2, .int .i64 x.f0, .int .i64 x.f1, .int .i64 x.f2] 3)
          have LVb : w.heap.size ≤ (x0).heap.size := by have := (hHeld).size; omega
          generalize (x0).alloc (.cells #[.int .i64 2, .int .i64 x.f0, .int .i64 x.f1, .int .i64 x.f2] 3) = x1 at hb1 GVb  ⊢
          generalize hg : (x0).heap.size = gVb at GVb LVb  ⊢
          clear hg
          refine hK.out _ _ (DeedW.new hHeld hb1) (fun hHeld' => ?_)
          clear hK K hHeld hb1
          have hHeld := hHeld'
          clear hHeld'
          try simp only [Act.put, List.setIfInBounds_toArray, List.set_cons_zero, List.set_cons_succ]
          refine wpAnyH_ready (rs := [1]) (by kernel_rfl) (by simp) ?_
          refine AllReadyH.cons (o := ⟨some 19, _, _, _, _, _⟩) rfl (fun K hK => ?_) AllReadyH.nil
          go_simp
          refine Calls.mono (C20.out _ (pow10_below hT hHeld.below)) ?_
          rintro e x2 ⟨gKb, rfl, GKb, hb1⟩
          replace GVb := GVb.new hb1
          refine hK.out _ _ (DeedW.new hHeld hb1) (fun hHeld' => ?_)
          clear hK K hHeld hb1
          have hHeld := hHeld'
          clear hHeld'
          try simp only [Act.put, List.setIfInBounds_toArray, List.set_cons_zero, List.set_cons_succ]
          refine wpAnyH_ready (rs := [9]) (by kernel_rfl) (by simp) ?_
          refine AllReadyH.cons (o := ⟨some 27, _, _, _, _, _⟩) rfl (fun K hK => ?_) AllReadyH.nil
          go_simp
          refine Calls.mono (C21.out _ _ GKb GVb) ?_
          rintro e x3 ⟨rfl, hb1⟩
          replace GVb := GVb.new hb1
          replace GKb := GKb.new hb1
          refine hK.out _ _ (DeedW.new hHeld hb1) (fun hHeld' => ?_)
          clear hK K hHeld hb1
          have hHeld := hHeld'
          clear hHeld'
          try simp only [Act.put, List.setIfInBounds_toArray, List.set_cons_zero, List.set_cons_succ]
          refine wpAnyH_take (i := 10) (oi := ⟨some 28, _, _, _, _, _⟩) (v := ?_) rfl (by kernel_rfl) (by kernel_rfl) (by kernel_rfl) (fun _ _ _ h => h) (Or.inl ⟨by kernel_rfl, ?_⟩) hHeld ?_
          rotate_left
          focus (intro W hS; obtain ⟨v, hbx⟩ := hS.bx; have c0 := hbx.at_ (j := 0) rfl; have c1 := hbx.at_ (j := 1) rfl; have c2 := hbx.at_ (j := 2) rfl; clear hbx; clear hS; first | (go_simp; done) | (go_simp; with_reducible rfl))
          try simp only [Act.put, List.setIfInBounds_toArray, List.set_cons_zero, List.set_cons_succ]
          refine wpAnyH_ready (rs := [11]) (by kernel_rfl) (by simp) ?_
          refine AllReadyH.cons (o := ⟨none, _, _, _, _, _⟩) rfl (fun K hK => ?_) AllReadyH.nil
          obtain ⟨v, hbx⟩ := hHeld.bx
          have c3 := hbx.at_ (j := 4) rfl
          have f3 := hbx.free 4
          have hlt := hbx.lt
          go_simp
          have GX := bx_cell (u := .int .i64 y) (j := 4) hbx
          have GR := bx_cell_far (g := w.heap.size) (j := 4) (u := .int .i64 y) hHeld.br (by omega)
          have GB := hHeld.below.setCell (p := ⟨w.heap.size, 4, none⟩) (Nat.le_refl _) (.int .i64 y)
          refine hK.out _ _ ⟨⟨_, GX⟩, GR, GB⟩ (fun hHeld' => ?_)
          clear hK K hHeld hbx c3 f3 hHeld'
          try simp only [Act.put, List.setIfInBounds_toArray, List.set_cons_zero, List.set_cons_succ]
          refine wpAnyH_done (by kernel_rfl) ?_ _
          have HX := Lib.hid (show BoxAt _ w.heap.size 24 #[.int .i64 x.f0, .int .i64 x.f1, .int .i64 x.f2, .int .i64 z, .int .i64 y] from GX)
          have HR := Lib.hid GR
          have HB := Lib.hid GB
          clear GX GR GB
          have e0 := HX.out.at_ (j := 0) rfl
          have e1 := HX.out.at_ (j := 1) rfl
          have e2 := HX.out.at_ (j := 2) rfl
          have e3 := HX.out.at_ (j := 3) rfl
          have e4 := HX.out.at_ (j := 4) rfl
          go_wp2_with (refine wpList_store_row rfl 24 _ _ rfl (w.heap.size + 1) #[.int .i64 x.f0, .int .i64 x.f1, .int .i64 x.f2, .int .i64 z, .int .i64 y] rfl rfl 24 _ HR.out (by kernel_rfl) (by kernel_rfl) (by kernel_rfl) ?_)
          have k0 := (box_row (cs := #[.int .i64 x.f0, .int .i64 x.f1, .int .i64 x.f2, .int .i64 z, .int .i64 y]) HR.out).at_ (j := 0) rfl
          have k1 := (box_row (cs := #[.int .i64 x.f0, .int .i64 x.f1, .int .i64 x.f2, .int .i64 z, .int .i64 y]) HR.out).at_ (j := 1) rfl
          have k2 := (box_row (cs := #[.int .i64 x.f0, .int .i64 x.f1, .int .i64 x.f2, .int .i64 z, .int .i64 y]) HR.out).at_ (j := 2) rfl
          have k3 := (box_row (cs := #[.int .i64 x.f0, .int .i64 x.f1, .int .i64 x.f2, .int .i64 z, .int .i64 y]) HR.out).at_ (j := 3) rfl
          have k4 := (box_row (cs := #[.int .i64 x.f0, .int .i64 x.f1, .int .i64 x.f2, .int .i64 z, .int .i64 y]) HR.out).at_ (j := 4) rfl
          exact bodyPost_ret (v := vDeed ⟨x.f0, x.f1, x.f2, z, y⟩) (by simp [results, Tryd.results6, go_sem, k0, k1, k2, k3, k4]) rfl ⟨rfl, below_setRow HB.out (by omega) _⟩
        exact AllReadyH.nil
      exact AllReadyH.nil

end Go.Proofs.YtgemmddhkbfndaaDoor
