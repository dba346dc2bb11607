/- newMemo and newKeyring. -/
import Derived.Test.YtomoigbhikihfaaHdA
import Derived.Deep.RegionHeld3
import Derived.Deep.LoopGhost
import Derived.Test.YtomoigbhikihfaaReg
namespace Go.Proofs.Ytomoigbhikihfaa
open Go Go.ChangeShapes Go.WideShapes Go.ChangeAt Go.RowKit Go.Lib
set_option linter.unusedVariables false
set_option linter.unusedSimpArgs false
set_option maxRecDepth 100000
theorem store_fn (W : World) (a : Addr) (g : Nat) (cs : Array Value) (m : Mode) : (store a (.func (.func g) #[] cs) m).run Try.prog W = stored Try.prog W a (.func (.func g) #[] cs) m := run_store Try.prog W a _ m rfl
def Memos (s y : Int) (w : World) (e : Ending) (w' : World) : Prop :=
  ∃ M, e = .returned (.agg #[.map (some M), (.func (.func 77) #[] #[])]) ∧ MapH w' M 0 s y (mHandle s y) ∧ w.heap.size ≤ M ∧ Below w.heap.size w w'
set_option maxHeartbeats 4000000 in
theorem newMemo_any (s y : Int) (w : World) : Calls Try.prog 76 #[(.func (.func 77) #[] #[])] w (Memos s y w) := by
  have hmm := make_map3
  have hst := fun (W : World) (a : Addr) (cs : Array Value) (m : Mode) => store_fn W a 77 cs m
  have hMM : Hid (MapH ((w.alloc (.cells #[.map (some (w.heap.size + 1)), (.func (.func 77) #[] #[])] 75)).alloc (.map #[] 0)) (w.heap.size + 1) 0 s y (mHandle s y)) := Lib.hid (by simpa using mapH_made (w.alloc (.cells #[.map (some (w.heap.size + 1)), (.func (.func 77) #[] #[])] 75)) s y (mHandle s y))
  have KZ := Lib.hid ((box_new w 75 #[.map (some (w.heap.size + 1)), (.func (.func 77) #[] #[])]).alloc_ (.map #[] 0))
  have HB := Lib.hid (show Below w.heap.size w ((w.alloc (.cells #[.map (some (w.heap.size + 1)), (.func (.func 77) #[] #[])] 75)).alloc (.map #[] 0)) from ((Below.refl _ _).alloc (Nat.le_refl _) _).alloc (by simp) _)
  go_enter Try.func76, Try.ntmps76
  go_wp2_with fail
  have z0 := KZ.out.at_ (j := 0) (u := .map (some (w.heap.size + 1))) rfl
  have z1 := KZ.out.at_ (j := 1) (u := (.func (.func 77) #[] #[])) rfl
  exact bodyPost_ret (v := .agg #[.map (some (w.heap.size + 1)), (.func (.func 77) #[] #[])]) (by simp [results, Try.results76, go_sem, z0, z1]) rfl ⟨w.heap.size + 1, rfl, hMM.out, by omega, HB.out⟩
/-- A keyring: what a world sees, and a memo of its handles. -/
def Rings (l : List TNode) (h : List Int) (s y : Int) (w : World) (e : Ending) (w' : World) : Prop :=
  ∃ A m c M, m = (mSeen l h y).length ∧ e = .returned (.agg #[.slice A m c, .int .i64 s, .int .i64 y, .map (some M), (.func (.func 77) #[] #[])]) ∧ Fr w' (M + 1) w'.heap.size 54 5 A m c (cNode (mSeen l h y)) ∧ MapH w' M 0 s y (mHandle s y) ∧ w.heap.size ≤ M ∧ Below w.heap.size w w'
set_option maxHeartbeats 8000000 in
theorem ring_any (l : List TNode) (A : Option Addr) (n c lo hi : Nat) (h : List Int) (A1 : Option Addr) (n1 c1 lo1 hi1 : Nat) (s y : Int) (w : World) (hn : n ≤ 1048576) (hr : Rd w lo hi 5 A n (cNode l)) (hcap : n ≤ c) (hok : Hid (cNodeOk l)) (hn1 : n1 ≤ 1048576) (hr1 : Rd w lo1 hi1 1 A1 n1 (i64s h)) (hcap1 : n1 ≤ c1) (hok1 : Hid (I64s h)) (hs : (Lit.int .i64 s).wf = true) (hy : (Lit.int .i64 y).wf = true) :
    Calls Try.prog 57 #[.slice A n c, .slice A1 n1 c1, .int .i64 s, .int .i64 y] w (Rings l h s y w) := by
  have CS := Lib.hid (fun W (hW : Below w.heap.size w W) => impl_SeenByC l A n c lo hi h A1 n1 c1 lo1 hi1 y W hn (hr.new hW) hcap hok hn1 (hr1.new hW) hcap1 hok1 hy)
  have KZ := Lib.hid (box_new w 77 #[.slice none 0 0, .int .i64 0, .int .i64 0, .map none, .nilFunc])
  have HB0 := Lib.hid ((Below.refl w.heap.size w).alloc (Nat.le_refl _) (.cells #[.slice none 0 0, .int .i64 0, .int .i64 0, .map none, .nilFunc] 77))
  have hst := fun (W : World) (a : Addr) (cs : Array Value) (m : Mode) => store_fn W a 77 cs m
  clear hr hr1 hs hy
  go_enter Try.func57, Try.ntmps57
  go_wp2_with fail
  refine (newMemo_any s y _).mono ?_
  rintro e1 w1 ⟨gM, rfl, hM1, hMl, hb1⟩
  rw [World.size_alloc] at hMl
  have hMw : gM < w1.heap.size := hM1.lt
  have KMv := Lib.hid (box_new w1 75 #[.map (some gM), (.func (.func 77) #[] #[])])
  have Kr := Lib.hid ((KZ.out.new hb1).alloc_ (.cells #[.map (some gM), (.func (.func 77) #[] #[])] 75))
  have HMv := Lib.hid (hM1.alloc_ (.cells #[.map (some gM), (.func (.func 77) #[] #[])] 75))
  have HB1 := Lib.hid (below_trans HB0.out hb1 (by simp))
  have HBv := Lib.hid (HB1.out.alloc HB1.out.size (.cells #[.map (some gM), (.func (.func 77) #[] #[])] 75))
  clear hb1 hM1 KZ HB0 HB1
  obtain ⟨gres, hgres⟩ : ∃ g, g = w.heap.size := ⟨_, rfl⟩
  have Gres : BoxAt (w1.alloc (.cells #[.map (some gM), (.func (.func 77) #[] #[])] 75)).drew gres 77 #[.slice none 0 0, .int .i64 0, .int .i64 0, .map none, .nilFunc] := by rw [hgres]; exact Kr.out.drw
  have GM : MapH (w1.alloc (.cells #[.map (some gM), (.func (.func 77) #[] #[])] 75)).drew gM 0 s y (mHandle s y) := HMv.out
  go_wp2_with fail
  rw [← hgres]
  have Lres : w.heap.size ≤ gres := by omega
  have hgM : gres + 1 ≤ gM := by omega
  have hgM2 : w.heap.size ≤ gM := by omega
  have hg1 : w1.heap.size ≠ gres := by omega
  clear hgres Kr HMv
  refine wp_region_held_drew (S := fun w' => BoxAt w' w1.heap.size 75 #[.map (some gM), (.func (.func 77) #[] #[])] ∧ Below w.heap.size w w') (by kernel_rfl) ?_ (fun hHeld => ?_)
  · exact ⟨KMv.out.drw, HBv.out.drew⟩
  generalize (World.drew _) = x0 at hHeld Gres GM ⊢
  refine wpAnyH_take (i := 0) (oi := ⟨some 11, _, _, _, _, _⟩) (v := ?_) rfl (by kernel_rfl) (by kernel_rfl) (by kernel_rfl) (fun _ _ _ h => h) (Or.inl ⟨by kernel_rfl, ?_⟩) hHeld ?_
  rotate_left
  focus (intro W hS; have c0_0 := (hS.1).at_ (j := 0) rfl; have c0_1 := (hS.1).at_ (j := 1) rfl; clear hS; first | (go_simp; done) | (go_simp; with_reducible rfl))
  try simp only [Act.put, List.setIfInBounds_toArray, List.set_cons_zero, List.set_cons_succ]
  refine wpAnyH_take (i := 1) (oi := ⟨some 12, _, _, _, _, _⟩) (v := ?_) rfl (by kernel_rfl) (by kernel_rfl) (by kernel_rfl) (fun _ _ _ h => h) (Or.inl ⟨by kernel_rfl, ?_⟩) hHeld ?_
  rotate_left
  focus (intro W hS; have c0_0 := (hS.1).at_ (j := 0) rfl; have c0_1 := (hS.1).at_ (j := 1) rfl; clear hS; first | (go_simp; done) | (go_simp; with_reducible rfl))
  try simp only [Act.put, List.setIfInBounds_toArray, List.set_cons_zero, List.set_cons_succ]
  refine wpAnyH_take (i := 2) (oi := ⟨some 13, _, _, _, _, _⟩) (v := ?_) rfl (by kernel_rfl) (by kernel_rfl) (by kernel_rfl) (fun _ _ _ h => h) (Or.inl ⟨by kernel_rfl, ?_⟩) hHeld ?_
  rotate_left
  focus (intro W hS; have c0_0 := (hS.1).at_ (j := 0) rfl; have c0_1 := (hS.1).at_ (j := 1) rfl; clear hS; first | (go_simp; done) | (go_simp; with_reducible rfl))
  try simp only [Act.put, List.setIfInBounds_toArray, List.set_cons_zero, List.set_cons_succ]
  refine wpAnyH_take (i := 4) (oi := ⟨some 15, _, _, _, _, _⟩) (v := ?_) rfl (by kernel_rfl) (by kernel_rfl) (by kernel_rfl) (fun _ _ _ h => h) (Or.inl ⟨by kernel_rfl, ?_⟩) hHeld ?_
  rotate_left
  focus (intro W hS; have c0_0 := (hS.1).at_ (j := 0) rfl; have c0_1 := (hS.1).at_ (j := 1) rfl; clear hS; first | (go_simp; done) | (go_simp; with_reducible rfl))
  try simp only [Act.put, List.setIfInBounds_toArray, List.set_cons_zero, List.set_cons_succ]
  refine wpAnyH_take (i := 5) (oi := ⟨some 16, _, _, _, _, _⟩) (v := ?_) rfl (by kernel_rfl) (by kernel_rfl) (by kernel_rfl) (fun _ _ _ h => h) (Or.inl ⟨by kernel_rfl, ?_⟩) hHeld ?_
  rotate_left
  focus (intro W hS; have c0_0 := (hS.1).at_ (j := 0) rfl; have c0_1 := (hS.1).at_ (j := 1) rfl; clear hS; first | (go_simp; done) | (go_simp; with_reducible rfl))
  try simp only [Act.put, List.setIfInBounds_toArray, List.set_cons_zero, List.set_cons_succ]
  refine wpAnyH_take (i := 6) (oi := ⟨some 17, _, _, _, _, _⟩) (v := ?_) rfl (by kernel_rfl) (by kernel_rfl) (by kernel_rfl) (fun _ _ _ h => h) (Or.inl ⟨by kernel_rfl, ?_⟩) hHeld ?_
  rotate_left
  focus (intro W hS; have c0_0 := (hS.1).at_ (j := 0) rfl; have c0_1 := (hS.1).at_ (j := 1) rfl; clear hS; first | (go_simp; done) | (go_simp; with_reducible rfl))
  try simp only [Act.put, List.setIfInBounds_toArray, List.set_cons_zero, List.set_cons_succ]
  refine wpAnyH_ready (rs := [3]) (by kernel_rfl) (by simp) ?_
  refine AllReadyH.cons (o := ⟨some 14, _, _, _, _, _⟩) rfl (fun K hK => ?_) AllReadyH.nil
  go_simp
  have PresS : gres < (x0).heap.size := Gres.lt
  have PMS : gM < (x0).heap.size := GM.lt
  refine Calls.mono (CS.out _ hHeld.2) ?_
  rintro e x1 ⟨A', c', rfl, GS, hb1⟩
  replace Gres := Gres.new hb1
  replace GM := GM.new hb1
  refine hK.out _ _ ⟨hHeld.1.new hb1, below_trans hHeld.2 hb1 (Nat.le_refl _)⟩ (fun hHeld' => ?_)
  have Z1 := hb1.size
  clear hK K hHeld hb1
  have hHeld := hHeld'
  clear hHeld'
  try simp only [Act.put, List.setIfInBounds_toArray, List.set_cons_zero, List.set_cons_succ]
  refine wpAnyH_take (i := 7) (oi := ⟨some 18, _, _, _, _, _⟩) (v := ?_) rfl (by kernel_rfl) (by kernel_rfl) (by kernel_rfl) (fun _ _ _ h => h) (Or.inl ⟨by kernel_rfl, ?_⟩) hHeld ?_
  rotate_left
  focus (intro W hS; have c0_0 := (hS.1).at_ (j := 0) rfl; have c0_1 := (hS.1).at_ (j := 1) rfl; clear hS; first | (go_simp; done) | (go_simp; with_reducible rfl))
  try simp only [Act.put, List.setIfInBounds_toArray, List.set_cons_zero, List.set_cons_succ]
  refine wpAnyH_ready (rs := [8]) (by kernel_rfl) (by simp) ?_
  refine AllReadyH.cons (o := ⟨none, _, _, _, _, _⟩) rfl (fun K hK => ?_) AllReadyH.nil
  rw [if_pos (by rfl)]
  refine wp_store_row 77 _ _ rfl gres #[.slice A' (mSeen l h y).length c', .int .i64 s, .int .i64 y, .map (some gM), (.func (.func 77) #[] #[])] rfl rfl 77 _ Gres (by kernel_rfl) (by kernel_rfl) (by kernel_rfl) ?_
  replace Gres := box_row (cs := #[.slice A' (mSeen l h y).length c', .int .i64 s, .int .i64 y, .map (some gM), (.func (.func 77) #[] #[])]) Gres
  have hc1 := chg_row x1 gres #[.slice A' (mSeen l h y).length c', .int .i64 s, .int .i64 y, .map (some gM), (.func (.func 77) #[] #[])]
  have hHeld2 : BoxAt (World.setRow x1 gres #[.slice A' (mSeen l h y).length c', .int .i64 s, .int .i64 y, .map (some gM), (.func (.func 77) #[] #[])]) w1.heap.size 75 #[.map (some gM), (.func (.func 77) #[] #[])] ∧ Below w.heap.size w (World.setRow x1 gres #[.slice A' (mSeen l h y).length c', .int .i64 s, .int .i64 y, .map (some gM), (.func (.func 77) #[] #[])]) := ⟨hHeld.1.chg hc1 (by omega), below_setRow hHeld.2 (by omega) _⟩
  replace GM := GM.chg hc1 (by omega)
  replace GS := GS.chg hc1 (by omega)
  clear hc1
  have Z2 : (x1).heap.size ≤ (World.setRow x1 gres #[.slice A' (mSeen l h y).length c', .int .i64 s, .int .i64 y, .map (some gM), (.func (.func 77) #[] #[])]).heap.size := by simp
  generalize World.setRow x1 gres #[.slice A' (mSeen l h y).length c', .int .i64 s, .int .i64 y, .map (some gM), (.func (.func 77) #[] #[])] = x2 at hHeld2 Gres GM GS Z2 ⊢
  refine hK.out _ _ hHeld2 (fun hHeld' => ?_)
  clear hHeld2
  clear hK K hHeld
  have hHeld := hHeld'
  clear hHeld'
  try simp only [Act.put, List.setIfInBounds_toArray, List.set_cons_zero, List.set_cons_succ]
  refine wpAnyH_done (by kernel_rfl) ?_ _
  go_wp2_with fail
  have k0 := Gres.at_ (j := 0) rfl
  have k1 := Gres.at_ (j := 1) rfl
  have k2 := Gres.at_ (j := 2) rfl
  have k3 := Gres.at_ (j := 3) rfl
  have k4 := Gres.at_ (j := 4) rfl
  have hHB := hHeld.2
  clear hHeld
  exact bodyPost_ret (v := .agg #[.slice A' (mSeen l h y).length c', .int .i64 s, .int .i64 y, .map (some gM), (.func (.func 77) #[] #[])]) (by simp [results, Try.results57, go_sem, k0, k1, k2, k3, k4]) rfl ⟨A', _, c', gM, rfl, rfl, GS.mono (by omega) (by omega), GM, by omega, hHB⟩
end Go.Proofs.Ytomoigbhikihfaa
