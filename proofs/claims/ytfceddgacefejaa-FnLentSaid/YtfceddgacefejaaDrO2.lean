/- DrawLendTo. No condition of its own. -/
import Derived.Test.YtfceddgacefejaaDrO
import Derived.Deep.Cut
import Derived.Deep.RegionHeld3
namespace Go.Proofs.Ytfceddgacefejaa
open Go Go.ChangeShapes Go.WideShapes Go.ChangeAt Go.RowKit Go.Lib
set_option linter.unusedVariables false
set_option linter.unusedSimpArgs false
set_option maxRecDepth 100000
/-- A list of grants, an extension, a site and a time are drawn. -/
def DrawnLT (w : World) (e : Ending) (w' : World) : Prop :=
  ∃ (A : Option Addr) (c : Nat) (l : List TGrant) (x : Int) (s : TSite) (t : Int), e = .returned (.tuple #[.slice A l.length c, .int .i64 x, .agg #[.int .i64 s.f0, .int .i64 s.f1], .int .i64 t]) ∧ l.length ≤ 15 ∧ (∀ y ∈ l, y.fit) ∧ 0 ≤ x ∧ x ≤ 6 ∧ s.fit ∧ -1 ≤ t ∧ t ≤ 9996 ∧ Rd w' w.heap.size w'.heap.size 7 A l.length (cGrant l) ∧ Below w.heap.size w w'
set_option maxHeartbeats 32000000 in
theorem drawLT_any (n cap : Nat) (A : Option Addr) (w : World) (hn : n ≤ 140737488355328) (hb : BytesAt w w.heap.size A n) :
    Calls Try.prog 29 #[.slice A n cap] w (DrawnLT w) := by
  have hn' : n ≤ maxLen := by unfold maxLen; omega
  have HY := Lib.hid hb
  have R0 := Lib.hid (show BoxAt (w.alloc (.cells #[.int .i64 0, .int .i64 0] 27)) w.heap.size 27 #[.int .i64 0, .int .i64 0] from by simpa using box_new w 27 #[.int .i64 0, .int .i64 0])
  have HB := Lib.hid ((Below.refl w.heap.size w).alloc (by first | exact Nat.le_refl _ | (simp; done) | (simp; omega)) (.cells #[.int .i64 0, .int .i64 0] 27))
  clear hb
  go_enter Try.func29, Try.ntmps29
  go_wp2_with fail
  refine Calls.mono (dr_new n cap A w _ (w.heap.size + 1) (by simp) hn HY.out HB.out) ?_
  rintro e w1 ⟨rfl, hc, hb1⟩
  have HC := Lib.hid hc
  replace R0 := Lib.hid (dr_box_low R0.out hb1 (by omega))
  replace HB := Lib.hid (HB.out.trans (hb1.mono (by omega)))
  have l1 : (w.heap.size + 1) < w1.heap.size := HC.out.lt
  clear hc hb1
  go_wp2_with fail
  refine Calls.mono (drawEL_any n cap A _ hn (bytes_below HY.out HB.out)) ?_
  rintro e w2 ⟨v, l, s0, rfl, hl, hu, hs0, ho, hb2⟩
  have hg := dr_low (g := (w.heap.size + 1)) (World.grownBy.refl w1 _) (Nat.le_refl _) hb2
  have hc := dr_cur_low HC.out l1 hb2
  have s2_ : w1.heap.size ≤ w2.heap.size := hb2.size
  clear hb2
  replace R0 := Lib.hid (R0.out.grown hg (by omega))
  replace HB := Lib.hid (dr_below HB.out (by omega) hg)
  replace HC := Lib.hid hc
  have l2 : (w.heap.size + 1) < w2.heap.size := HC.out.lt
  clear hc hg
  have HO := Lib.hid ho
  have HU := Lib.hid hu
  clear ho hu
  obtain ⟨A', c', rfl, hF⟩ := fr_of_own HO.out
  have HF := Lib.hid hF
  clear hF
  have NK := Lib.hid (show ∀ j, (Value.slice A' l.length c').ownBlock = some j → j < w2.heap.size from fun j e => (HO.out.lt j e).2)
  obtain ⟨x2, hx⟩ : ∃ x, x = World.setRow (w2.alloc (.cells #[.int .i64 0, .int .i64 0] 27)) w2.heap.size #[.int .i64 s0.f0, .int .i64 s0.f1] := ⟨_, rfl⟩
  have HX2 := Lib.hid hx
  have OLD2 := Lib.hid (box_new w2 27 #[.int .i64 0, .int .i64 0])
  replace R0 := Lib.hid (show BoxAt x2 w.heap.size 27 #[.int .i64 0, .int .i64 0] by rw [hx]; exact box_far (R0.out.alloc_ _) (by omega))
  have KX := Lib.hid (show BoxAt x2 w2.heap.size 27 #[.int .i64 s0.f0, .int .i64 s0.f1] by rw [hx]; exact box_row OLD2.out)
  replace HO := Lib.hid (show World.ownsRow x2 w1.heap.size 35 7 (Value.slice A' l.length c') l.length (l.flatMap TGrant.cells) by rw [hx]; exact own_newer HO.out ⟨rfl, rfl, rfl, by simp, fun i hi => (setRow_other _ _ i _ (by omega)).trans (Below.heap_alloc _ _ i hi)⟩)
  replace HC := Lib.hid (show Cur x2 (w.heap.size + 1) A n cap by rw [hx]; exact dr_cur_row (HC.out.new _) (by omega) _)
  replace HB := Lib.hid (show Below w.heap.size w x2 by rw [hx]; exact below_setRow (HB.out.alloc (by have := HB.out.size; omega) _) (by omega) _)
  have m2 : w2.heap.size < x2.heap.size := KX.out.lt
  clear hx
  clear KX hs0
  have s22 : w2.heap.size ≤ x2.heap.size := by have := m2; omega
  go_wp2_with (refine wpList_store_row rfl 27 _ _ rfl w2.heap.size #[.int .i64 s0.f0, .int .i64 s0.f1] rfl rfl 27 _ OLD2.out (by kernel_rfl) (by kernel_rfl) (by kernel_rfl) ?_; rw [← HX2.out]; clear HX2 OLD2)
  refine Calls.mono (drawLG_any n cap A _ hn (bytes_below HY.out HB.out)) ?_
  rintro e w3 ⟨e0, d, t0, rfl, he0, he1, hd, hta, htb, hb2⟩
  have lX := HC.out.lt
  have hg := dr_low (g := (w.heap.size + 1)) (World.grownBy.refl x2 _) (Nat.le_refl _) hb2
  have hc := dr_cur_low HC.out lX hb2
  have s3_ : x2.heap.size ≤ w3.heap.size := hb2.size
  clear hb2
  replace R0 := Lib.hid (R0.out.grown hg (by omega))
  replace HO := Lib.hid (dr_own HO.out (by omega) hg)
  replace HB := Lib.hid (dr_below HB.out (by omega) hg)
  replace HC := Lib.hid hc
  have l3 : (w.heap.size + 1) < w3.heap.size := HC.out.lt
  clear hc hg
  obtain ⟨x3, hx⟩ : ∃ x, x = World.setRow (w3.alloc (.cells #[.int .i64 0, .int .i64 0] 27)) w3.heap.size #[.int .i64 d.f0, .int .i64 d.f1] := ⟨_, rfl⟩
  have HX3 := Lib.hid hx
  have OLD3 := Lib.hid (box_new w3 27 #[.int .i64 0, .int .i64 0])
  replace R0 := Lib.hid (show BoxAt x3 w.heap.size 27 #[.int .i64 0, .int .i64 0] by rw [hx]; exact box_far (R0.out.alloc_ _) (by omega))
  have KG := Lib.hid (show BoxAt x3 w3.heap.size 27 #[.int .i64 d.f0, .int .i64 d.f1] by rw [hx]; exact box_row OLD3.out)
  replace HO := Lib.hid (show World.ownsRow x3 w1.heap.size 35 7 (Value.slice A' l.length c') l.length (l.flatMap TGrant.cells) by rw [hx]; exact own_newer HO.out ⟨rfl, rfl, rfl, by simp, fun i hi => (setRow_other _ _ i _ (by omega)).trans (Below.heap_alloc _ _ i hi)⟩)
  replace HC := Lib.hid (show Cur x3 (w.heap.size + 1) A n cap by rw [hx]; exact dr_cur_row (HC.out.new _) (by omega) _)
  replace HB := Lib.hid (show Below w.heap.size w x3 by rw [hx]; exact below_setRow (HB.out.alloc (by have := HB.out.size; omega) _) (by omega) _)
  have m3 : w3.heap.size < x3.heap.size := KG.out.lt
  clear hx
  have HFX := Lib.hid hd
  clear hd
  go_wp2_with (refine wpList_store_row rfl 27 _ _ rfl w3.heap.size #[.int .i64 d.f0, .int .i64 d.f1] rfl rfl 27 _ OLD3.out (by kernel_rfl) (by kernel_rfl) (by kernel_rfl) ?_; rw [← HX3.out]; clear HX3 OLD3)
  refine Calls.mono (once_any (w.heap.size + 1) n cap A 12 _ hn' HC.out (by omega) (by omega)) ?_
  rintro e w4 ⟨b2, rfl, hc, hg⟩
  replace R0 := Lib.hid (R0.out.grown hg (by omega))
  replace KG := Lib.hid (KG.out.grown hg (by omega))
  replace HO := Lib.hid (dr_own HO.out (by omega) hg)
  replace HB := Lib.hid (dr_below HB.out (by omega) hg)
  replace HC := Lib.hid hc
  have l4 : (w.heap.size + 1) < w4.heap.size := HC.out.lt
  clear hc hg
  cases b2
  · skip
    go_upto_region 7 with fail
    refine wp_region_held_drew (S := fun w' => BoxAt w' w3.heap.size 27 #[.int .i64 d.f0, .int .i64 d.f1] ∧ DatO w (w.heap.size + 1) A n cap [(w.heap.size, 27, 2)] w1.heap.size 35 7 (Value.slice A' l.length c') l.length (l.flatMap TGrant.cells) w') (by kernel_rfl) ?_ (fun hHeld => ?_)
    · exact ⟨KG.out.drw, (DatO.mk_ HO.out (by omega) (rs := [(w.heap.size, 27, 2)]) HB.out HC.out (by simp only [List.mem_cons, List.not_mem_nil, or_false, forall_eq_or_imp, forall_eq]; exact ⟨_, rfl, R0.out⟩)).drw⟩
    refine wpAnyH_take (i := 0) (oi := ⟨some 36, _, _, _, _, _⟩) (v := ?_) rfl (by kernel_rfl) (by kernel_rfl) (by kernel_rfl) (fun _ _ _ h => h) (Or.inl ⟨by kernel_rfl, ?_⟩) hHeld ?_
    rotate_left
    focus (intro W hS; skip; clear hS; first | (go_simp; done) | (go_simp; with_reducible rfl))
    try simp only [Act.put, List.setIfInBounds_toArray, List.set_cons_zero, List.set_cons_succ]
    refine wpAnyH_take (i := 1) (oi := ⟨some 37, _, _, _, _, _⟩) (v := ?_) rfl (by kernel_rfl) (by kernel_rfl) (by kernel_rfl) (fun _ _ _ h => h) (Or.inl ⟨by kernel_rfl, ?_⟩) hHeld ?_
    rotate_left
    focus (intro W hS; skip; clear hS; first | (go_simp; done) | (go_simp; with_reducible rfl))
    try simp only [Act.put, List.setIfInBounds_toArray, List.set_cons_zero, List.set_cons_succ]
    refine wpAnyH_take (i := 2) (oi := ⟨some 38, _, _, _, _, _⟩) (v := ?_) rfl (by kernel_rfl) (by kernel_rfl) (by kernel_rfl) (fun _ _ _ h => h) (Or.inl ⟨by kernel_rfl, ?_⟩) hHeld ?_
    rotate_left
    focus (intro W hS; have c0_0 := (hS.1).at_ (j := 0) rfl; have c0_1 := (hS.1).at_ (j := 1) rfl; clear hS; first | (go_simp; done) | (go_simp; with_reducible rfl))
    try simp only [Act.put, List.setIfInBounds_toArray, List.set_cons_zero, List.set_cons_succ]
    refine wpAnyH_take (i := 3) (oi := ⟨some 39, _, _, _, _, _⟩) (v := ?_) rfl (by kernel_rfl) (by kernel_rfl) (by kernel_rfl) (fun _ _ _ h => h) (Or.inl ⟨by kernel_rfl, ?_⟩) hHeld ?_
    rotate_left
    focus (intro W hS; skip; clear hS; first | (go_simp; done) | (go_simp; with_reducible rfl))
    try simp only [Act.put, List.setIfInBounds_toArray, List.set_cons_zero, List.set_cons_succ]
    refine wpAnyH_take (i := 4) (oi := ⟨some 2, _, _, _, _, _⟩) (v := ?_) rfl (by kernel_rfl) (by kernel_rfl) (by kernel_rfl) (fun _ _ _ h => h) (Or.inl ⟨by kernel_rfl, ?_⟩) hHeld ?_
    rotate_left
    focus (intro W hS; skip; clear hS; first | (go_simp; done) | (go_simp; with_reducible rfl))
    try simp only [Act.put, List.setIfInBounds_toArray, List.set_cons_zero, List.set_cons_succ]
    refine wpAnyH_take (i := 5) (oi := ⟨some 3, _, _, _, _, _⟩) (v := ?_) rfl (by kernel_rfl) (by kernel_rfl) (by kernel_rfl) (fun _ _ _ h => h) (Or.inl ⟨by kernel_rfl, ?_⟩) hHeld ?_
    rotate_left
    focus (intro W hS; skip; clear hS; first | (go_simp; done) | (go_simp; with_reducible rfl))
    try simp only [Act.put, List.setIfInBounds_toArray, List.set_cons_zero, List.set_cons_succ]
    refine wpAnyH_ready (rs := [6]) (by kernel_rfl) (by simp) ?_
    refine AllReadyH.cons (o := ⟨none, _, _, _, _, _⟩) rfl (fun K hK => ?_) AllReadyH.nil
    rw [if_pos (by rfl)]
    obtain ⟨cz0, hs0, hz0⟩ := hHeld.2.1.1 (w.heap.size, 27, 2) (by simp)
    refine wp_store_row 27 _ _ rfl w.heap.size #[.int .i64 d.f0, .int .i64 d.f1] rfl rfl 27 _ hz0 (by kernel_rfl) hs0 (by kernel_rfl) ?_
    have G_R0 := box_row (cs := #[.int .i64 d.f0, .int .i64 d.f1]) hz0
    have hHeld2 := hHeld.2.row w.heap.size (by omega) (by omega) #[.int .i64 d.f0, .int .i64 d.f1] (by simp)
    have hb0 := box_far (cs := #[.int .i64 d.f0, .int .i64 d.f1]) (g := w.heap.size) hHeld.1 (by omega)
    clear hz0
    generalize World.setRow _ w.heap.size #[.int .i64 d.f0, .int .i64 d.f1] = v1 at G_R0 hHeld2 hb0 ⊢
    refine hK.out _ _ ⟨hb0, hHeld2⟩ (fun hHeld' => ?_)
    clear hK K hHeld hHeld2 hb0; have hHeld := hHeld'; clear hHeld'
    try simp only [Act.put, List.setIfInBounds_toArray, List.set_cons_zero, List.set_cons_succ]
    refine wpAnyH_take (i := 7) (oi := ⟨some 5, _, _, _, _, _⟩) (v := ?_) rfl (by kernel_rfl) (by kernel_rfl) (by kernel_rfl) (fun _ _ _ h => h) (Or.inl ⟨by kernel_rfl, ?_⟩) hHeld ?_
    rotate_left
    focus (intro W hS; skip; clear hS; first | (go_simp; done) | (go_simp; with_reducible rfl))
    try simp only [Act.put, List.setIfInBounds_toArray, List.set_cons_zero, List.set_cons_succ]
    refine wpAnyH_done (by kernel_rfl) ?_ _
    have r0 := G_R0.at_ (j := 0) rfl
    have r1 := G_R0.at_ (j := 1) rfl
    have HBE := hHeld.2.1.2.2
    obtain ⟨A8, c8, hv8, hF8⟩ := fr_of_own hHeld.2.2.1
    injection hv8 with q1 q2 q3
    subst q1 q3
    have HR9 := hF8.rd.mono (lo' := w.heap.size) (hi' := v1.heap.size) (by omega) (Nat.le_refl _)
    clear hHeld hF8 q2
    go_wp2_with fail
    exact bodyPost_ret (v := .tuple #[.slice A' l.length c', .int .i64 e0, .agg #[.int .i64 d.f0, .int .i64 d.f1], .int .i64 t0]) (by simp [results, Try.results29, go_sem, r0, r1]) rfl ⟨_, _, l, e0, d, t0, rfl, by omega, HU.out, he0, he1, HFX.out, hta, htb, HR9, HBE⟩
  · skip
    have HN := Lib.hid (show (Value.slice A' l.length c').ownBlock ≠ some w3.heap.size from by
      intro e
      have := NK.out _ e
      omega)
    go_wp2_with fail
    go_loopg [7] (15 - l.length) (fun gg u wr => ∃ l : List TGrant, 15 - l.length ≤ gg ∧ l.length ≤ 15 ∧ Hid (∀ x ∈ l, TGrant.fit x) ∧ Hid (wr.ownsRow w1.heap.size 35 7 u l.length (l.flatMap TGrant.cells)) ∧ Hid (u.ownBlock ≠ some w3.heap.size) ∧ Hid (BoxAt wr w3.heap.size 27 #[.int .i64 d.f0, .int .i64 d.f1]) ∧ Hid (BoxAt wr w.heap.size 27 #[.int .i64 0, .int .i64 0]) ∧ Hid (Cur wr (w.heap.size + 1) A n cap) ∧ Hid (Below w.heap.size w wr))
    case atStart => exact ⟨l, Nat.le_refl _, by omega, HU, HO, HN, KG, R0, HC, HB⟩
    case round =>
      obtain ⟨m, hgm, hm, HU, HO, HN, KG, R0, HC, HB⟩ := hrel
      obtain ⟨A', c', rfl, hF⟩ := fr_of_own HO.out
      clear hF
      have lK := KG.out.lt
      by_cases hlt : m.length < 15
      · have HXB := Lib.hid (show ∀ y ∈ m ++ [(⟨1, 0, 0, 1, 0, m.length, false⟩ : TGrant)], TGrant.fit y from fun y hy => by
          rcases List.mem_append.1 hy with hy | hy
          · exact HU.out y hy
          · rw [List.mem_singleton.1 hy]; unfold TGrant.fit; simp only; omega)
        have HCX := Lib.hid (show m.flatMap TGrant.cells ++ (#[.int .i64 1, .int .i64 0, .int .i64 0, .int .i64 1, .int .i64 0, .int .i64 m.length, .bool false] : Array Value).toList = (m ++ [(⟨1, 0, 0, 1, 0, m.length, false⟩ : TGrant)]).flatMap TGrant.cells by simp [List.flatMap_append, TGrant.cells])
        go_wp2_with (at_builtin; refine wp_app_lith rfl _ _ _ rfl w1.heap.size 35 (.agg #[.int .i64 0, .int .i64 0, .int .i64 0, .int .i64 0, .int .i64 0, .int .i64 0, .bool false]) 7 56 Try.underlying24 infoGrant rfl (by decide) _ _ _ rfl HO.out #[.int .i64 1, .int .i64 0, .int .i64 0, .int .i64 1, .int .i64 0, .int .i64 m.length, .bool false] 1 1 _ rfl (by simp) rfl (onesGrant ⟨1, 0, 0, 1, 0, m.length, false⟩) (by unfold maxLen; omega) (by omega) (by omega) ?_; intro v1 w8 ho2 hb2 hg2 hv2; have HO2 := Lib.hid ho2; have HB2 := Lib.hid hb2; have HG2 := Lib.hid hg2; have HV2 := Lib.hid hv2; clear ho2 hb2 hg2 hv2)
        have HN2 := Lib.hid (show v1.ownBlock ≠ some w3.heap.size from by
          rcases HV2.out with e | e
          · rw [e]; exact HN.out
          · rw [e]; intro e2; injection e2; omega)
        go_roundg (15 - (m.length + 1))
        case measure => omega
        case rel => exact ⟨m ++ [(⟨1, 0, 0, 1, 0, m.length, false⟩ : TGrant)], by simp, by simp; omega, HXB, Lib.hid (by rw [← HCX.out]; simpa using HO2.out), HN2, Lib.hid (box_own (KG.out.alloc_ _) HG2.out HN.out), Lib.hid (dr_box_low R0.out HB2.out (by omega)), Lib.hid (dr_cur_low HC.out (by omega) HB2.out), Lib.hid (HB.out.trans (HB2.out.mono (by omega)))⟩
      · skip
        go_upto_region 7 with fail
        refine wp_region_held_drew (S := fun w' => BoxAt w' w3.heap.size 27 #[.int .i64 d.f0, .int .i64 d.f1] ∧ DatO w (w.heap.size + 1) A n cap [(w.heap.size, 27, 2)] w1.heap.size 35 7 (Value.slice A' m.length c') m.length (m.flatMap TGrant.cells) w') (by kernel_rfl) ?_ (fun hHeld => ?_)
        · exact ⟨KG.out.drw, (DatO.mk_ HO.out (by omega) (rs := [(w.heap.size, 27, 2)]) HB.out HC.out (by simp only [List.mem_cons, List.not_mem_nil, or_false, forall_eq_or_imp, forall_eq]; exact ⟨_, rfl, R0.out⟩)).drw⟩
        refine wpAnyH_take (i := 0) (oi := ⟨some 36, _, _, _, _, _⟩) (v := ?_) rfl (by kernel_rfl) (by kernel_rfl) (by kernel_rfl) (fun _ _ _ h => h) (Or.inl ⟨by kernel_rfl, ?_⟩) hHeld ?_
        rotate_left
        focus (intro W hS; skip; clear hS; first | (go_simp; done) | (go_simp; with_reducible rfl))
        try simp only [Act.put, List.setIfInBounds_toArray, List.set_cons_zero, List.set_cons_succ]
        refine wpAnyH_take (i := 1) (oi := ⟨some 37, _, _, _, _, _⟩) (v := ?_) rfl (by kernel_rfl) (by kernel_rfl) (by kernel_rfl) (fun _ _ _ h => h) (Or.inl ⟨by kernel_rfl, ?_⟩) hHeld ?_
        rotate_left
        focus (intro W hS; skip; clear hS; first | (go_simp; done) | (go_simp; with_reducible rfl))
        try simp only [Act.put, List.setIfInBounds_toArray, List.set_cons_zero, List.set_cons_succ]
        refine wpAnyH_take (i := 2) (oi := ⟨some 38, _, _, _, _, _⟩) (v := ?_) rfl (by kernel_rfl) (by kernel_rfl) (by kernel_rfl) (fun _ _ _ h => h) (Or.inl ⟨by kernel_rfl, ?_⟩) hHeld ?_
        rotate_left
        focus (intro W hS; have c0_0 := (hS.1).at_ (j := 0) rfl; have c0_1 := (hS.1).at_ (j := 1) rfl; clear hS; first | (go_simp; done) | (go_simp; with_reducible rfl))
        try simp only [Act.put, List.setIfInBounds_toArray, List.set_cons_zero, List.set_cons_succ]
        refine wpAnyH_take (i := 3) (oi := ⟨some 39, _, _, _, _, _⟩) (v := ?_) rfl (by kernel_rfl) (by kernel_rfl) (by kernel_rfl) (fun _ _ _ h => h) (Or.inl ⟨by kernel_rfl, ?_⟩) hHeld ?_
        rotate_left
        focus (intro W hS; skip; clear hS; first | (go_simp; done) | (go_simp; with_reducible rfl))
        try simp only [Act.put, List.setIfInBounds_toArray, List.set_cons_zero, List.set_cons_succ]
        refine wpAnyH_take (i := 4) (oi := ⟨some 2, _, _, _, _, _⟩) (v := ?_) rfl (by kernel_rfl) (by kernel_rfl) (by kernel_rfl) (fun _ _ _ h => h) (Or.inl ⟨by kernel_rfl, ?_⟩) hHeld ?_
        rotate_left
        focus (intro W hS; skip; clear hS; first | (go_simp; done) | (go_simp; with_reducible rfl))
        try simp only [Act.put, List.setIfInBounds_toArray, List.set_cons_zero, List.set_cons_succ]
        refine wpAnyH_take (i := 5) (oi := ⟨some 3, _, _, _, _, _⟩) (v := ?_) rfl (by kernel_rfl) (by kernel_rfl) (by kernel_rfl) (fun _ _ _ h => h) (Or.inl ⟨by kernel_rfl, ?_⟩) hHeld ?_
        rotate_left
        focus (intro W hS; skip; clear hS; first | (go_simp; done) | (go_simp; with_reducible rfl))
        try simp only [Act.put, List.setIfInBounds_toArray, List.set_cons_zero, List.set_cons_succ]
        refine wpAnyH_ready (rs := [6]) (by kernel_rfl) (by simp) ?_
        refine AllReadyH.cons (o := ⟨none, _, _, _, _, _⟩) rfl (fun K hK => ?_) AllReadyH.nil
        rw [if_pos (by rfl)]
        obtain ⟨cz0, hs0, hz0⟩ := hHeld.2.1.1 (w.heap.size, 27, 2) (by simp)
        refine wp_store_row 27 _ _ rfl w.heap.size #[.int .i64 d.f0, .int .i64 d.f1] rfl rfl 27 _ hz0 (by kernel_rfl) hs0 (by kernel_rfl) ?_
        have G_R0 := box_row (cs := #[.int .i64 d.f0, .int .i64 d.f1]) hz0
        have hHeld2 := hHeld.2.row w.heap.size (by omega) (by omega) #[.int .i64 d.f0, .int .i64 d.f1] (by simp)
        have hb0 := box_far (cs := #[.int .i64 d.f0, .int .i64 d.f1]) (g := w.heap.size) hHeld.1 (by omega)
        clear hz0
        generalize World.setRow _ w.heap.size #[.int .i64 d.f0, .int .i64 d.f1] = v1 at G_R0 hHeld2 hb0 ⊢
        refine hK.out _ _ ⟨hb0, hHeld2⟩ (fun hHeld' => ?_)
        clear hK K hHeld hHeld2 hb0; have hHeld := hHeld'; clear hHeld'
        try simp only [Act.put, List.setIfInBounds_toArray, List.set_cons_zero, List.set_cons_succ]
        refine wpAnyH_take (i := 7) (oi := ⟨some 5, _, _, _, _, _⟩) (v := ?_) rfl (by kernel_rfl) (by kernel_rfl) (by kernel_rfl) (fun _ _ _ h => h) (Or.inl ⟨by kernel_rfl, ?_⟩) hHeld ?_
        rotate_left
        focus (intro W hS; skip; clear hS; first | (go_simp; done) | (go_simp; with_reducible rfl))
        try simp only [Act.put, List.setIfInBounds_toArray, List.set_cons_zero, List.set_cons_succ]
        refine wpAnyH_done (by kernel_rfl) ?_ _
        have r0 := G_R0.at_ (j := 0) rfl
        have r1 := G_R0.at_ (j := 1) rfl
        have HBE := hHeld.2.1.2.2
        obtain ⟨A8, c8, hv8, hF8⟩ := fr_of_own hHeld.2.2.1
        injection hv8 with q1 q2 q3
        subst q1 q3
        have HR9 := hF8.rd.mono (lo' := w.heap.size) (hi' := v1.heap.size) (by omega) (Nat.le_refl _)
        clear hHeld hF8 q2
        go_wp2_with fail
        exact bodyPost_ret (v := .tuple #[.slice A' m.length c', .int .i64 e0, .agg #[.int .i64 d.f0, .int .i64 d.f1], .int .i64 t0]) (by simp [results, Try.results29, go_sem, r0, r1]) rfl ⟨_, _, m, e0, d, t0, rfl, by omega, HU.out, he0, he1, HFX.out, hta, htb, HR9, HBE⟩
end Go.Proofs.Ytfceddgacefejaa
