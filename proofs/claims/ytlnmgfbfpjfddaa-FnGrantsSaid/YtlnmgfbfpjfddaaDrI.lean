/- DrawAddGrant. No condition of its own. -/
import Derived.Test.YtlnmgfbfpjfddaaDrH
import Derived.Test.YtlnmgfbfpjfddaaClr
import Derived.Deep.Cut
import Derived.Deep.LoopGhost
import Derived.Deep.RegionHeld3
import Derived.Deep.MidRow
import Derived.Lib.LazyBuf
namespace Go.Proofs.Ytlnmgfbfpjfddaa
open Go Go.ChangeShapes Go.WideShapes Go.ChangeAt Go.RowKit Go.Lib
set_option linter.unusedVariables false
set_option linter.unusedSimpArgs false
set_option maxRecDepth 100000
theorem own_far {W : World} {B b z m : Nat} {E : TypeId} {v : Value} {xs : List Value} (h : W.ownsRow B E z v m xs) (hb : ∀ j, v.ownBlock = some j → j ≠ b) (cs : Array Value) : (W.setRow b cs).ownsRow B E z v m xs := by
  refine ⟨h.1, ?_⟩
  rcases h.2 with h0 | ⟨k, c, cur, hv, hk, hr, rest⟩
  · exact .inl h0
  · exact .inr ⟨k, c, cur, hv, hk, (setRow_other W b k cs (hb k (by rw [hv]; rfl))).trans hr, rest⟩
/-- A list of grants and a grant are drawn. -/
def DrawnAG (w : World) (e : Ending) (w' : World) : Prop :=
  ∃ (A : Option Addr) (c : Nat) (l : List TGrant) (z : TGrant), e = .returned (.tuple #[.slice A l.length c, .agg #[.int .i64 z.f0, .int .i64 z.f1, .int .i64 z.f2, .int .i64 z.f3, .int .i64 z.f4, .int .i64 z.f5, .bool z.f6]]) ∧ l.length ≤ 16 ∧ (∀ y ∈ l, y.fit) ∧ z.fit ∧ Rd w' w.heap.size w'.heap.size 7 A l.length (cGrant l) ∧ Below w.heap.size w w'
set_option maxHeartbeats 32000000 in
theorem drawAG_any (n cap : Nat) (A : Option Addr) (w : World) (hn : n ≤ 140737488355328) (hb : BytesAt w w.heap.size A n) :
    Calls Try.prog 29 #[.slice A n cap] w (DrawnAG w) := by
  have hn' : n ≤ maxLen := by unfold maxLen; omega
  have HY := Lib.hid hb
  have R0 := Lib.hid (show BoxAt (w.alloc (.cells #[.int .i64 0, .int .i64 0, .int .i64 0, .int .i64 0, .int .i64 0, .int .i64 0, .bool false] 50)) w.heap.size 50 #[.int .i64 0, .int .i64 0, .int .i64 0, .int .i64 0, .int .i64 0, .int .i64 0, .bool false] from by simpa using box_new w 50 #[.int .i64 0, .int .i64 0, .int .i64 0, .int .i64 0, .int .i64 0, .int .i64 0, .bool false])
  have HB := Lib.hid ((Below.refl w.heap.size w).alloc (by first | exact Nat.le_refl _ | (simp; done) | (simp; omega)) (.cells #[.int .i64 0, .int .i64 0, .int .i64 0, .int .i64 0, .int .i64 0, .int .i64 0, .bool false] 50))
  clear hb
  go_enter Try.func29, Try.ntmps29
  go_wp2_with fail
  refine Calls.mono (dr_new n cap A w _ (w.heap.size + 1) (by simp) hn HY.out HB.out) ?_
  rintro e w1 ⟨rfl, hc, hb1⟩
  have HC := Lib.hid hc
  replace R0 := Lib.hid (dr_box_low R0.out hb1 (by omega))
  replace HB := Lib.hid (HB.out.trans (hb1.mono (by omega)))
  have l1 : (w.heap.size + 1) < w1.heap.size := HC.out.lt
  clear hc hb1
  go_wp2_with fail
  refine Calls.mono (grants_any (w.heap.size + 1) n cap A _ hn' HC.out) ?_
  rintro e w2 ⟨v, l, rfl, hl, hu, ho, hc, hg⟩
  have s12 : w1.heap.size ≤ w2.heap.size := hg.size
  replace R0 := Lib.hid (R0.out.grown hg (by omega))
  replace HB := Lib.hid (dr_below HB.out (by omega) hg)
  replace HC := Lib.hid hc
  have l2 : (w.heap.size + 1) < w2.heap.size := HC.out.lt
  clear hc hg
  have HO := Lib.hid ho
  have HU := Lib.hid hu
  clear ho hu
  obtain ⟨A', c', rfl, hF⟩ := fr_of_own HO.out
  have HF := Lib.hid hF
  clear hF
  have NK := Lib.hid (show ∀ j, (Value.slice A' l.length c').ownBlock = some j → j < w2.heap.size from fun j e => (HO.out.lt j e).2)
  go_wp2_with fail
  refine Calls.mono (granta_any (w.heap.size + 1) n cap A _ hn' HC.out) ?_
  rintro e w3 ⟨d, hx, rfl, hc, hg⟩
  have s23 : w2.heap.size ≤ w3.heap.size := hg.size
  replace R0 := Lib.hid (R0.out.grown hg (by omega))
  replace HO := Lib.hid (dr_own HO.out (by omega) hg)
  replace HB := Lib.hid (dr_below HB.out (by omega) hg)
  replace HC := Lib.hid hc
  have l3 : (w.heap.size + 1) < w3.heap.size := HC.out.lt
  clear hc hg
  obtain ⟨x3, hx⟩ : ∃ x, x = World.setRow (w3.alloc (.cells #[.int .i64 0, .int .i64 0, .int .i64 0, .int .i64 0, .int .i64 0, .int .i64 0, .bool false] 50)) w3.heap.size #[.int .i64 d.f0, .int .i64 d.f1, .int .i64 d.f2, .int .i64 d.f3, .int .i64 d.f4, .int .i64 d.f5, .bool d.f6] := ⟨_, rfl⟩
  have HX3 := Lib.hid hx
  have OLD3 := Lib.hid (box_new w3 50 #[.int .i64 0, .int .i64 0, .int .i64 0, .int .i64 0, .int .i64 0, .int .i64 0, .bool false])
  replace R0 := Lib.hid (show BoxAt x3 w.heap.size 50 #[.int .i64 0, .int .i64 0, .int .i64 0, .int .i64 0, .int .i64 0, .int .i64 0, .bool false] by rw [hx]; exact box_far (R0.out.alloc_ _) (by omega))
  have KG := Lib.hid (show BoxAt x3 w3.heap.size 50 #[.int .i64 d.f0, .int .i64 d.f1, .int .i64 d.f2, .int .i64 d.f3, .int .i64 d.f4, .int .i64 d.f5, .bool d.f6] by rw [hx]; exact box_row OLD3.out)
  replace HO := Lib.hid (show World.ownsRow x3 w1.heap.size 50 7 (Value.slice A' l.length c') l.length (l.flatMap TGrant.cells) by rw [hx]; exact own_newer HO.out ⟨rfl, rfl, rfl, by simp, fun i hi => (setRow_other _ _ i _ (by omega)).trans (Below.heap_alloc _ _ i hi)⟩)
  replace HC := Lib.hid (show Cur x3 (w.heap.size + 1) A n cap by rw [hx]; exact dr_cur_row (HC.out.new _) (by omega) _)
  replace HB := Lib.hid (show Below w.heap.size w x3 by rw [hx]; exact below_setRow (HB.out.alloc (by have := HB.out.size; omega) _) (by omega) _)
  have m3 : w3.heap.size < x3.heap.size := KG.out.lt
  clear hx
  have HFX := Lib.hid hx
  clear hx
  by_cases h0 : 0 < l.length
  · skip
    have g0 : decide ((0 : Int) < (l.length : Int)) = true := by first | exact decide_eq_true (by omega) | exact decide_eq_false (by omega)
    have g1 : decide ((l.length : Int) > 0) = true := by first | exact decide_eq_true (by omega) | exact decide_eq_false (by omega)
    go_wp2_with (refine wpList_store_row rfl 50 _ _ rfl w3.heap.size #[.int .i64 d.f0, .int .i64 d.f1, .int .i64 d.f2, .int .i64 d.f3, .int .i64 d.f4, .int .i64 d.f5, .bool d.f6] rfl rfl 50 _ OLD3.out (by kernel_rfl) (by kernel_rfl) (by kernel_rfl) ?_; rw [← HX3.out]; clear HX3 OLD3)
    refine Calls.mono (once_any (w.heap.size + 1) n cap A 5 _ hn' HC.out (by omega) (by omega)) ?_
    rintro e w4 ⟨b, rfl, hc, hg⟩
    replace R0 := Lib.hid (R0.out.grown hg (by omega))
    replace KG := Lib.hid (KG.out.grown hg (by omega))
    replace HO := Lib.hid (dr_own HO.out (by omega) hg)
    replace HB := Lib.hid (dr_below HB.out (by omega) hg)
    replace HC := Lib.hid hc
    have l4 : (w.heap.size + 1) < w4.heap.size := HC.out.lt
    clear hc hg
    cases b
    · skip
      obtain ⟨z, hz⟩ : ∃ z, z = d := ⟨_, rfl⟩
      subst hz
      have HFZ := HFX
      go_wp2_with fail
      refine Calls.mono (once_any (w.heap.size + 1) n cap A 12 _ hn' HC.out (by omega) (by omega)) ?_
      rintro e w5 ⟨b2, rfl, hc, hg⟩
      replace R0 := Lib.hid (R0.out.grown hg (by omega))
      replace KG := Lib.hid (KG.out.grown hg (by omega))
      replace HO := Lib.hid (dr_own HO.out (by omega) hg)
      replace HB := Lib.hid (dr_below HB.out (by omega) hg)
      replace HC := Lib.hid hc
      have l5 : (w.heap.size + 1) < w5.heap.size := HC.out.lt
      clear hc hg
      cases b2
      · skip
        go_upto_region 9 with fail
        refine wp_region_held_drew (S := fun w' => BoxAt w' w3.heap.size 50 #[.int .i64 z.f0, .int .i64 z.f1, .int .i64 z.f2, .int .i64 z.f3, .int .i64 z.f4, .int .i64 z.f5, .bool z.f6] ∧ DatO w (w.heap.size + 1) A n cap [(w.heap.size, 50, 7)] w1.heap.size 50 7 (Value.slice A' l.length c') l.length (l.flatMap TGrant.cells) w') (by kernel_rfl) ?_ (fun hHeld => ?_)
        · exact ⟨KG.out.drw, (DatO.mk_ HO.out (by omega) (rs := [(w.heap.size, 50, 7)]) HB.out HC.out (by simp only [List.mem_cons, List.not_mem_nil, or_false, forall_eq_or_imp, forall_eq]; exact ⟨_, rfl, R0.out⟩)).drw⟩
        refine wpAnyH_take (i := 0) (oi := ⟨some 38, _, _, _, _, _⟩) (v := ?_) rfl (by kernel_rfl) (by kernel_rfl) (by kernel_rfl) (fun _ _ _ h => h) (Or.inl ⟨by kernel_rfl, ?_⟩) hHeld ?_
        rotate_left
        focus (intro W hS; skip; clear hS; first | (go_simp; done) | (go_simp; with_reducible rfl))
        try simp only [Act.put, List.setIfInBounds_toArray, List.set_cons_zero, List.set_cons_succ]
        refine wpAnyH_take (i := 1) (oi := ⟨some 39, _, _, _, _, _⟩) (v := ?_) rfl (by kernel_rfl) (by kernel_rfl) (by kernel_rfl) (fun _ _ _ h => h) (Or.inl ⟨by kernel_rfl, ?_⟩) hHeld ?_
        rotate_left
        focus (intro W hS; have c0_0 := (hS.1).at_ (j := 0) rfl; have c0_1 := (hS.1).at_ (j := 1) rfl; have c0_2 := (hS.1).at_ (j := 2) rfl; have c0_3 := (hS.1).at_ (j := 3) rfl; have c0_4 := (hS.1).at_ (j := 4) rfl; have c0_5 := (hS.1).at_ (j := 5) rfl; have c0_6 := (hS.1).at_ (j := 6) rfl; clear hS; first | (go_simp; done) | (go_simp; with_reducible rfl))
        try simp only [Act.put, List.setIfInBounds_toArray, List.set_cons_zero, List.set_cons_succ]
        refine wpAnyH_take (i := 2) (oi := ⟨some 2, _, _, _, _, _⟩) (v := ?_) rfl (by kernel_rfl) (by kernel_rfl) (by kernel_rfl) (fun _ _ _ h => h) (Or.inl ⟨by kernel_rfl, ?_⟩) hHeld ?_
        rotate_left
        focus (intro W hS; skip; clear hS; first | (go_simp; done) | (go_simp; with_reducible rfl))
        try simp only [Act.put, List.setIfInBounds_toArray, List.set_cons_zero, List.set_cons_succ]
        refine wpAnyH_ready (rs := [3]) (by kernel_rfl) (by simp) ?_
        refine AllReadyH.cons (o := ⟨none, _, _, _, _, _⟩) rfl (fun K hK => ?_) AllReadyH.nil
        rw [if_pos (by rfl)]
        obtain ⟨cz0, hs0, hz0⟩ := hHeld.2.1.1 (w.heap.size, 50, 7) (by simp)
        refine wp_store_row 50 _ _ rfl w.heap.size #[.int .i64 z.f0, .int .i64 z.f1, .int .i64 z.f2, .int .i64 z.f3, .int .i64 z.f4, .int .i64 z.f5, .bool z.f6] rfl rfl 50 _ hz0 (by kernel_rfl) hs0 (by kernel_rfl) ?_
        have G_R0 := box_row (cs := #[.int .i64 z.f0, .int .i64 z.f1, .int .i64 z.f2, .int .i64 z.f3, .int .i64 z.f4, .int .i64 z.f5, .bool z.f6]) hz0
        have hHeld2 := hHeld.2.row w.heap.size (by omega) (by omega) #[.int .i64 z.f0, .int .i64 z.f1, .int .i64 z.f2, .int .i64 z.f3, .int .i64 z.f4, .int .i64 z.f5, .bool z.f6] (by simp)
        have hb0 := box_far (cs := #[.int .i64 z.f0, .int .i64 z.f1, .int .i64 z.f2, .int .i64 z.f3, .int .i64 z.f4, .int .i64 z.f5, .bool z.f6]) (g := w.heap.size) hHeld.1 (by omega)
        clear hz0
        generalize World.setRow _ w.heap.size #[.int .i64 z.f0, .int .i64 z.f1, .int .i64 z.f2, .int .i64 z.f3, .int .i64 z.f4, .int .i64 z.f5, .bool z.f6] = v1 at G_R0 hHeld2 hb0 ⊢
        refine hK.out _ _ ⟨hb0, hHeld2⟩ (fun hHeld' => ?_)
        clear hK K hHeld hHeld2 hb0; have hHeld := hHeld'; clear hHeld'
        try simp only [Act.put, List.setIfInBounds_toArray, List.set_cons_zero, List.set_cons_succ]
        refine wpAnyH_done (by kernel_rfl) ?_ _
        have r0 := G_R0.at_ (j := 0) rfl
        have r1 := G_R0.at_ (j := 1) rfl
        have r2 := G_R0.at_ (j := 2) rfl
        have r3 := G_R0.at_ (j := 3) rfl
        have r4 := G_R0.at_ (j := 4) rfl
        have r5 := G_R0.at_ (j := 5) rfl
        have r6 := G_R0.at_ (j := 6) rfl
        have HBE := hHeld.2.1.2.2
        obtain ⟨A8, c8, hv8, hF8⟩ := fr_of_own hHeld.2.2.1
        injection hv8 with q1 q2 q3
        subst q1 q3
        have HR9 := hF8.rd.mono (lo' := w.heap.size) (hi' := v1.heap.size) (by omega) (Nat.le_refl _)
        clear hHeld hF8 q2
        go_wp2_with fail
        exact bodyPost_ret (v := .tuple #[.slice A' l.length c', .agg #[.int .i64 z.f0, .int .i64 z.f1, .int .i64 z.f2, .int .i64 z.f3, .int .i64 z.f4, .int .i64 z.f5, .bool z.f6]]) (by simp [results, Try.results29, go_sem, r0, r1, r2, r3, r4, r5, r6]) rfl ⟨_, _, l, z, rfl, by omega, HU.out, HFZ.out, HR9, HBE⟩
      · skip
        have HN := Lib.hid (show (Value.slice A' l.length c').ownBlock ≠ some w3.heap.size from by
          intro e
          have := NK.out _ e
          omega)
        go_wp2_with fail
        go_loopg [5] (16 - l.length) (fun gg u wr => ∃ l : List TGrant, 16 - l.length ≤ gg ∧ l.length ≤ 16 ∧ Hid (∀ x ∈ l, TGrant.fit x) ∧ Hid (wr.ownsRow w1.heap.size 50 7 u l.length (l.flatMap TGrant.cells)) ∧ Hid (u.ownBlock ≠ some w3.heap.size) ∧ Hid (BoxAt wr w3.heap.size 50 #[.int .i64 z.f0, .int .i64 z.f1, .int .i64 z.f2, .int .i64 z.f3, .int .i64 z.f4, .int .i64 z.f5, .bool z.f6]) ∧ Hid (BoxAt wr w.heap.size 50 #[.int .i64 0, .int .i64 0, .int .i64 0, .int .i64 0, .int .i64 0, .int .i64 0, .bool false]) ∧ Hid (Cur wr (w.heap.size + 1) A n cap) ∧ Hid (Below w.heap.size w wr))
        case atStart => exact ⟨l, Nat.le_refl _, by omega, HU, HO, HN, KG, R0, HC, HB⟩
        case round =>
          obtain ⟨m, hgm, hm, HU, HO, HN, KG, R0, HC, HB⟩ := hrel
          obtain ⟨A', c', rfl, hF⟩ := fr_of_own HO.out
          clear hF
          have lK := KG.out.lt
          by_cases hlt : m.length < 16
          · have HXB := Lib.hid (show ∀ y ∈ m ++ [(⟨1, 0, 0, 1, 0, m.length, false⟩ : TGrant)], TGrant.fit y from fun y hy => by
              rcases List.mem_append.1 hy with hy | hy
              · exact HU.out y hy
              · rw [List.mem_singleton.1 hy]; unfold TGrant.fit; simp only; omega)
            have HCX := Lib.hid (show m.flatMap TGrant.cells ++ (#[.int .i64 1, .int .i64 0, .int .i64 0, .int .i64 1, .int .i64 0, .int .i64 m.length, .bool false] : Array Value).toList = (m ++ [(⟨1, 0, 0, 1, 0, m.length, false⟩ : TGrant)]).flatMap TGrant.cells by simp [List.flatMap_append, TGrant.cells])
            go_wp2_with (at_builtin; refine wp_app_lith rfl _ _ _ rfl w1.heap.size 50 (.agg #[.int .i64 0, .int .i64 0, .int .i64 0, .int .i64 0, .int .i64 0, .int .i64 0, .bool false]) 7 56 Try.underlying45 infoGrant rfl (by decide) _ _ _ rfl HO.out #[.int .i64 1, .int .i64 0, .int .i64 0, .int .i64 1, .int .i64 0, .int .i64 m.length, .bool false] 1 1 _ rfl (by simp) rfl (onesGrant ⟨1, 0, 0, 1, 0, m.length, false⟩) (by unfold maxLen; omega) (by omega) (by omega) ?_; intro v1 w8 ho2 hb2 hg2 hv2; have HO2 := Lib.hid ho2; have HB2 := Lib.hid hb2; have HG2 := Lib.hid hg2; have HV2 := Lib.hid hv2; clear ho2 hb2 hg2 hv2)
            have HN2 := Lib.hid (show v1.ownBlock ≠ some w3.heap.size from by
              rcases HV2.out with e | e
              · rw [e]; exact HN.out
              · rw [e]; intro e2; injection e2; omega)
            go_roundg (16 - (m.length + 1))
            case measure => omega
            case rel => exact ⟨m ++ [(⟨1, 0, 0, 1, 0, m.length, false⟩ : TGrant)], by simp, by simp; omega, HXB, Lib.hid (by rw [← HCX.out]; simpa using HO2.out), HN2, Lib.hid (box_own (KG.out.alloc_ _) HG2.out HN.out), Lib.hid (dr_box_low R0.out HB2.out (by omega)), Lib.hid (dr_cur_low HC.out (by omega) HB2.out), Lib.hid (HB.out.trans (HB2.out.mono (by omega)))⟩
          · skip
            go_upto_region 9 with fail
            refine wp_region_held_drew (S := fun w' => BoxAt w' w3.heap.size 50 #[.int .i64 z.f0, .int .i64 z.f1, .int .i64 z.f2, .int .i64 z.f3, .int .i64 z.f4, .int .i64 z.f5, .bool z.f6] ∧ DatO w (w.heap.size + 1) A n cap [(w.heap.size, 50, 7)] w1.heap.size 50 7 (Value.slice A' m.length c') m.length (m.flatMap TGrant.cells) w') (by kernel_rfl) ?_ (fun hHeld => ?_)
            · exact ⟨KG.out.drw, (DatO.mk_ HO.out (by omega) (rs := [(w.heap.size, 50, 7)]) HB.out HC.out (by simp only [List.mem_cons, List.not_mem_nil, or_false, forall_eq_or_imp, forall_eq]; exact ⟨_, rfl, R0.out⟩)).drw⟩
            refine wpAnyH_take (i := 0) (oi := ⟨some 38, _, _, _, _, _⟩) (v := ?_) rfl (by kernel_rfl) (by kernel_rfl) (by kernel_rfl) (fun _ _ _ h => h) (Or.inl ⟨by kernel_rfl, ?_⟩) hHeld ?_
            rotate_left
            focus (intro W hS; skip; clear hS; first | (go_simp; done) | (go_simp; with_reducible rfl))
            try simp only [Act.put, List.setIfInBounds_toArray, List.set_cons_zero, List.set_cons_succ]
            refine wpAnyH_take (i := 1) (oi := ⟨some 39, _, _, _, _, _⟩) (v := ?_) rfl (by kernel_rfl) (by kernel_rfl) (by kernel_rfl) (fun _ _ _ h => h) (Or.inl ⟨by kernel_rfl, ?_⟩) hHeld ?_
            rotate_left
            focus (intro W hS; have c0_0 := (hS.1).at_ (j := 0) rfl; have c0_1 := (hS.1).at_ (j := 1) rfl; have c0_2 := (hS.1).at_ (j := 2) rfl; have c0_3 := (hS.1).at_ (j := 3) rfl; have c0_4 := (hS.1).at_ (j := 4) rfl; have c0_5 := (hS.1).at_ (j := 5) rfl; have c0_6 := (hS.1).at_ (j := 6) rfl; clear hS; first | (go_simp; done) | (go_simp; with_reducible rfl))
            try simp only [Act.put, List.setIfInBounds_toArray, List.set_cons_zero, List.set_cons_succ]
            refine wpAnyH_take (i := 2) (oi := ⟨some 2, _, _, _, _, _⟩) (v := ?_) rfl (by kernel_rfl) (by kernel_rfl) (by kernel_rfl) (fun _ _ _ h => h) (Or.inl ⟨by kernel_rfl, ?_⟩) hHeld ?_
            rotate_left
            focus (intro W hS; skip; clear hS; first | (go_simp; done) | (go_simp; with_reducible rfl))
            try simp only [Act.put, List.setIfInBounds_toArray, List.set_cons_zero, List.set_cons_succ]
            refine wpAnyH_ready (rs := [3]) (by kernel_rfl) (by simp) ?_
            refine AllReadyH.cons (o := ⟨none, _, _, _, _, _⟩) rfl (fun K hK => ?_) AllReadyH.nil
            rw [if_pos (by rfl)]
            obtain ⟨cz0, hs0, hz0⟩ := hHeld.2.1.1 (w.heap.size, 50, 7) (by simp)
            refine wp_store_row 50 _ _ rfl w.heap.size #[.int .i64 z.f0, .int .i64 z.f1, .int .i64 z.f2, .int .i64 z.f3, .int .i64 z.f4, .int .i64 z.f5, .bool z.f6] rfl rfl 50 _ hz0 (by kernel_rfl) hs0 (by kernel_rfl) ?_
            have G_R0 := box_row (cs := #[.int .i64 z.f0, .int .i64 z.f1, .int .i64 z.f2, .int .i64 z.f3, .int .i64 z.f4, .int .i64 z.f5, .bool z.f6]) hz0
            have hHeld2 := hHeld.2.row w.heap.size (by omega) (by omega) #[.int .i64 z.f0, .int .i64 z.f1, .int .i64 z.f2, .int .i64 z.f3, .int .i64 z.f4, .int .i64 z.f5, .bool z.f6] (by simp)
            have hb0 := box_far (cs := #[.int .i64 z.f0, .int .i64 z.f1, .int .i64 z.f2, .int .i64 z.f3, .int .i64 z.f4, .int .i64 z.f5, .bool z.f6]) (g := w.heap.size) hHeld.1 (by omega)
            clear hz0
            generalize World.setRow _ w.heap.size #[.int .i64 z.f0, .int .i64 z.f1, .int .i64 z.f2, .int .i64 z.f3, .int .i64 z.f4, .int .i64 z.f5, .bool z.f6] = v1 at G_R0 hHeld2 hb0 ⊢
            refine hK.out _ _ ⟨hb0, hHeld2⟩ (fun hHeld' => ?_)
            clear hK K hHeld hHeld2 hb0; have hHeld := hHeld'; clear hHeld'
            try simp only [Act.put, List.setIfInBounds_toArray, List.set_cons_zero, List.set_cons_succ]
            refine wpAnyH_done (by kernel_rfl) ?_ _
            have r0 := G_R0.at_ (j := 0) rfl
            have r1 := G_R0.at_ (j := 1) rfl
            have r2 := G_R0.at_ (j := 2) rfl
            have r3 := G_R0.at_ (j := 3) rfl
            have r4 := G_R0.at_ (j := 4) rfl
            have r5 := G_R0.at_ (j := 5) rfl
            have r6 := G_R0.at_ (j := 6) rfl
            have HBE := hHeld.2.1.2.2
            obtain ⟨A8, c8, hv8, hF8⟩ := fr_of_own hHeld.2.2.1
            injection hv8 with q1 q2 q3
            subst q1 q3
            have HR9 := hF8.rd.mono (lo' := w.heap.size) (hi' := v1.heap.size) (by omega) (Nat.le_refl _)
            clear hHeld hF8 q2
            go_wp2_with fail
            exact bodyPost_ret (v := .tuple #[.slice A' m.length c', .agg #[.int .i64 z.f0, .int .i64 z.f1, .int .i64 z.f2, .int .i64 z.f3, .int .i64 z.f4, .int .i64 z.f5, .bool z.f6]]) (by simp [results, Try.results29, go_sem, r0, r1, r2, r3, r4, r5, r6]) rfl ⟨_, _, m, z, rfl, by omega, HU.out, HFZ.out, HR9, HBE⟩
    · skip
      go_wp2_with fail
      refine Calls.mono (below_any (w.heap.size + 1) n cap A l.length _ hn' HC.out (by omega) (by omega)) ?_
      rintro e w5 ⟨y, hya, hyb, rfl, hc, hg⟩
      replace R0 := Lib.hid (R0.out.grown hg (by omega))
      replace KG := Lib.hid (KG.out.grown hg (by omega))
      replace HO := Lib.hid (dr_own HO.out (by omega) hg)
      replace HB := Lib.hid (dr_below HB.out (by omega) hg)
      replace HC := Lib.hid hc
      have l5 : (w.heap.size + 1) < w5.heap.size := HC.out.lt
      clear hc hg
      obtain ⟨j, rfl⟩ := Int.eq_ofNat_of_zero_le hya
      obtain ⟨A2, c2, hv2, hF⟩ := fr_of_own HO.out
      injection hv2 with q1 q2 q3
      subst q1 q3
      have hjl : j < l.length := by omega
      obtain ⟨b1, off, z, rfl, _, _, hz, hcc⟩ := rd_elem TGrant.len hF.rd rfl hjl
      have HFZ := Lib.hid (HU.out z (List.mem_of_getElem? hz))
      have e0 := hcc 0 _ rfl
      have e1 := hcc 1 _ rfl
      have e2 := hcc 2 _ rfl
      have e3 := hcc 3 _ rfl
      have e4 := hcc 4 _ rfl
      have e5 := hcc 5 _ rfl
      have e6 := hcc 6 _ rfl
      simp only [Nat.add_zero] at e0
      clear hcc hz hF q2
      obtain ⟨x6, hx⟩ : ∃ X, X = World.setRow w5 w3.heap.size #[.int .i64 z.f0, .int .i64 z.f1, .int .i64 z.f2, .int .i64 z.f3, .int .i64 z.f4, .int .i64 z.f5, .bool z.f6] := ⟨_, rfl⟩
      have HXN := Lib.hid hx
      have OLDN := KG
      replace KG := Lib.hid (show BoxAt x6 w3.heap.size 50 #[.int .i64 z.f0, .int .i64 z.f1, .int .i64 z.f2, .int .i64 z.f3, .int .i64 z.f4, .int .i64 z.f5, .bool z.f6] by rw [hx]; exact box_row OLDN.out)
      replace R0 := Lib.hid (show BoxAt x6 w.heap.size 50 #[.int .i64 0, .int .i64 0, .int .i64 0, .int .i64 0, .int .i64 0, .int .i64 0, .bool false] by rw [hx]; exact box_far R0.out (by omega))
      replace HO := Lib.hid (show World.ownsRow x6 w1.heap.size 50 7 (Value.slice (some ⟨b1, off, none⟩) l.length c') l.length (l.flatMap TGrant.cells) by rw [hx]; exact own_far HO.out (fun j e => Nat.ne_of_lt (Nat.lt_of_lt_of_le (NK.out j e) (by omega))) _)
      replace HC := Lib.hid (show Cur x6 (w.heap.size + 1) A n cap by rw [hx]; exact dr_cur_row HC.out (by omega) _)
      replace HB := Lib.hid (show Below w.heap.size w x6 by rw [hx]; exact below_setRow HB.out (by omega) _)
      have mN : w3.heap.size < x6.heap.size := KG.out.lt
      clear hx
      go_wp2_with (refine wpList_store_row rfl 50 _ _ rfl w3.heap.size #[.int .i64 z.f0, .int .i64 z.f1, .int .i64 z.f2, .int .i64 z.f3, .int .i64 z.f4, .int .i64 z.f5, .bool z.f6] rfl rfl 50 _ OLDN.out (by kernel_rfl) (by kernel_rfl) (by kernel_rfl) ?_; rw [← HXN.out]; clear HXN OLDN)
      refine Calls.mono (once_any (w.heap.size + 1) n cap A 12 _ hn' HC.out (by omega) (by omega)) ?_
      rintro e w7 ⟨b2, rfl, hc, hg⟩
      replace R0 := Lib.hid (R0.out.grown hg (by omega))
      replace KG := Lib.hid (KG.out.grown hg (by omega))
      replace HO := Lib.hid (dr_own HO.out (by omega) hg)
      replace HB := Lib.hid (dr_below HB.out (by omega) hg)
      replace HC := Lib.hid hc
      have l7 : (w.heap.size + 1) < w7.heap.size := HC.out.lt
      clear hc hg
      cases b2
      · skip
        go_upto_region 9 with fail
        refine wp_region_held_drew (S := fun w' => BoxAt w' w3.heap.size 50 #[.int .i64 z.f0, .int .i64 z.f1, .int .i64 z.f2, .int .i64 z.f3, .int .i64 z.f4, .int .i64 z.f5, .bool z.f6] ∧ DatO w (w.heap.size + 1) A n cap [(w.heap.size, 50, 7)] w1.heap.size 50 7 (Value.slice (some ⟨b1, off, none⟩) l.length c') l.length (l.flatMap TGrant.cells) w') (by kernel_rfl) ?_ (fun hHeld => ?_)
        · exact ⟨KG.out.drw, (DatO.mk_ HO.out (by omega) (rs := [(w.heap.size, 50, 7)]) HB.out HC.out (by simp only [List.mem_cons, List.not_mem_nil, or_false, forall_eq_or_imp, forall_eq]; exact ⟨_, rfl, R0.out⟩)).drw⟩
        refine wpAnyH_take (i := 0) (oi := ⟨some 38, _, _, _, _, _⟩) (v := ?_) rfl (by kernel_rfl) (by kernel_rfl) (by kernel_rfl) (fun _ _ _ h => h) (Or.inl ⟨by kernel_rfl, ?_⟩) hHeld ?_
        rotate_left
        focus (intro W hS; skip; clear hS; first | (go_simp; done) | (go_simp; with_reducible rfl))
        try simp only [Act.put, List.setIfInBounds_toArray, List.set_cons_zero, List.set_cons_succ]
        refine wpAnyH_take (i := 1) (oi := ⟨some 39, _, _, _, _, _⟩) (v := ?_) rfl (by kernel_rfl) (by kernel_rfl) (by kernel_rfl) (fun _ _ _ h => h) (Or.inl ⟨by kernel_rfl, ?_⟩) hHeld ?_
        rotate_left
        focus (intro W hS; have c0_0 := (hS.1).at_ (j := 0) rfl; have c0_1 := (hS.1).at_ (j := 1) rfl; have c0_2 := (hS.1).at_ (j := 2) rfl; have c0_3 := (hS.1).at_ (j := 3) rfl; have c0_4 := (hS.1).at_ (j := 4) rfl; have c0_5 := (hS.1).at_ (j := 5) rfl; have c0_6 := (hS.1).at_ (j := 6) rfl; clear hS; first | (go_simp; done) | (go_simp; with_reducible rfl))
        try simp only [Act.put, List.setIfInBounds_toArray, List.set_cons_zero, List.set_cons_succ]
        refine wpAnyH_take (i := 2) (oi := ⟨some 2, _, _, _, _, _⟩) (v := ?_) rfl (by kernel_rfl) (by kernel_rfl) (by kernel_rfl) (fun _ _ _ h => h) (Or.inl ⟨by kernel_rfl, ?_⟩) hHeld ?_
        rotate_left
        focus (intro W hS; skip; clear hS; first | (go_simp; done) | (go_simp; with_reducible rfl))
        try simp only [Act.put, List.setIfInBounds_toArray, List.set_cons_zero, List.set_cons_succ]
        refine wpAnyH_ready (rs := [3]) (by kernel_rfl) (by simp) ?_
        refine AllReadyH.cons (o := ⟨none, _, _, _, _, _⟩) rfl (fun K hK => ?_) AllReadyH.nil
        rw [if_pos (by rfl)]
        obtain ⟨cz0, hs0, hz0⟩ := hHeld.2.1.1 (w.heap.size, 50, 7) (by simp)
        refine wp_store_row 50 _ _ rfl w.heap.size #[.int .i64 z.f0, .int .i64 z.f1, .int .i64 z.f2, .int .i64 z.f3, .int .i64 z.f4, .int .i64 z.f5, .bool z.f6] rfl rfl 50 _ hz0 (by kernel_rfl) hs0 (by kernel_rfl) ?_
        have G_R0 := box_row (cs := #[.int .i64 z.f0, .int .i64 z.f1, .int .i64 z.f2, .int .i64 z.f3, .int .i64 z.f4, .int .i64 z.f5, .bool z.f6]) hz0
        have hHeld2 := hHeld.2.row w.heap.size (by omega) (by omega) #[.int .i64 z.f0, .int .i64 z.f1, .int .i64 z.f2, .int .i64 z.f3, .int .i64 z.f4, .int .i64 z.f5, .bool z.f6] (by simp)
        have hb0 := box_far (cs := #[.int .i64 z.f0, .int .i64 z.f1, .int .i64 z.f2, .int .i64 z.f3, .int .i64 z.f4, .int .i64 z.f5, .bool z.f6]) (g := w.heap.size) hHeld.1 (by omega)
        clear hz0
        generalize World.setRow _ w.heap.size #[.int .i64 z.f0, .int .i64 z.f1, .int .i64 z.f2, .int .i64 z.f3, .int .i64 z.f4, .int .i64 z.f5, .bool z.f6] = v1 at G_R0 hHeld2 hb0 ⊢
        refine hK.out _ _ ⟨hb0, hHeld2⟩ (fun hHeld' => ?_)
        clear hK K hHeld hHeld2 hb0; have hHeld := hHeld'; clear hHeld'
        try simp only [Act.put, List.setIfInBounds_toArray, List.set_cons_zero, List.set_cons_succ]
        refine wpAnyH_done (by kernel_rfl) ?_ _
        have r0 := G_R0.at_ (j := 0) rfl
        have r1 := G_R0.at_ (j := 1) rfl
        have r2 := G_R0.at_ (j := 2) rfl
        have r3 := G_R0.at_ (j := 3) rfl
        have r4 := G_R0.at_ (j := 4) rfl
        have r5 := G_R0.at_ (j := 5) rfl
        have r6 := G_R0.at_ (j := 6) rfl
        have HBE := hHeld.2.1.2.2
        obtain ⟨A8, c8, hv8, hF8⟩ := fr_of_own hHeld.2.2.1
        injection hv8 with q1 q2 q3
        subst q1 q3
        have HR9 := hF8.rd.mono (lo' := w.heap.size) (hi' := v1.heap.size) (by omega) (Nat.le_refl _)
        clear hHeld hF8 q2
        go_wp2_with fail
        exact bodyPost_ret (v := .tuple #[.slice (some ⟨b1, off, none⟩) l.length c', .agg #[.int .i64 z.f0, .int .i64 z.f1, .int .i64 z.f2, .int .i64 z.f3, .int .i64 z.f4, .int .i64 z.f5, .bool z.f6]]) (by simp [results, Try.results29, go_sem, r0, r1, r2, r3, r4, r5, r6]) rfl ⟨_, _, l, z, rfl, by omega, HU.out, HFZ.out, HR9, HBE⟩
      · skip
        have HN := Lib.hid (show (Value.slice (some ⟨b1, off, none⟩) l.length c').ownBlock ≠ some w3.heap.size from by
          intro e
          have := NK.out _ e
          omega)
        go_wp2_with fail
        go_loopg [5] (16 - l.length) (fun gg u wr => ∃ l : List TGrant, 16 - l.length ≤ gg ∧ l.length ≤ 16 ∧ Hid (∀ x ∈ l, TGrant.fit x) ∧ Hid (wr.ownsRow w1.heap.size 50 7 u l.length (l.flatMap TGrant.cells)) ∧ Hid (u.ownBlock ≠ some w3.heap.size) ∧ Hid (BoxAt wr w3.heap.size 50 #[.int .i64 z.f0, .int .i64 z.f1, .int .i64 z.f2, .int .i64 z.f3, .int .i64 z.f4, .int .i64 z.f5, .bool z.f6]) ∧ Hid (BoxAt wr w.heap.size 50 #[.int .i64 0, .int .i64 0, .int .i64 0, .int .i64 0, .int .i64 0, .int .i64 0, .bool false]) ∧ Hid (Cur wr (w.heap.size + 1) A n cap) ∧ Hid (Below w.heap.size w wr))
        case atStart => exact ⟨l, Nat.le_refl _, by omega, HU, HO, HN, KG, R0, HC, HB⟩
        case round =>
          obtain ⟨m, hgm, hm, HU, HO, HN, KG, R0, HC, HB⟩ := hrel
          obtain ⟨A', c', rfl, hF⟩ := fr_of_own HO.out
          clear hF
          have lK := KG.out.lt
          by_cases hlt : m.length < 16
          · have HXB := Lib.hid (show ∀ y ∈ m ++ [(⟨1, 0, 0, 1, 0, m.length, false⟩ : TGrant)], TGrant.fit y from fun y hy => by
              rcases List.mem_append.1 hy with hy | hy
              · exact HU.out y hy
              · rw [List.mem_singleton.1 hy]; unfold TGrant.fit; simp only; omega)
            have HCX := Lib.hid (show m.flatMap TGrant.cells ++ (#[.int .i64 1, .int .i64 0, .int .i64 0, .int .i64 1, .int .i64 0, .int .i64 m.length, .bool false] : Array Value).toList = (m ++ [(⟨1, 0, 0, 1, 0, m.length, false⟩ : TGrant)]).flatMap TGrant.cells by simp [List.flatMap_append, TGrant.cells])
            go_wp2_with (at_builtin; refine wp_app_lith rfl _ _ _ rfl w1.heap.size 50 (.agg #[.int .i64 0, .int .i64 0, .int .i64 0, .int .i64 0, .int .i64 0, .int .i64 0, .bool false]) 7 56 Try.underlying45 infoGrant rfl (by decide) _ _ _ rfl HO.out #[.int .i64 1, .int .i64 0, .int .i64 0, .int .i64 1, .int .i64 0, .int .i64 m.length, .bool false] 1 1 _ rfl (by simp) rfl (onesGrant ⟨1, 0, 0, 1, 0, m.length, false⟩) (by unfold maxLen; omega) (by omega) (by omega) ?_; intro v1 w8 ho2 hb2 hg2 hv2; have HO2 := Lib.hid ho2; have HB2 := Lib.hid hb2; have HG2 := Lib.hid hg2; have HV2 := Lib.hid hv2; clear ho2 hb2 hg2 hv2)
            have HN2 := Lib.hid (show v1.ownBlock ≠ some w3.heap.size from by
              rcases HV2.out with e | e
              · rw [e]; exact HN.out
              · rw [e]; intro e2; injection e2; omega)
            go_roundg (16 - (m.length + 1))
            case measure => omega
            case rel => exact ⟨m ++ [(⟨1, 0, 0, 1, 0, m.length, false⟩ : TGrant)], by simp, by simp; omega, HXB, Lib.hid (by rw [← HCX.out]; simpa using HO2.out), HN2, Lib.hid (box_own (KG.out.alloc_ _) HG2.out HN.out), Lib.hid (dr_box_low R0.out HB2.out (by omega)), Lib.hid (dr_cur_low HC.out (by omega) HB2.out), Lib.hid (HB.out.trans (HB2.out.mono (by omega)))⟩
          · skip
            go_upto_region 9 with fail
            refine wp_region_held_drew (S := fun w' => BoxAt w' w3.heap.size 50 #[.int .i64 z.f0, .int .i64 z.f1, .int .i64 z.f2, .int .i64 z.f3, .int .i64 z.f4, .int .i64 z.f5, .bool z.f6] ∧ DatO w (w.heap.size + 1) A n cap [(w.heap.size, 50, 7)] w1.heap.size 50 7 (Value.slice A' m.length c') m.length (m.flatMap TGrant.cells) w') (by kernel_rfl) ?_ (fun hHeld => ?_)
            · exact ⟨KG.out.drw, (DatO.mk_ HO.out (by omega) (rs := [(w.heap.size, 50, 7)]) HB.out HC.out (by simp only [List.mem_cons, List.not_mem_nil, or_false, forall_eq_or_imp, forall_eq]; exact ⟨_, rfl, R0.out⟩)).drw⟩
            refine wpAnyH_take (i := 0) (oi := ⟨some 38, _, _, _, _, _⟩) (v := ?_) rfl (by kernel_rfl) (by kernel_rfl) (by kernel_rfl) (fun _ _ _ h => h) (Or.inl ⟨by kernel_rfl, ?_⟩) hHeld ?_
            rotate_left
            focus (intro W hS; skip; clear hS; first | (go_simp; done) | (go_simp; with_reducible rfl))
            try simp only [Act.put, List.setIfInBounds_toArray, List.set_cons_zero, List.set_cons_succ]
            refine wpAnyH_take (i := 1) (oi := ⟨some 39, _, _, _, _, _⟩) (v := ?_) rfl (by kernel_rfl) (by kernel_rfl) (by kernel_rfl) (fun _ _ _ h => h) (Or.inl ⟨by kernel_rfl, ?_⟩) hHeld ?_
            rotate_left
            focus (intro W hS; have c0_0 := (hS.1).at_ (j := 0) rfl; have c0_1 := (hS.1).at_ (j := 1) rfl; have c0_2 := (hS.1).at_ (j := 2) rfl; have c0_3 := (hS.1).at_ (j := 3) rfl; have c0_4 := (hS.1).at_ (j := 4) rfl; have c0_5 := (hS.1).at_ (j := 5) rfl; have c0_6 := (hS.1).at_ (j := 6) rfl; clear hS; first | (go_simp; done) | (go_simp; with_reducible rfl))
            try simp only [Act.put, List.setIfInBounds_toArray, List.set_cons_zero, List.set_cons_succ]
            refine wpAnyH_take (i := 2) (oi := ⟨some 2, _, _, _, _, _⟩) (v := ?_) rfl (by kernel_rfl) (by kernel_rfl) (by kernel_rfl) (fun _ _ _ h => h) (Or.inl ⟨by kernel_rfl, ?_⟩) hHeld ?_
            rotate_left
            focus (intro W hS; skip; clear hS; first | (go_simp; done) | (go_simp; with_reducible rfl))
            try simp only [Act.put, List.setIfInBounds_toArray, List.set_cons_zero, List.set_cons_succ]
            refine wpAnyH_ready (rs := [3]) (by kernel_rfl) (by simp) ?_
            refine AllReadyH.cons (o := ⟨none, _, _, _, _, _⟩) rfl (fun K hK => ?_) AllReadyH.nil
            rw [if_pos (by rfl)]
            obtain ⟨cz0, hs0, hz0⟩ := hHeld.2.1.1 (w.heap.size, 50, 7) (by simp)
            refine wp_store_row 50 _ _ rfl w.heap.size #[.int .i64 z.f0, .int .i64 z.f1, .int .i64 z.f2, .int .i64 z.f3, .int .i64 z.f4, .int .i64 z.f5, .bool z.f6] rfl rfl 50 _ hz0 (by kernel_rfl) hs0 (by kernel_rfl) ?_
            have G_R0 := box_row (cs := #[.int .i64 z.f0, .int .i64 z.f1, .int .i64 z.f2, .int .i64 z.f3, .int .i64 z.f4, .int .i64 z.f5, .bool z.f6]) hz0
            have hHeld2 := hHeld.2.row w.heap.size (by omega) (by omega) #[.int .i64 z.f0, .int .i64 z.f1, .int .i64 z.f2, .int .i64 z.f3, .int .i64 z.f4, .int .i64 z.f5, .bool z.f6] (by simp)
            have hb0 := box_far (cs := #[.int .i64 z.f0, .int .i64 z.f1, .int .i64 z.f2, .int .i64 z.f3, .int .i64 z.f4, .int .i64 z.f5, .bool z.f6]) (g := w.heap.size) hHeld.1 (by omega)
            clear hz0
            generalize World.setRow _ w.heap.size #[.int .i64 z.f0, .int .i64 z.f1, .int .i64 z.f2, .int .i64 z.f3, .int .i64 z.f4, .int .i64 z.f5, .bool z.f6] = v1 at G_R0 hHeld2 hb0 ⊢
            refine hK.out _ _ ⟨hb0, hHeld2⟩ (fun hHeld' => ?_)
            clear hK K hHeld hHeld2 hb0; have hHeld := hHeld'; clear hHeld'
            try simp only [Act.put, List.setIfInBounds_toArray, List.set_cons_zero, List.set_cons_succ]
            refine wpAnyH_done (by kernel_rfl) ?_ _
            have r0 := G_R0.at_ (j := 0) rfl
            have r1 := G_R0.at_ (j := 1) rfl
            have r2 := G_R0.at_ (j := 2) rfl
            have r3 := G_R0.at_ (j := 3) rfl
            have r4 := G_R0.at_ (j := 4) rfl
            have r5 := G_R0.at_ (j := 5) rfl
            have r6 := G_R0.at_ (j := 6) rfl
            have HBE := hHeld.2.1.2.2
            obtain ⟨A8, c8, hv8, hF8⟩ := fr_of_own hHeld.2.2.1
            injection hv8 with q1 q2 q3
            subst q1 q3
            have HR9 := hF8.rd.mono (lo' := w.heap.size) (hi' := v1.heap.size) (by omega) (Nat.le_refl _)
            clear hHeld hF8 q2
            go_wp2_with fail
            exact bodyPost_ret (v := .tuple #[.slice A' m.length c', .agg #[.int .i64 z.f0, .int .i64 z.f1, .int .i64 z.f2, .int .i64 z.f3, .int .i64 z.f4, .int .i64 z.f5, .bool z.f6]]) (by simp [results, Try.results29, go_sem, r0, r1, r2, r3, r4, r5, r6]) rfl ⟨_, _, m, z, rfl, by omega, HU.out, HFZ.out, HR9, HBE⟩
  · skip
    have g0 : decide ((0 : Int) < (l.length : Int)) = false := by first | exact decide_eq_true (by omega) | exact decide_eq_false (by omega)
    have g1 : decide ((l.length : Int) > 0) = false := by first | exact decide_eq_true (by omega) | exact decide_eq_false (by omega)
    obtain ⟨z, hz⟩ : ∃ z, z = d := ⟨_, rfl⟩
    subst hz
    have HFZ := HFX
    go_wp2_with (refine wpList_store_row rfl 50 _ _ rfl w3.heap.size #[.int .i64 z.f0, .int .i64 z.f1, .int .i64 z.f2, .int .i64 z.f3, .int .i64 z.f4, .int .i64 z.f5, .bool z.f6] rfl rfl 50 _ OLD3.out (by kernel_rfl) (by kernel_rfl) (by kernel_rfl) ?_; rw [← HX3.out]; clear HX3 OLD3)
    refine Calls.mono (once_any (w.heap.size + 1) n cap A 12 _ hn' HC.out (by omega) (by omega)) ?_
    rintro e w4 ⟨b2, rfl, hc, hg⟩
    replace R0 := Lib.hid (R0.out.grown hg (by omega))
    replace KG := Lib.hid (KG.out.grown hg (by omega))
    replace HO := Lib.hid (dr_own HO.out (by omega) hg)
    replace HB := Lib.hid (dr_below HB.out (by omega) hg)
    replace HC := Lib.hid hc
    have l4 : (w.heap.size + 1) < w4.heap.size := HC.out.lt
    clear hc hg
    cases b2
    · skip
      go_upto_region 9 with fail
      refine wp_region_held_drew (S := fun w' => BoxAt w' w3.heap.size 50 #[.int .i64 z.f0, .int .i64 z.f1, .int .i64 z.f2, .int .i64 z.f3, .int .i64 z.f4, .int .i64 z.f5, .bool z.f6] ∧ DatO w (w.heap.size + 1) A n cap [(w.heap.size, 50, 7)] w1.heap.size 50 7 (Value.slice A' l.length c') l.length (l.flatMap TGrant.cells) w') (by kernel_rfl) ?_ (fun hHeld => ?_)
      · exact ⟨KG.out.drw, (DatO.mk_ HO.out (by omega) (rs := [(w.heap.size, 50, 7)]) HB.out HC.out (by simp only [List.mem_cons, List.not_mem_nil, or_false, forall_eq_or_imp, forall_eq]; exact ⟨_, rfl, R0.out⟩)).drw⟩
      refine wpAnyH_take (i := 0) (oi := ⟨some 38, _, _, _, _, _⟩) (v := ?_) rfl (by kernel_rfl) (by kernel_rfl) (by kernel_rfl) (fun _ _ _ h => h) (Or.inl ⟨by kernel_rfl, ?_⟩) hHeld ?_
      rotate_left
      focus (intro W hS; skip; clear hS; first | (go_simp; done) | (go_simp; with_reducible rfl))
      try simp only [Act.put, List.setIfInBounds_toArray, List.set_cons_zero, List.set_cons_succ]
      refine wpAnyH_take (i := 1) (oi := ⟨some 39, _, _, _, _, _⟩) (v := ?_) rfl (by kernel_rfl) (by kernel_rfl) (by kernel_rfl) (fun _ _ _ h => h) (Or.inl ⟨by kernel_rfl, ?_⟩) hHeld ?_
      rotate_left
      focus (intro W hS; have c0_0 := (hS.1).at_ (j := 0) rfl; have c0_1 := (hS.1).at_ (j := 1) rfl; have c0_2 := (hS.1).at_ (j := 2) rfl; have c0_3 := (hS.1).at_ (j := 3) rfl; have c0_4 := (hS.1).at_ (j := 4) rfl; have c0_5 := (hS.1).at_ (j := 5) rfl; have c0_6 := (hS.1).at_ (j := 6) rfl; clear hS; first | (go_simp; done) | (go_simp; with_reducible rfl))
      try simp only [Act.put, List.setIfInBounds_toArray, List.set_cons_zero, List.set_cons_succ]
      refine wpAnyH_take (i := 2) (oi := ⟨some 2, _, _, _, _, _⟩) (v := ?_) rfl (by kernel_rfl) (by kernel_rfl) (by kernel_rfl) (fun _ _ _ h => h) (Or.inl ⟨by kernel_rfl, ?_⟩) hHeld ?_
      rotate_left
      focus (intro W hS; skip; clear hS; first | (go_simp; done) | (go_simp; with_reducible rfl))
      try simp only [Act.put, List.setIfInBounds_toArray, List.set_cons_zero, List.set_cons_succ]
      refine wpAnyH_ready (rs := [3]) (by kernel_rfl) (by simp) ?_
      refine AllReadyH.cons (o := ⟨none, _, _, _, _, _⟩) rfl (fun K hK => ?_) AllReadyH.nil
      rw [if_pos (by rfl)]
      obtain ⟨cz0, hs0, hz0⟩ := hHeld.2.1.1 (w.heap.size, 50, 7) (by simp)
      refine wp_store_row 50 _ _ rfl w.heap.size #[.int .i64 z.f0, .int .i64 z.f1, .int .i64 z.f2, .int .i64 z.f3, .int .i64 z.f4, .int .i64 z.f5, .bool z.f6] rfl rfl 50 _ hz0 (by kernel_rfl) hs0 (by kernel_rfl) ?_
      have G_R0 := box_row (cs := #[.int .i64 z.f0, .int .i64 z.f1, .int .i64 z.f2, .int .i64 z.f3, .int .i64 z.f4, .int .i64 z.f5, .bool z.f6]) hz0
      have hHeld2 := hHeld.2.row w.heap.size (by omega) (by omega) #[.int .i64 z.f0, .int .i64 z.f1, .int .i64 z.f2, .int .i64 z.f3, .int .i64 z.f4, .int .i64 z.f5, .bool z.f6] (by simp)
      have hb0 := box_far (cs := #[.int .i64 z.f0, .int .i64 z.f1, .int .i64 z.f2, .int .i64 z.f3, .int .i64 z.f4, .int .i64 z.f5, .bool z.f6]) (g := w.heap.size) hHeld.1 (by omega)
      clear hz0
      generalize World.setRow _ w.heap.size #[.int .i64 z.f0, .int .i64 z.f1, .int .i64 z.f2, .int .i64 z.f3, .int .i64 z.f4, .int .i64 z.f5, .bool z.f6] = v1 at G_R0 hHeld2 hb0 ⊢
      refine hK.out _ _ ⟨hb0, hHeld2⟩ (fun hHeld' => ?_)
      clear hK K hHeld hHeld2 hb0; have hHeld := hHeld'; clear hHeld'
      try simp only [Act.put, List.setIfInBounds_toArray, List.set_cons_zero, List.set_cons_succ]
      refine wpAnyH_done (by kernel_rfl) ?_ _
      have r0 := G_R0.at_ (j := 0) rfl
      have r1 := G_R0.at_ (j := 1) rfl
      have r2 := G_R0.at_ (j := 2) rfl
      have r3 := G_R0.at_ (j := 3) rfl
      have r4 := G_R0.at_ (j := 4) rfl
      have r5 := G_R0.at_ (j := 5) rfl
      have r6 := G_R0.at_ (j := 6) rfl
      have HBE := hHeld.2.1.2.2
      obtain ⟨A8, c8, hv8, hF8⟩ := fr_of_own hHeld.2.2.1
      injection hv8 with q1 q2 q3
      subst q1 q3
      have HR9 := hF8.rd.mono (lo' := w.heap.size) (hi' := v1.heap.size) (by omega) (Nat.le_refl _)
      clear hHeld hF8 q2
      go_wp2_with fail
      exact bodyPost_ret (v := .tuple #[.slice A' l.length c', .agg #[.int .i64 z.f0, .int .i64 z.f1, .int .i64 z.f2, .int .i64 z.f3, .int .i64 z.f4, .int .i64 z.f5, .bool z.f6]]) (by simp [results, Try.results29, go_sem, r0, r1, r2, r3, r4, r5, r6]) rfl ⟨_, _, l, z, rfl, by omega, HU.out, HFZ.out, HR9, HBE⟩
    · skip
      have HN := Lib.hid (show (Value.slice A' l.length c').ownBlock ≠ some w3.heap.size from by
        intro e
        have := NK.out _ e
        omega)
      go_wp2_with fail
      go_loopg [5] (16 - l.length) (fun gg u wr => ∃ l : List TGrant, 16 - l.length ≤ gg ∧ l.length ≤ 16 ∧ Hid (∀ x ∈ l, TGrant.fit x) ∧ Hid (wr.ownsRow w1.heap.size 50 7 u l.length (l.flatMap TGrant.cells)) ∧ Hid (u.ownBlock ≠ some w3.heap.size) ∧ Hid (BoxAt wr w3.heap.size 50 #[.int .i64 z.f0, .int .i64 z.f1, .int .i64 z.f2, .int .i64 z.f3, .int .i64 z.f4, .int .i64 z.f5, .bool z.f6]) ∧ Hid (BoxAt wr w.heap.size 50 #[.int .i64 0, .int .i64 0, .int .i64 0, .int .i64 0, .int .i64 0, .int .i64 0, .bool false]) ∧ Hid (Cur wr (w.heap.size + 1) A n cap) ∧ Hid (Below w.heap.size w wr))
      case atStart => exact ⟨l, Nat.le_refl _, by omega, HU, HO, HN, KG, R0, HC, HB⟩
      case round =>
        obtain ⟨m, hgm, hm, HU, HO, HN, KG, R0, HC, HB⟩ := hrel
        obtain ⟨A', c', rfl, hF⟩ := fr_of_own HO.out
        clear hF
        have lK := KG.out.lt
        by_cases hlt : m.length < 16
        · have HXB := Lib.hid (show ∀ y ∈ m ++ [(⟨1, 0, 0, 1, 0, m.length, false⟩ : TGrant)], TGrant.fit y from fun y hy => by
            rcases List.mem_append.1 hy with hy | hy
            · exact HU.out y hy
            · rw [List.mem_singleton.1 hy]; unfold TGrant.fit; simp only; omega)
          have HCX := Lib.hid (show m.flatMap TGrant.cells ++ (#[.int .i64 1, .int .i64 0, .int .i64 0, .int .i64 1, .int .i64 0, .int .i64 m.length, .bool false] : Array Value).toList = (m ++ [(⟨1, 0, 0, 1, 0, m.length, false⟩ : TGrant)]).flatMap TGrant.cells by simp [List.flatMap_append, TGrant.cells])
          go_wp2_with (at_builtin; refine wp_app_lith rfl _ _ _ rfl w1.heap.size 50 (.agg #[.int .i64 0, .int .i64 0, .int .i64 0, .int .i64 0, .int .i64 0, .int .i64 0, .bool false]) 7 56 Try.underlying45 infoGrant rfl (by decide) _ _ _ rfl HO.out #[.int .i64 1, .int .i64 0, .int .i64 0, .int .i64 1, .int .i64 0, .int .i64 m.length, .bool false] 1 1 _ rfl (by simp) rfl (onesGrant ⟨1, 0, 0, 1, 0, m.length, false⟩) (by unfold maxLen; omega) (by omega) (by omega) ?_; intro v1 w8 ho2 hb2 hg2 hv2; have HO2 := Lib.hid ho2; have HB2 := Lib.hid hb2; have HG2 := Lib.hid hg2; have HV2 := Lib.hid hv2; clear ho2 hb2 hg2 hv2)
          have HN2 := Lib.hid (show v1.ownBlock ≠ some w3.heap.size from by
            rcases HV2.out with e | e
            · rw [e]; exact HN.out
            · rw [e]; intro e2; injection e2; omega)
          go_roundg (16 - (m.length + 1))
          case measure => omega
          case rel => exact ⟨m ++ [(⟨1, 0, 0, 1, 0, m.length, false⟩ : TGrant)], by simp, by simp; omega, HXB, Lib.hid (by rw [← HCX.out]; simpa using HO2.out), HN2, Lib.hid (box_own (KG.out.alloc_ _) HG2.out HN.out), Lib.hid (dr_box_low R0.out HB2.out (by omega)), Lib.hid (dr_cur_low HC.out (by omega) HB2.out), Lib.hid (HB.out.trans (HB2.out.mono (by omega)))⟩
        · skip
          go_upto_region 9 with fail
          refine wp_region_held_drew (S := fun w' => BoxAt w' w3.heap.size 50 #[.int .i64 z.f0, .int .i64 z.f1, .int .i64 z.f2, .int .i64 z.f3, .int .i64 z.f4, .int .i64 z.f5, .bool z.f6] ∧ DatO w (w.heap.size + 1) A n cap [(w.heap.size, 50, 7)] w1.heap.size 50 7 (Value.slice A' m.length c') m.length (m.flatMap TGrant.cells) w') (by kernel_rfl) ?_ (fun hHeld => ?_)
          · exact ⟨KG.out.drw, (DatO.mk_ HO.out (by omega) (rs := [(w.heap.size, 50, 7)]) HB.out HC.out (by simp only [List.mem_cons, List.not_mem_nil, or_false, forall_eq_or_imp, forall_eq]; exact ⟨_, rfl, R0.out⟩)).drw⟩
          refine wpAnyH_take (i := 0) (oi := ⟨some 38, _, _, _, _, _⟩) (v := ?_) rfl (by kernel_rfl) (by kernel_rfl) (by kernel_rfl) (fun _ _ _ h => h) (Or.inl ⟨by kernel_rfl, ?_⟩) hHeld ?_
          rotate_left
          focus (intro W hS; skip; clear hS; first | (go_simp; done) | (go_simp; with_reducible rfl))
          try simp only [Act.put, List.setIfInBounds_toArray, List.set_cons_zero, List.set_cons_succ]
          refine wpAnyH_take (i := 1) (oi := ⟨some 39, _, _, _, _, _⟩) (v := ?_) rfl (by kernel_rfl) (by kernel_rfl) (by kernel_rfl) (fun _ _ _ h => h) (Or.inl ⟨by kernel_rfl, ?_⟩) hHeld ?_
          rotate_left
          focus (intro W hS; have c0_0 := (hS.1).at_ (j := 0) rfl; have c0_1 := (hS.1).at_ (j := 1) rfl; have c0_2 := (hS.1).at_ (j := 2) rfl; have c0_3 := (hS.1).at_ (j := 3) rfl; have c0_4 := (hS.1).at_ (j := 4) rfl; have c0_5 := (hS.1).at_ (j := 5) rfl; have c0_6 := (hS.1).at_ (j := 6) rfl; clear hS; first | (go_simp; done) | (go_simp; with_reducible rfl))
          try simp only [Act.put, List.setIfInBounds_toArray, List.set_cons_zero, List.set_cons_succ]
          refine wpAnyH_take (i := 2) (oi := ⟨some 2, _, _, _, _, _⟩) (v := ?_) rfl (by kernel_rfl) (by kernel_rfl) (by kernel_rfl) (fun _ _ _ h => h) (Or.inl ⟨by kernel_rfl, ?_⟩) hHeld ?_
          rotate_left
          focus (intro W hS; skip; clear hS; first | (go_simp; done) | (go_simp; with_reducible rfl))
          try simp only [Act.put, List.setIfInBounds_toArray, List.set_cons_zero, List.set_cons_succ]
          refine wpAnyH_ready (rs := [3]) (by kernel_rfl) (by simp) ?_
          refine AllReadyH.cons (o := ⟨none, _, _, _, _, _⟩) rfl (fun K hK => ?_) AllReadyH.nil
          rw [if_pos (by rfl)]
          obtain ⟨cz0, hs0, hz0⟩ := hHeld.2.1.1 (w.heap.size, 50, 7) (by simp)
          refine wp_store_row 50 _ _ rfl w.heap.size #[.int .i64 z.f0, .int .i64 z.f1, .int .i64 z.f2, .int .i64 z.f3, .int .i64 z.f4, .int .i64 z.f5, .bool z.f6] rfl rfl 50 _ hz0 (by kernel_rfl) hs0 (by kernel_rfl) ?_
          have G_R0 := box_row (cs := #[.int .i64 z.f0, .int .i64 z.f1, .int .i64 z.f2, .int .i64 z.f3, .int .i64 z.f4, .int .i64 z.f5, .bool z.f6]) hz0
          have hHeld2 := hHeld.2.row w.heap.size (by omega) (by omega) #[.int .i64 z.f0, .int .i64 z.f1, .int .i64 z.f2, .int .i64 z.f3, .int .i64 z.f4, .int .i64 z.f5, .bool z.f6] (by simp)
          have hb0 := box_far (cs := #[.int .i64 z.f0, .int .i64 z.f1, .int .i64 z.f2, .int .i64 z.f3, .int .i64 z.f4, .int .i64 z.f5, .bool z.f6]) (g := w.heap.size) hHeld.1 (by omega)
          clear hz0
          generalize World.setRow _ w.heap.size #[.int .i64 z.f0, .int .i64 z.f1, .int .i64 z.f2, .int .i64 z.f3, .int .i64 z.f4, .int .i64 z.f5, .bool z.f6] = v1 at G_R0 hHeld2 hb0 ⊢
          refine hK.out _ _ ⟨hb0, hHeld2⟩ (fun hHeld' => ?_)
          clear hK K hHeld hHeld2 hb0; have hHeld := hHeld'; clear hHeld'
          try simp only [Act.put, List.setIfInBounds_toArray, List.set_cons_zero, List.set_cons_succ]
          refine wpAnyH_done (by kernel_rfl) ?_ _
          have r0 := G_R0.at_ (j := 0) rfl
          have r1 := G_R0.at_ (j := 1) rfl
          have r2 := G_R0.at_ (j := 2) rfl
          have r3 := G_R0.at_ (j := 3) rfl
          have r4 := G_R0.at_ (j := 4) rfl
          have r5 := G_R0.at_ (j := 5) rfl
          have r6 := G_R0.at_ (j := 6) rfl
          have HBE := hHeld.2.1.2.2
          obtain ⟨A8, c8, hv8, hF8⟩ := fr_of_own hHeld.2.2.1
          injection hv8 with q1 q2 q3
          subst q1 q3
          have HR9 := hF8.rd.mono (lo' := w.heap.size) (hi' := v1.heap.size) (by omega) (Nat.le_refl _)
          clear hHeld hF8 q2
          go_wp2_with fail
          exact bodyPost_ret (v := .tuple #[.slice A' m.length c', .agg #[.int .i64 z.f0, .int .i64 z.f1, .int .i64 z.f2, .int .i64 z.f3, .int .i64 z.f4, .int .i64 z.f5, .bool z.f6]]) (by simp [results, Try.results29, go_sem, r0, r1, r2, r3, r4, r5, r6]) rfl ⟨_, _, m, z, rfl, by omega, HU.out, HFZ.out, HR9, HBE⟩
end Go.Proofs.Ytlnmgfbfpjfddaa
