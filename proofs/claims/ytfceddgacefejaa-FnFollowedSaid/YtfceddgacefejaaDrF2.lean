/- DrawFollowRequest. No condition of its own. -/
import Derived.Test.YtfceddgacefejaaDrF
import Derived.Test.YtfceddgacefejaaDrY
import Derived.Deep.Cut
import Derived.Deep.LoopGhost
import Derived.Deep.RegionHeld3
namespace Go.Proofs.Ytfceddgacefejaa
open Go Go.ChangeShapes Go.WideShapes Go.ChangeAt Go.RowKit Go.Lib
set_option linter.unusedVariables false
set_option linter.unusedSimpArgs false
set_option maxRecDepth 100000
theorem rd_top {w : World} {lo hi size n : Nat} {A : Option Addr} {xs : List Value} (h : Rd w lo hi size A n xs) (hs : 0 < size) : Rd w lo w.heap.size size A n xs :=
  ⟨h.1, fun hn => by
    obtain ⟨b, off, e, hl, _, hc⟩ := h.2 hn
    have hlt : 0 < xs.length := by rw [h.1]; exact Nat.mul_pos hn hs
    exact ⟨b, off, e, hl, World.block_lt_of_cell? _ _ (hc 0 _ (List.getElem?_eq_getElem hlt)), hc⟩⟩
/-- A list of rules and a request are drawn. -/
def DrawnFR (w : World) (e : Ending) (w' : World) : Prop :=
  ∃ (A : Option Addr) (c : Nat) (l : List TRule) (q : TRequest), e = .returned (.tuple #[.slice A l.length c, .agg #[.int .i64 q.f0, .int .i64 q.f1, .int .i64 q.f2]]) ∧ l.length ≤ 12 ∧ (∀ y ∈ l, y.fit) ∧ q.fit ∧ Rd w' w.heap.size w'.heap.size 8 A l.length (cRule l) ∧ Below w.heap.size w w'
set_option maxHeartbeats 32000000 in
theorem drawFR_any (n cap : Nat) (A : Option Addr) (w : World) (hn : n ≤ 140737488355328) (hb : BytesAt w w.heap.size A n) :
    Calls Try.prog 45 #[.slice A n cap] w (DrawnFR w) := by
  have hn' : n ≤ maxLen := by unfold maxLen; omega
  have HY := Lib.hid hb
  have R0 := Lib.hid (show BoxAt (w.alloc (.cells #[.int .i64 0, .int .i64 0, .int .i64 0] 57)) w.heap.size 57 #[.int .i64 0, .int .i64 0, .int .i64 0] from by simpa using box_new w 57 #[.int .i64 0, .int .i64 0, .int .i64 0])
  have HB := Lib.hid ((Below.refl w.heap.size w).alloc (by first | exact Nat.le_refl _ | (simp; done) | (simp; omega)) (.cells #[.int .i64 0, .int .i64 0, .int .i64 0] 57))
  clear hb
  go_enter Try.func45, Try.ntmps45
  go_wp2_with fail
  refine Calls.mono (dr_new n cap A w _ (w.heap.size + 1) (by simp) hn HY.out HB.out) ?_
  rintro e w1 ⟨rfl, hc, hb1⟩
  have HC := Lib.hid hc
  replace R0 := Lib.hid (dr_box_low R0.out hb1 (by omega))
  replace HB := Lib.hid (HB.out.trans (hb1.mono (by omega)))
  have l1 : (w.heap.size + 1) < w1.heap.size := HC.out.lt
  clear hc hb1
  go_wp2_with fail
  refine Calls.mono (send_any (w.heap.size + 1) n cap A _ hn' HC.out) ?_
  rintro e w2 ⟨v, l, rfl, hl, hu, ho, hc, hg⟩
  have sz2 : w1.heap.size ≤ w2.heap.size := hg.size
  
  replace R0 := Lib.hid (R0.out.grown hg (by omega))
  replace HB := Lib.hid (dr_below HB.out (by omega) hg)
  replace HC := Lib.hid hc
  have l2 : (w.heap.size + 1) < w2.heap.size := HC.out.lt
  clear hc hg
  have HU := Lib.hid hu
  clear hu
  obtain ⟨A', c', rfl, hF⟩ := fr_of_own ho
  obtain ⟨hh, hhe⟩ : ∃ x, x = w2.heap.size := ⟨_, rfl⟩
  rw [← hhe] at hF
  have hhl : hh ≤ w2.heap.size := by omega
  clear hhe
  have HF := Lib.hid hF
  clear ho hF
  go_wp2_with fail
  refine Calls.mono (req_any (w.heap.size + 1) n cap A _ hn' HC.out) ?_
  rintro e w3 ⟨q0, hq, rfl, hc, hg⟩
  have sz3 : w2.heap.size ≤ w3.heap.size := hg.size
  replace HF := Lib.hid (fr_grownL HF.out hg (by omega))
  replace R0 := Lib.hid (R0.out.grown hg (by omega))
  replace HB := Lib.hid (dr_below HB.out (by omega) hg)
  replace HC := Lib.hid hc
  have l3 : (w.heap.size + 1) < w3.heap.size := HC.out.lt
  clear hc hg
  obtain ⟨x3, hx⟩ : ∃ x, x = World.setRow (w3.alloc (.cells #[.int .i64 0, .int .i64 0, .int .i64 0] 57)) w3.heap.size #[.int .i64 q0.f0, .int .i64 q0.f1, .int .i64 q0.f2] := ⟨_, rfl⟩
  have HX3 := Lib.hid hx
  have OLD3 := Lib.hid (box_new w3 57 #[.int .i64 0, .int .i64 0, .int .i64 0])
  replace R0 := Lib.hid (show BoxAt x3 w.heap.size 57 #[.int .i64 0, .int .i64 0, .int .i64 0] by rw [hx]; exact box_far (R0.out.alloc_ _) (by omega))
  have KQ := Lib.hid (show BoxAt x3 w3.heap.size 57 #[.int .i64 q0.f0, .int .i64 q0.f1, .int .i64 q0.f2] by rw [hx]; exact box_row OLD3.out)
  replace HC := Lib.hid (show Cur x3 (w.heap.size + 1) A n cap by rw [hx]; exact dr_cur_row (HC.out.new _) (by omega) _)
  replace HB := Lib.hid (show Below w.heap.size w x3 by rw [hx]; exact below_setRow (HB.out.alloc (by have := HB.out.size; omega) _) (by omega) _)
  have m3 : w3.heap.size < x3.heap.size := KQ.out.lt
  clear hx
  have HQF := Lib.hid hq
  clear hq
  replace HF := Lib.hid (show Fr x3 w1.heap.size hh 165 8 A' l.length c' (cRule l) by rw [HX3.out]; exact HF.out.keep fun b h1 h2 h3 => (setRow_other _ _ b _ (by omega)).trans (Below.heap_alloc _ _ b h3))
  have szX : w3.heap.size ≤ x3.heap.size := by omega
  go_wp2_with (refine wpList_store_row rfl 57 _ _ rfl w3.heap.size #[.int .i64 q0.f0, .int .i64 q0.f1, .int .i64 q0.f2] rfl rfl 57 _ OLD3.out (by kernel_rfl) (by kernel_rfl) (by kernel_rfl) ?_; rw [← HX3.out]; clear HX3 OLD3)
  refine Calls.mono (once_any (w.heap.size + 1) n cap A 10 _ hn' HC.out (by omega) (by omega)) ?_
  rintro e w4 ⟨b1, rfl, hc, hg⟩
  have sz4 : x3.heap.size ≤ w4.heap.size := hg.size
  replace HF := Lib.hid (fr_grownL HF.out hg (by omega))
  replace R0 := Lib.hid (R0.out.grown hg (by omega))
  replace KQ := Lib.hid (KQ.out.grown hg (by omega))
  replace HB := Lib.hid (dr_below HB.out (by omega) hg)
  replace HC := Lib.hid hc
  have l4 : (w.heap.size + 1) < w4.heap.size := HC.out.lt
  clear hc hg
  cases b1
  · skip
    obtain ⟨q, hq⟩ : ∃ q, q = q0 := ⟨_, rfl⟩
    subst hq
    go_wp2_with fail
    refine Calls.mono (once_any (w.heap.size + 1) n cap A 12 _ hn' HC.out (by omega) (by omega)) ?_
    rintro e w5 ⟨b2, rfl, hc, hg⟩
    have sz5 : w4.heap.size ≤ w5.heap.size := hg.size
    replace HF := Lib.hid (fr_grownL HF.out hg (by omega))
    replace R0 := Lib.hid (R0.out.grown hg (by omega))
    replace KQ := Lib.hid (KQ.out.grown hg (by omega))
    replace HB := Lib.hid (dr_below HB.out (by omega) hg)
    replace HC := Lib.hid hc
    have l5 : (w.heap.size + 1) < w5.heap.size := HC.out.lt
    clear hc hg
    cases b2
    · skip
      go_upto_region 12 with fail
      refine wp_region_held_drew (S := fun w' => BoxAt w' w3.heap.size 57 #[.int .i64 q.f0, .int .i64 q.f1, .int .i64 q.f2] ∧ DatL w (w.heap.size + 1) A n cap [(w.heap.size, 57, 3)] [⟨w1.heap.size, hh, 165, 8, A', l.length, c', cRule l⟩] w') (by kernel_rfl) ?_ (fun hHeld => ?_)
      · exact ⟨KQ.out.drw, (DatL.mk_ (fs := [⟨w1.heap.size, hh, 165, 8, A', l.length, c', cRule l⟩]) (rs := [(w.heap.size, 57, 3)]) (by simp only [List.mem_cons, List.not_mem_nil, or_false, forall_eq_or_imp, forall_eq]; exact ⟨by omega, HF.out⟩) HB.out HC.out (by simp only [List.mem_cons, List.not_mem_nil, or_false, forall_eq_or_imp, forall_eq]; exact ⟨_, rfl, R0.out⟩)).drw⟩
      refine wpAnyH_take (i := 0) (oi := ⟨some 33, _, _, _, _, _⟩) (v := ?_) rfl (by kernel_rfl) (by kernel_rfl) (by kernel_rfl) (fun _ _ _ h => h) (Or.inl ⟨by kernel_rfl, ?_⟩) hHeld ?_
      rotate_left
      focus (intro W hS; skip; clear hS; first | (go_simp; done) | (go_simp; with_reducible rfl))
      try simp only [Act.put, List.setIfInBounds_toArray, List.set_cons_zero, List.set_cons_succ]
      refine wpAnyH_take (i := 1) (oi := ⟨some 34, _, _, _, _, _⟩) (v := ?_) rfl (by kernel_rfl) (by kernel_rfl) (by kernel_rfl) (fun _ _ _ h => h) (Or.inl ⟨by kernel_rfl, ?_⟩) hHeld ?_
      rotate_left
      focus (intro W hS; have c0_0 := (hS.1).at_ (j := 0) rfl; have c0_1 := (hS.1).at_ (j := 1) rfl; have c0_2 := (hS.1).at_ (j := 2) rfl; clear hS; first | (go_simp; done) | (go_simp; with_reducible rfl))
      try simp only [Act.put, List.setIfInBounds_toArray, List.set_cons_zero, List.set_cons_succ]
      refine wpAnyH_take (i := 2) (oi := ⟨some 2, _, _, _, _, _⟩) (v := ?_) rfl (by kernel_rfl) (by kernel_rfl) (by kernel_rfl) (fun _ _ _ h => h) (Or.inl ⟨by kernel_rfl, ?_⟩) hHeld ?_
      rotate_left
      focus (intro W hS; skip; clear hS; first | (go_simp; done) | (go_simp; with_reducible rfl))
      try simp only [Act.put, List.setIfInBounds_toArray, List.set_cons_zero, List.set_cons_succ]
      refine wpAnyH_ready (rs := [3]) (by kernel_rfl) (by simp) ?_
      refine AllReadyH.cons (o := ⟨none, _, _, _, _, _⟩) rfl (fun K hK => ?_) AllReadyH.nil
      rw [if_pos (by rfl)]
      obtain ⟨cz0, hs0, hz0⟩ := hHeld.2.1.1 (w.heap.size, 57, 3) (by simp)
      refine wp_store_row 57 _ _ rfl w.heap.size #[.int .i64 q.f0, .int .i64 q.f1, .int .i64 q.f2] rfl rfl 57 _ hz0 (by kernel_rfl) hs0 (by kernel_rfl) ?_
      have G_R0 := box_row (cs := #[.int .i64 q.f0, .int .i64 q.f1, .int .i64 q.f2]) hz0
      have hHeld2 := hHeld.2.row w.heap.size (by omega) (by omega) #[.int .i64 q.f0, .int .i64 q.f1, .int .i64 q.f2] (by simp)
      have hb0 := box_far (cs := #[.int .i64 q.f0, .int .i64 q.f1, .int .i64 q.f2]) (g := w.heap.size) hHeld.1 (by omega)
      clear hz0
      generalize World.setRow _ w.heap.size #[.int .i64 q.f0, .int .i64 q.f1, .int .i64 q.f2] = v1 at G_R0 hHeld2 hb0 ⊢
      refine hK.out _ _ ⟨hb0, hHeld2⟩ (fun hHeld' => ?_)
      clear hK K hHeld hHeld2 hb0; have hHeld := hHeld'; clear hHeld'
      try simp only [Act.put, List.setIfInBounds_toArray, List.set_cons_zero, List.set_cons_succ]
      refine wpAnyH_done (by kernel_rfl) ?_ _
      have r0 := G_R0.at_ (j := 0) rfl
      have r1 := G_R0.at_ (j := 1) rfl
      have r2 := G_R0.at_ (j := 2) rfl
      have HBE := hHeld.2.1.2.2
      have hfs := hHeld.2.2
      simp only [List.mem_cons, List.not_mem_nil, or_false, forall_eq_or_imp, forall_eq] at hfs
      obtain ⟨_, hF1⟩ := hfs
      have HR1 := (rd_top hF1.rd (by decide)).mono (lo' := w.heap.size) (hi' := v1.heap.size) (by omega) (Nat.le_refl _)
      clear hHeld hF1
      go_wp2_with fail
      exact bodyPost_ret (v := .tuple #[.slice A' l.length c', .agg #[.int .i64 q.f0, .int .i64 q.f1, .int .i64 q.f2]]) (by simp [results, Try.results45, go_sem, r0, r1, r2] <;> omega) rfl ⟨_, _, l, q, rfl, by omega, HU.out, HQF.out, HR1, HBE⟩
    · skip
      have HO := Lib.hid (World.ownsRow_lit (e := 165) (size := 8) w5 #[] 0 (Nat.le_refl _) (by unfold maxLen; omega) rfl)
      replace KQ := Lib.hid (KQ.out.alloc_ (.cells #[] 165))
      replace R0 := Lib.hid (R0.out.alloc_ (.cells #[] 165))
      replace HC := Lib.hid (HC.out.new (.cells #[] 165))
      replace HB := Lib.hid (HB.out.alloc (by omega) (.cells #[] 165))
      have lKW : w3.heap.size < w5.heap.size := by omega
      clear HF HU
      go_wp2_with fail
      go_loopg [5, 7] 8 (fun gg u i wr => ∃ (k : Nat) (m : List TRule), k ≤ 8 ∧ 8 - k ≤ gg ∧ m.length = k ∧ Hid (∀ x ∈ m, TRule.fit x) ∧ i = .int .i64 (1 + (k : Int)) ∧ Hid (wr.ownsRow w5.heap.size 165 8 u m.length (m.flatMap TRule.cells)) ∧ Hid (BoxAt wr w3.heap.size 57 #[.int .i64 q.f0, .int .i64 q.f1, .int .i64 q.f2]) ∧ Hid (BoxAt wr w.heap.size 57 #[.int .i64 0, .int .i64 0, .int .i64 0]) ∧ Hid (Cur wr (w.heap.size + 1) A n cap) ∧ Hid (Below w.heap.size w wr) ∧ w5.heap.size ≤ wr.heap.size)
      case atStart => exact ⟨0, [], Nat.zero_le _, by omega, rfl, Lib.hid (fun _ h => by cases h), rfl, HO, KQ, R0, HC, HB, by simp⟩
      case round =>
        clear HO KQ R0 HC HB
        obtain ⟨k, m, hk, hgk, hmk, HM, rfl, HO, KQ, R0, HC, HB, hsr⟩ := hrel
        have lC : (w.heap.size + 1) < wr.heap.size := HC.out.lt
        by_cases hlt : k < 8
        · have hle : (1 + (k : Int) ≤ 8) := by omega
          have hw1 : IntKind.i64.wrap (1 + (k : Int) + 1) = 1 + (k : Int) + 1 := IntWalk.i64_in _ (by omega)
          have HX := Lib.hid (show m.flatMap TRule.cells ++ (#[.int .i64 1, .int .i64 1, .int .i64 (1 + (k : Int)), .int .i64 (-1), .int .i64 0, .int .i64 3, .int .i64 (1 + (k : Int) + 1), .int .i64 0] : Array Value).toList = (m ++ [(⟨1, 1, 1 + (k : Int), -1, 0, 3, 1 + (k : Int) + 1, 0⟩ : TRule)]).flatMap TRule.cells by simp [List.flatMap_append, TRule.cells])
          have HXB := Lib.hid (show ∀ z ∈ m ++ [(⟨1, 1, 1 + (k : Int), -1, 0, 3, 1 + (k : Int) + 1, 0⟩ : TRule)], TRule.fit z from fun z hz => by
            rcases List.mem_append.1 hz with hz | hz
            · exact HM.out z hz
            · rw [List.mem_singleton.1 hz]; unfold TRule.fit; simp only; omega)
          go_wp2_with (at_builtin; refine wp_app_lit rfl _ _ _ rfl w5.heap.size 165 (.agg #[.int .i64 0, .int .i64 0, .int .i64 0, .int .i64 0, .int .i64 0, .int .i64 0, .int .i64 0, .int .i64 0]) 8 64 Try.underlying55 infoRule rfl (by decide) _ _ _ rfl HO.out #[.int .i64 1, .int .i64 1, .int .i64 (1 + (k : Int)), .int .i64 (-1), .int .i64 0, .int .i64 3, .int .i64 (1 + (k : Int) + 1), .int .i64 0] 1 1 _ rfl (by simp) rfl (onesRule ⟨1, 1, 1 + (k : Int), -1, 0, 3, 1 + (k : Int) + 1, 0⟩) (by unfold maxLen; omega) (by omega) (by omega) ?_; intro v1 w8 ho2 hb2; have HO2 := Lib.hid ho2; have HB2 := Lib.hid hb2; clear ho2 hb2)
          go_roundg (8 - (k + 1))
          case measure => omega
          case rel => exact ⟨k + 1, m ++ [(⟨1, 1, 1 + (k : Int), -1, 0, 3, 1 + (k : Int) + 1, 0⟩ : TRule)], by omega, by omega, by simp; omega, HXB, by go_num, Lib.hid (by rw [← HX.out]; simpa using HO2.out), Lib.hid (dr_box_low KQ.out HB2.out lKW), Lib.hid (dr_box_low R0.out HB2.out (by omega)), Lib.hid (dr_cur_low HC.out (by omega) HB2.out), Lib.hid (HB.out.trans (HB2.out.mono (by omega))), by have := HB2.out.size; omega⟩
        · skip
          have hk8 : ¬ (1 + (k : Int) ≤ 8) := by omega
          obtain ⟨A2, c2, rfl, hF2⟩ := fr_of_own HO.out
          obtain ⟨h2, hhe⟩ : ∃ x, x = wr.heap.size := ⟨_, rfl⟩
          rw [← hhe] at hF2
          have HF := Lib.hid hF2
          have hnm : m.length ≤ 12 := by omega
          have lK : w3.heap.size < wr.heap.size := KQ.out.lt
          clear hF2 HO
          have hh2 : h2 ≤ wr.heap.size := by omega
          go_upto_region 12 with fail
          refine wp_region_held_drew (S := fun w' => BoxAt w' w3.heap.size 57 #[.int .i64 q.f0, .int .i64 q.f1, .int .i64 q.f2] ∧ DatL w (w.heap.size + 1) A n cap [(w.heap.size, 57, 3)] [⟨w5.heap.size, h2, 165, 8, A2, m.length, c2, cRule m⟩] w') (by kernel_rfl) ?_ (fun hHeld => ?_)
          · exact ⟨KQ.out.drw, (DatL.mk_ (fs := [⟨w5.heap.size, h2, 165, 8, A2, m.length, c2, cRule m⟩]) (rs := [(w.heap.size, 57, 3)]) (by simp only [List.mem_cons, List.not_mem_nil, or_false, forall_eq_or_imp, forall_eq]; exact ⟨by omega, HF.out⟩) HB.out HC.out (by simp only [List.mem_cons, List.not_mem_nil, or_false, forall_eq_or_imp, forall_eq]; exact ⟨_, rfl, R0.out⟩)).drw⟩
          refine wpAnyH_take (i := 0) (oi := ⟨some 33, _, _, _, _, _⟩) (v := ?_) rfl (by kernel_rfl) (by kernel_rfl) (by kernel_rfl) (fun _ _ _ h => h) (Or.inl ⟨by kernel_rfl, ?_⟩) hHeld ?_
          rotate_left
          focus (intro W hS; skip; clear hS; first | (go_simp; done) | (go_simp; with_reducible rfl))
          try simp only [Act.put, List.setIfInBounds_toArray, List.set_cons_zero, List.set_cons_succ]
          refine wpAnyH_take (i := 1) (oi := ⟨some 34, _, _, _, _, _⟩) (v := ?_) rfl (by kernel_rfl) (by kernel_rfl) (by kernel_rfl) (fun _ _ _ h => h) (Or.inl ⟨by kernel_rfl, ?_⟩) hHeld ?_
          rotate_left
          focus (intro W hS; have c0_0 := (hS.1).at_ (j := 0) rfl; have c0_1 := (hS.1).at_ (j := 1) rfl; have c0_2 := (hS.1).at_ (j := 2) rfl; clear hS; first | (go_simp; done) | (go_simp; with_reducible rfl))
          try simp only [Act.put, List.setIfInBounds_toArray, List.set_cons_zero, List.set_cons_succ]
          refine wpAnyH_take (i := 2) (oi := ⟨some 2, _, _, _, _, _⟩) (v := ?_) rfl (by kernel_rfl) (by kernel_rfl) (by kernel_rfl) (fun _ _ _ h => h) (Or.inl ⟨by kernel_rfl, ?_⟩) hHeld ?_
          rotate_left
          focus (intro W hS; skip; clear hS; first | (go_simp; done) | (go_simp; with_reducible rfl))
          try simp only [Act.put, List.setIfInBounds_toArray, List.set_cons_zero, List.set_cons_succ]
          refine wpAnyH_ready (rs := [3]) (by kernel_rfl) (by simp) ?_
          refine AllReadyH.cons (o := ⟨none, _, _, _, _, _⟩) rfl (fun K hK => ?_) AllReadyH.nil
          rw [if_pos (by rfl)]
          obtain ⟨cz0, hs0, hz0⟩ := hHeld.2.1.1 (w.heap.size, 57, 3) (by simp)
          refine wp_store_row 57 _ _ rfl w.heap.size #[.int .i64 q.f0, .int .i64 q.f1, .int .i64 q.f2] rfl rfl 57 _ hz0 (by kernel_rfl) hs0 (by kernel_rfl) ?_
          have G_R0 := box_row (cs := #[.int .i64 q.f0, .int .i64 q.f1, .int .i64 q.f2]) hz0
          have hHeld2 := hHeld.2.row w.heap.size (by omega) (by omega) #[.int .i64 q.f0, .int .i64 q.f1, .int .i64 q.f2] (by simp)
          have hb0 := box_far (cs := #[.int .i64 q.f0, .int .i64 q.f1, .int .i64 q.f2]) (g := w.heap.size) hHeld.1 (by omega)
          clear hz0
          generalize World.setRow _ w.heap.size #[.int .i64 q.f0, .int .i64 q.f1, .int .i64 q.f2] = v1 at G_R0 hHeld2 hb0 ⊢
          refine hK.out _ _ ⟨hb0, hHeld2⟩ (fun hHeld' => ?_)
          clear hK K hHeld hHeld2 hb0; have hHeld := hHeld'; clear hHeld'
          try simp only [Act.put, List.setIfInBounds_toArray, List.set_cons_zero, List.set_cons_succ]
          refine wpAnyH_done (by kernel_rfl) ?_ _
          have r0 := G_R0.at_ (j := 0) rfl
          have r1 := G_R0.at_ (j := 1) rfl
          have r2 := G_R0.at_ (j := 2) rfl
          have HBE := hHeld.2.1.2.2
          have hfs := hHeld.2.2
          simp only [List.mem_cons, List.not_mem_nil, or_false, forall_eq_or_imp, forall_eq] at hfs
          obtain ⟨_, hF1⟩ := hfs
          have HR1 := (rd_top hF1.rd (by decide)).mono (lo' := w.heap.size) (hi' := v1.heap.size) (by omega) (Nat.le_refl _)
          clear hHeld hF1
          go_wp2_with fail
          exact bodyPost_ret (v := .tuple #[.slice A2 m.length c2, .agg #[.int .i64 q.f0, .int .i64 q.f1, .int .i64 q.f2]]) (by simp [results, Try.results45, go_sem, r0, r1, r2] <;> omega) rfl ⟨_, _, m, q, rfl, by omega, HM.out, HQF.out, HR1, HBE⟩
  · skip
    have e2 := KQ.out.at_ (j := 2) rfl
    have f2 := KQ.out.free 2
    obtain ⟨x9, hx⟩ : ∃ X, X = World.setCell w4 ⟨w3.heap.size, 2, none⟩ (.int .i64 0) := ⟨_, rfl⟩
    have HX9 := Lib.hid hx
    obtain ⟨q, hz⟩ : ∃ z : TRequest, z = ⟨q0.f0, q0.f1, 0⟩ := ⟨_, rfl⟩
    have HQG := Lib.hid (show q.fit by rw [hz]; have := HQF.out; unfold TRequest.fit at this ⊢; simp only; omega)
    clear HQF
    have HQF := HQG
    clear HQG
    replace KQ := Lib.hid (show BoxAt x9 w3.heap.size 57 #[.int .i64 q.f0, .int .i64 q.f1, .int .i64 q.f2] by rw [hx, hz]; exact dr_put_box KQ.out 2 _)
    replace R0 := Lib.hid (show BoxAt x9 w.heap.size 57 #[.int .i64 0, .int .i64 0, .int .i64 0] by rw [hx]; exact dr_put_far R0.out (by omega))
    replace HC := Lib.hid (show Cur x9 (w.heap.size + 1) A n cap by rw [hx]; exact dr_cur_put (p := ⟨w3.heap.size, 2, none⟩) HC.out (by show (w.heap.size + 1) < w3.heap.size; omega))
    replace HB := Lib.hid (show Below w.heap.size w x9 by rw [hx]; exact HB.out.setCell (by show w.heap.size ≤ w3.heap.size; omega) _)
    replace HF := Lib.hid (show Fr x9 w1.heap.size hh 165 8 A' l.length c' (cRule l) by rw [hx]; exact HF.out.keep fun b h1 h2 h3 => Below.heap_setCell _ _ _ b (by show b ≠ w3.heap.size; omega))
    have sz9 : w4.heap.size = x9.heap.size := by rw [hx]; simp [World.setCell]
    have l9 : w3.heap.size < x9.heap.size := KQ.out.lt
    clear hx hz
    go_wp2_with fail
    rw [← HX9.out]
    clear e2 f2 HX9
    refine Calls.mono (once_any (w.heap.size + 1) n cap A 12 _ hn' HC.out (by omega) (by omega)) ?_
    rintro e w5 ⟨b2, rfl, hc, hg⟩
    have sz5 : x9.heap.size ≤ w5.heap.size := hg.size
    replace HF := Lib.hid (fr_grownL HF.out hg (by omega))
    replace R0 := Lib.hid (R0.out.grown hg (by omega))
    replace KQ := Lib.hid (KQ.out.grown hg (by omega))
    replace HB := Lib.hid (dr_below HB.out (by omega) hg)
    replace HC := Lib.hid hc
    have l5 : (w.heap.size + 1) < w5.heap.size := HC.out.lt
    clear hc hg
    cases b2
    · skip
      go_upto_region 12 with fail
      refine wp_region_held_drew (S := fun w' => BoxAt w' w3.heap.size 57 #[.int .i64 q.f0, .int .i64 q.f1, .int .i64 q.f2] ∧ DatL w (w.heap.size + 1) A n cap [(w.heap.size, 57, 3)] [⟨w1.heap.size, hh, 165, 8, A', l.length, c', cRule l⟩] w') (by kernel_rfl) ?_ (fun hHeld => ?_)
      · exact ⟨KQ.out.drw, (DatL.mk_ (fs := [⟨w1.heap.size, hh, 165, 8, A', l.length, c', cRule l⟩]) (rs := [(w.heap.size, 57, 3)]) (by simp only [List.mem_cons, List.not_mem_nil, or_false, forall_eq_or_imp, forall_eq]; exact ⟨by omega, HF.out⟩) HB.out HC.out (by simp only [List.mem_cons, List.not_mem_nil, or_false, forall_eq_or_imp, forall_eq]; exact ⟨_, rfl, R0.out⟩)).drw⟩
      refine wpAnyH_take (i := 0) (oi := ⟨some 33, _, _, _, _, _⟩) (v := ?_) rfl (by kernel_rfl) (by kernel_rfl) (by kernel_rfl) (fun _ _ _ h => h) (Or.inl ⟨by kernel_rfl, ?_⟩) hHeld ?_
      rotate_left
      focus (intro W hS; skip; clear hS; first | (go_simp; done) | (go_simp; with_reducible rfl))
      try simp only [Act.put, List.setIfInBounds_toArray, List.set_cons_zero, List.set_cons_succ]
      refine wpAnyH_take (i := 1) (oi := ⟨some 34, _, _, _, _, _⟩) (v := ?_) rfl (by kernel_rfl) (by kernel_rfl) (by kernel_rfl) (fun _ _ _ h => h) (Or.inl ⟨by kernel_rfl, ?_⟩) hHeld ?_
      rotate_left
      focus (intro W hS; have c0_0 := (hS.1).at_ (j := 0) rfl; have c0_1 := (hS.1).at_ (j := 1) rfl; have c0_2 := (hS.1).at_ (j := 2) rfl; clear hS; first | (go_simp; done) | (go_simp; with_reducible rfl))
      try simp only [Act.put, List.setIfInBounds_toArray, List.set_cons_zero, List.set_cons_succ]
      refine wpAnyH_take (i := 2) (oi := ⟨some 2, _, _, _, _, _⟩) (v := ?_) rfl (by kernel_rfl) (by kernel_rfl) (by kernel_rfl) (fun _ _ _ h => h) (Or.inl ⟨by kernel_rfl, ?_⟩) hHeld ?_
      rotate_left
      focus (intro W hS; skip; clear hS; first | (go_simp; done) | (go_simp; with_reducible rfl))
      try simp only [Act.put, List.setIfInBounds_toArray, List.set_cons_zero, List.set_cons_succ]
      refine wpAnyH_ready (rs := [3]) (by kernel_rfl) (by simp) ?_
      refine AllReadyH.cons (o := ⟨none, _, _, _, _, _⟩) rfl (fun K hK => ?_) AllReadyH.nil
      rw [if_pos (by rfl)]
      obtain ⟨cz0, hs0, hz0⟩ := hHeld.2.1.1 (w.heap.size, 57, 3) (by simp)
      refine wp_store_row 57 _ _ rfl w.heap.size #[.int .i64 q.f0, .int .i64 q.f1, .int .i64 q.f2] rfl rfl 57 _ hz0 (by kernel_rfl) hs0 (by kernel_rfl) ?_
      have G_R0 := box_row (cs := #[.int .i64 q.f0, .int .i64 q.f1, .int .i64 q.f2]) hz0
      have hHeld2 := hHeld.2.row w.heap.size (by omega) (by omega) #[.int .i64 q.f0, .int .i64 q.f1, .int .i64 q.f2] (by simp)
      have hb0 := box_far (cs := #[.int .i64 q.f0, .int .i64 q.f1, .int .i64 q.f2]) (g := w.heap.size) hHeld.1 (by omega)
      clear hz0
      generalize World.setRow _ w.heap.size #[.int .i64 q.f0, .int .i64 q.f1, .int .i64 q.f2] = v1 at G_R0 hHeld2 hb0 ⊢
      refine hK.out _ _ ⟨hb0, hHeld2⟩ (fun hHeld' => ?_)
      clear hK K hHeld hHeld2 hb0; have hHeld := hHeld'; clear hHeld'
      try simp only [Act.put, List.setIfInBounds_toArray, List.set_cons_zero, List.set_cons_succ]
      refine wpAnyH_done (by kernel_rfl) ?_ _
      have r0 := G_R0.at_ (j := 0) rfl
      have r1 := G_R0.at_ (j := 1) rfl
      have r2 := G_R0.at_ (j := 2) rfl
      have HBE := hHeld.2.1.2.2
      have hfs := hHeld.2.2
      simp only [List.mem_cons, List.not_mem_nil, or_false, forall_eq_or_imp, forall_eq] at hfs
      obtain ⟨_, hF1⟩ := hfs
      have HR1 := (rd_top hF1.rd (by decide)).mono (lo' := w.heap.size) (hi' := v1.heap.size) (by omega) (Nat.le_refl _)
      clear hHeld hF1
      go_wp2_with fail
      exact bodyPost_ret (v := .tuple #[.slice A' l.length c', .agg #[.int .i64 q.f0, .int .i64 q.f1, .int .i64 q.f2]]) (by simp [results, Try.results45, go_sem, r0, r1, r2] <;> omega) rfl ⟨_, _, l, q, rfl, by omega, HU.out, HQF.out, HR1, HBE⟩
    · skip
      have HO := Lib.hid (World.ownsRow_lit (e := 165) (size := 8) w5 #[] 0 (Nat.le_refl _) (by unfold maxLen; omega) rfl)
      replace KQ := Lib.hid (KQ.out.alloc_ (.cells #[] 165))
      replace R0 := Lib.hid (R0.out.alloc_ (.cells #[] 165))
      replace HC := Lib.hid (HC.out.new (.cells #[] 165))
      replace HB := Lib.hid (HB.out.alloc (by omega) (.cells #[] 165))
      have lKW : w3.heap.size < w5.heap.size := by omega
      clear HF HU
      go_wp2_with fail
      go_loopg [5, 7] 8 (fun gg u i wr => ∃ (k : Nat) (m : List TRule), k ≤ 8 ∧ 8 - k ≤ gg ∧ m.length = k ∧ Hid (∀ x ∈ m, TRule.fit x) ∧ i = .int .i64 (1 + (k : Int)) ∧ Hid (wr.ownsRow w5.heap.size 165 8 u m.length (m.flatMap TRule.cells)) ∧ Hid (BoxAt wr w3.heap.size 57 #[.int .i64 q.f0, .int .i64 q.f1, .int .i64 q.f2]) ∧ Hid (BoxAt wr w.heap.size 57 #[.int .i64 0, .int .i64 0, .int .i64 0]) ∧ Hid (Cur wr (w.heap.size + 1) A n cap) ∧ Hid (Below w.heap.size w wr) ∧ w5.heap.size ≤ wr.heap.size)
      case atStart => exact ⟨0, [], Nat.zero_le _, by omega, rfl, Lib.hid (fun _ h => by cases h), rfl, HO, KQ, R0, HC, HB, by simp⟩
      case round =>
        clear HO KQ R0 HC HB
        obtain ⟨k, m, hk, hgk, hmk, HM, rfl, HO, KQ, R0, HC, HB, hsr⟩ := hrel
        have lC : (w.heap.size + 1) < wr.heap.size := HC.out.lt
        by_cases hlt : k < 8
        · have hle : (1 + (k : Int) ≤ 8) := by omega
          have hw1 : IntKind.i64.wrap (1 + (k : Int) + 1) = 1 + (k : Int) + 1 := IntWalk.i64_in _ (by omega)
          have HX := Lib.hid (show m.flatMap TRule.cells ++ (#[.int .i64 1, .int .i64 1, .int .i64 (1 + (k : Int)), .int .i64 (-1), .int .i64 0, .int .i64 3, .int .i64 (1 + (k : Int) + 1), .int .i64 0] : Array Value).toList = (m ++ [(⟨1, 1, 1 + (k : Int), -1, 0, 3, 1 + (k : Int) + 1, 0⟩ : TRule)]).flatMap TRule.cells by simp [List.flatMap_append, TRule.cells])
          have HXB := Lib.hid (show ∀ z ∈ m ++ [(⟨1, 1, 1 + (k : Int), -1, 0, 3, 1 + (k : Int) + 1, 0⟩ : TRule)], TRule.fit z from fun z hz => by
            rcases List.mem_append.1 hz with hz | hz
            · exact HM.out z hz
            · rw [List.mem_singleton.1 hz]; unfold TRule.fit; simp only; omega)
          go_wp2_with (at_builtin; refine wp_app_lit rfl _ _ _ rfl w5.heap.size 165 (.agg #[.int .i64 0, .int .i64 0, .int .i64 0, .int .i64 0, .int .i64 0, .int .i64 0, .int .i64 0, .int .i64 0]) 8 64 Try.underlying55 infoRule rfl (by decide) _ _ _ rfl HO.out #[.int .i64 1, .int .i64 1, .int .i64 (1 + (k : Int)), .int .i64 (-1), .int .i64 0, .int .i64 3, .int .i64 (1 + (k : Int) + 1), .int .i64 0] 1 1 _ rfl (by simp) rfl (onesRule ⟨1, 1, 1 + (k : Int), -1, 0, 3, 1 + (k : Int) + 1, 0⟩) (by unfold maxLen; omega) (by omega) (by omega) ?_; intro v1 w8 ho2 hb2; have HO2 := Lib.hid ho2; have HB2 := Lib.hid hb2; clear ho2 hb2)
          go_roundg (8 - (k + 1))
          case measure => omega
          case rel => exact ⟨k + 1, m ++ [(⟨1, 1, 1 + (k : Int), -1, 0, 3, 1 + (k : Int) + 1, 0⟩ : TRule)], by omega, by omega, by simp; omega, HXB, by go_num, Lib.hid (by rw [← HX.out]; simpa using HO2.out), Lib.hid (dr_box_low KQ.out HB2.out lKW), Lib.hid (dr_box_low R0.out HB2.out (by omega)), Lib.hid (dr_cur_low HC.out (by omega) HB2.out), Lib.hid (HB.out.trans (HB2.out.mono (by omega))), by have := HB2.out.size; omega⟩
        · skip
          have hk8 : ¬ (1 + (k : Int) ≤ 8) := by omega
          obtain ⟨A2, c2, rfl, hF2⟩ := fr_of_own HO.out
          obtain ⟨h2, hhe⟩ : ∃ x, x = wr.heap.size := ⟨_, rfl⟩
          rw [← hhe] at hF2
          have HF := Lib.hid hF2
          have hnm : m.length ≤ 12 := by omega
          have lK : w3.heap.size < wr.heap.size := KQ.out.lt
          clear hF2 HO
          have hh2 : h2 ≤ wr.heap.size := by omega
          go_upto_region 12 with fail
          refine wp_region_held_drew (S := fun w' => BoxAt w' w3.heap.size 57 #[.int .i64 q.f0, .int .i64 q.f1, .int .i64 q.f2] ∧ DatL w (w.heap.size + 1) A n cap [(w.heap.size, 57, 3)] [⟨w5.heap.size, h2, 165, 8, A2, m.length, c2, cRule m⟩] w') (by kernel_rfl) ?_ (fun hHeld => ?_)
          · exact ⟨KQ.out.drw, (DatL.mk_ (fs := [⟨w5.heap.size, h2, 165, 8, A2, m.length, c2, cRule m⟩]) (rs := [(w.heap.size, 57, 3)]) (by simp only [List.mem_cons, List.not_mem_nil, or_false, forall_eq_or_imp, forall_eq]; exact ⟨by omega, HF.out⟩) HB.out HC.out (by simp only [List.mem_cons, List.not_mem_nil, or_false, forall_eq_or_imp, forall_eq]; exact ⟨_, rfl, R0.out⟩)).drw⟩
          refine wpAnyH_take (i := 0) (oi := ⟨some 33, _, _, _, _, _⟩) (v := ?_) rfl (by kernel_rfl) (by kernel_rfl) (by kernel_rfl) (fun _ _ _ h => h) (Or.inl ⟨by kernel_rfl, ?_⟩) hHeld ?_
          rotate_left
          focus (intro W hS; skip; clear hS; first | (go_simp; done) | (go_simp; with_reducible rfl))
          try simp only [Act.put, List.setIfInBounds_toArray, List.set_cons_zero, List.set_cons_succ]
          refine wpAnyH_take (i := 1) (oi := ⟨some 34, _, _, _, _, _⟩) (v := ?_) rfl (by kernel_rfl) (by kernel_rfl) (by kernel_rfl) (fun _ _ _ h => h) (Or.inl ⟨by kernel_rfl, ?_⟩) hHeld ?_
          rotate_left
          focus (intro W hS; have c0_0 := (hS.1).at_ (j := 0) rfl; have c0_1 := (hS.1).at_ (j := 1) rfl; have c0_2 := (hS.1).at_ (j := 2) rfl; clear hS; first | (go_simp; done) | (go_simp; with_reducible rfl))
          try simp only [Act.put, List.setIfInBounds_toArray, List.set_cons_zero, List.set_cons_succ]
          refine wpAnyH_take (i := 2) (oi := ⟨some 2, _, _, _, _, _⟩) (v := ?_) rfl (by kernel_rfl) (by kernel_rfl) (by kernel_rfl) (fun _ _ _ h => h) (Or.inl ⟨by kernel_rfl, ?_⟩) hHeld ?_
          rotate_left
          focus (intro W hS; skip; clear hS; first | (go_simp; done) | (go_simp; with_reducible rfl))
          try simp only [Act.put, List.setIfInBounds_toArray, List.set_cons_zero, List.set_cons_succ]
          refine wpAnyH_ready (rs := [3]) (by kernel_rfl) (by simp) ?_
          refine AllReadyH.cons (o := ⟨none, _, _, _, _, _⟩) rfl (fun K hK => ?_) AllReadyH.nil
          rw [if_pos (by rfl)]
          obtain ⟨cz0, hs0, hz0⟩ := hHeld.2.1.1 (w.heap.size, 57, 3) (by simp)
          refine wp_store_row 57 _ _ rfl w.heap.size #[.int .i64 q.f0, .int .i64 q.f1, .int .i64 q.f2] rfl rfl 57 _ hz0 (by kernel_rfl) hs0 (by kernel_rfl) ?_
          have G_R0 := box_row (cs := #[.int .i64 q.f0, .int .i64 q.f1, .int .i64 q.f2]) hz0
          have hHeld2 := hHeld.2.row w.heap.size (by omega) (by omega) #[.int .i64 q.f0, .int .i64 q.f1, .int .i64 q.f2] (by simp)
          have hb0 := box_far (cs := #[.int .i64 q.f0, .int .i64 q.f1, .int .i64 q.f2]) (g := w.heap.size) hHeld.1 (by omega)
          clear hz0
          generalize World.setRow _ w.heap.size #[.int .i64 q.f0, .int .i64 q.f1, .int .i64 q.f2] = v1 at G_R0 hHeld2 hb0 ⊢
          refine hK.out _ _ ⟨hb0, hHeld2⟩ (fun hHeld' => ?_)
          clear hK K hHeld hHeld2 hb0; have hHeld := hHeld'; clear hHeld'
          try simp only [Act.put, List.setIfInBounds_toArray, List.set_cons_zero, List.set_cons_succ]
          refine wpAnyH_done (by kernel_rfl) ?_ _
          have r0 := G_R0.at_ (j := 0) rfl
          have r1 := G_R0.at_ (j := 1) rfl
          have r2 := G_R0.at_ (j := 2) rfl
          have HBE := hHeld.2.1.2.2
          have hfs := hHeld.2.2
          simp only [List.mem_cons, List.not_mem_nil, or_false, forall_eq_or_imp, forall_eq] at hfs
          obtain ⟨_, hF1⟩ := hfs
          have HR1 := (rd_top hF1.rd (by decide)).mono (lo' := w.heap.size) (hi' := v1.heap.size) (by omega) (Nat.le_refl _)
          clear hHeld hF1
          go_wp2_with fail
          exact bodyPost_ret (v := .tuple #[.slice A2 m.length c2, .agg #[.int .i64 q.f0, .int .i64 q.f1, .int .i64 q.f2]]) (by simp [results, Try.results45, go_sem, r0, r1, r2] <;> omega) rfl ⟨_, _, m, q, rfl, by omega, HM.out, HQF.out, HR1, HBE⟩
end Go.Proofs.Ytfceddgacefejaa
