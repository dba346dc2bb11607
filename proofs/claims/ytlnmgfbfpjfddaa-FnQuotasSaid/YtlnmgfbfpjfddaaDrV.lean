/- The draws of FnQuotas. No condition of its own. -/
import Derived.Test.YtlnmgfbfpjfddaaDrQ
import Derived.Test.YtlnmgfbfpjfddaaDrT
import Derived.Test.YtlnmgfbfpjfddaaFun
import Derived.Deep.Cut
import Derived.Deep.RegionHeld3
namespace Go.Proofs.Ytlnmgfbfpjfddaa
open Go Go.ChangeShapes Go.WideShapes Go.ChangeAt Go.RowKit Go.Lib
set_option linter.unusedVariables false
set_option linter.unusedSimpArgs false
set_option maxRecDepth 100000
theorem box_own {w w1 : World} {b : Nat} {t : TypeId} {cs : Array Value} {r : Option Nat} (h : BoxAt w b t cs) (hg : w.grownBy w1 r) (hr : r ≠ some b) : BoxAt w1 b t cs := (hg.block b h.lt (fun e => hr e.symm)).trans h
/-- The same, with a list of the draw's own besides. -/
def DatO (w : World) (g : Nat) (A : Option Addr) (n cap : Nat) (rs : List (Nat × TypeId × Nat)) (B : Nat) (E : TypeId) (z : Nat) (v : Value) (m : Nat) (xs : List Value) (W : World) : Prop :=
  DatT w g A n cap rs W ∧ W.ownsRow B E z v m xs ∧ g < B
section
variable {w W W1 : World} {g n cap B z m : Nat} {A : Option Addr} {rs : List (Nat × TypeId × Nat)} {E : TypeId} {v : Value} {xs : List Value}
theorem DatO.cur (h : DatO w g A n cap rs B E z v m xs W) (hb : BytesAt w w.heap.size A n) (hg : w.heap.size ≤ g) : Cur W g A n cap := h.1.cur hb hg
theorem DatO.call (h : DatO w g A n cap rs B E z v m xs W) (hc : Cur W1 g A n cap) (hg : W.grownBy W1 (some g)) (hr : ∀ r ∈ rs, r.1 ≠ g) (hl : w.heap.size ≤ g) : DatO w g A n cap rs B E z v m xs W1 :=
  ⟨h.1.call hc hg hr hl, dr_own h.2.1 h.2.2 hg, h.2.2⟩
theorem DatO.row (h : DatO w g A n cap rs B E z v m xs W) (b : Nat) (hb : b < g) (hl : w.heap.size ≤ b) (cs : Array Value) (hsz : ∀ r ∈ rs, r.1 = b → cs.size = r.2.2) : DatO w g A n cap rs B E z v m xs (W.setRow b cs) :=
  ⟨h.1.row b (by omega) hl cs hsz, own_row h.2.1 (by have := h.2.2; omega) cs, h.2.2⟩
theorem DatO.mk_ (ho : W.ownsRow B E z v m xs) (hB : g < B) (hb : Below w.heap.size w W) (hc : Cur W g A n cap) (hr : ∀ r ∈ rs, ∃ cs : Array Value, cs.size = r.2.2 ∧ BoxAt W r.1 r.2.1 cs) : DatO w g A n cap rs B E z v m xs W :=
  ⟨DatT.mk_ hb hc hr, ho, hB⟩
theorem DatO.drw (h : DatO w g A n cap rs B E z v m xs W) : DatO w g A n cap rs B E z v m xs W.drew := ⟨h.1.drw, h.2.1, h.2.2⟩
end
/-- A list of rules and a number are drawn. -/
def DrawnDR (w : World) (e : Ending) (w' : World) : Prop :=
  ∃ (A : Option Addr) (c : Nat) (l : List TRule) (y : Int), e = .returned (.tuple #[.slice A l.length c, .int .i64 y]) ∧ l.length ≤ 19 ∧ (∀ x ∈ l, x.fit) ∧ 0 ≤ y ∧ y ≤ 4 ∧ l.length ≤ c ∧ Rd w' w.heap.size w'.heap.size 8 A l.length (cRule l) ∧ Below w.heap.size w w'
set_option maxHeartbeats 16000000 in
theorem drawDR_any (n cap : Nat) (A : Option Addr) (w : World) (hn : n ≤ 140737488355328) (hb : BytesAt w w.heap.size A n) :
    Calls Try.prog 53 #[.slice A n cap] w (DrawnDR w) := by
  have hn' : n ≤ maxLen := by unfold maxLen; omega
  have HY := Lib.hid hb
  have HB := Lib.hid (Below.refl w.heap.size w)
  clear hb
  go_enter Try.func53, Try.ntmps53
  go_wp2_with fail
  refine Calls.mono (dr_new n cap A w _ w.heap.size (by simp) hn HY.out HB.out) ?_
  rintro e w1 ⟨rfl, hc, hb1⟩
  have HC := Lib.hid hc
  replace HB := Lib.hid (HB.out.trans (hb1.mono (by omega)))
  have l1 : w.heap.size < w1.heap.size := HC.out.lt
  clear hc hb1
  go_wp2_with fail
  refine Calls.mono (quota_any w.heap.size n cap A _ hn' HC.out) ?_
  rintro e w2 ⟨v, l, rfl, hl, hu, ho, hc, hg⟩
  replace HB := Lib.hid (dr_below HB.out (by omega) hg)
  replace HC := Lib.hid hc
  have l2 : w.heap.size < w2.heap.size := HC.out.lt
  clear hc hg
  have HO := Lib.hid ho
  have HU := Lib.hid hu
  clear ho hu
  obtain ⟨A', c', rfl, hF⟩ := fr_of_own HO.out
  have HF := Lib.hid hF
  clear hF
  go_wp2_with fail
  refine Calls.mono (below_any w.heap.size n cap A 5 _ hn' HC.out (by omega) (by omega)) ?_
  rintro e w3 ⟨y, hya, hyb, rfl, hc, hg⟩
  replace HO := Lib.hid (dr_own HO.out (by omega) hg)
  replace HB := Lib.hid (dr_below HB.out (by omega) hg)
  replace HC := Lib.hid hc
  have l3 : w.heap.size < w3.heap.size := HC.out.lt
  clear hc hg
  obtain ⟨A2, c2, hv2, hF⟩ := fr_of_own HO.out
  injection hv2 with q1 q2 q3
  subst q1 q3
  have HR := Lib.hid (show Rd w3 w.heap.size w3.heap.size 8 A' l.length (cRule l) from hF.rd.mono (by omega) (Nat.le_refl _))
  have hcp := hF.cap
  clear hF q2
  go_wp2_with fail
  go_ret2
  exact ⟨A', c', l, y, rfl, hl, HU.out, hya, by omega, hcp, HR.out, HB.out⟩
theorem own_far {W : World} {B b z m : Nat} {E : TypeId} {v : Value} {xs : List Value} (h : W.ownsRow B E z v m xs) (hb : ∀ j, v.ownBlock = some j → j ≠ b) (cs : Array Value) : (W.setRow b cs).ownsRow B E z v m xs := by
  refine ⟨h.1, ?_⟩
  rcases h.2 with h0 | ⟨k, c, cur, hv, hk, hr, rest⟩
  · exact .inl h0
  · exact .inr ⟨k, c, cur, hv, hk, (setRow_other W b k cs (hb k (by rw [hv]; rfl))).trans hr, rest⟩
/-- A list of rules and a rule are drawn. -/
def DrawnCA (w : World) (e : Ending) (w' : World) : Prop :=
  ∃ (A : Option Addr) (c : Nat) (l : List TRule) (z : TRule), e = .returned (.tuple #[.slice A l.length c, .agg #[.int .i64 z.f0, .int .i64 z.f1, .int .i64 z.f2, .int .i64 z.f3, .int .i64 z.f4, .int .i64 z.f5, .int .i64 z.f6, .int .i64 z.f7]]) ∧ l.length ≤ 19 ∧ (∀ y ∈ l, y.fit) ∧ z.fit ∧ l.length ≤ c ∧ Rd w' w.heap.size w'.heap.size 8 A l.length (cRule l) ∧ Below w.heap.size w w'
set_option maxHeartbeats 32000000 in
theorem drawCA_any (n cap : Nat) (A : Option Addr) (w : World) (hn : n ≤ 140737488355328) (hb : BytesAt w w.heap.size A n) :
    Calls Try.prog 133 #[.slice A n cap] w (DrawnCA w) := by
  have hn' : n ≤ maxLen := by unfold maxLen; omega
  have HY := Lib.hid hb
  have R0 := Lib.hid (show BoxAt (w.alloc (.cells #[.int .i64 0, .int .i64 0, .int .i64 0, .int .i64 0, .int .i64 0, .int .i64 0, .int .i64 0, .int .i64 0] 28)) w.heap.size 28 #[.int .i64 0, .int .i64 0, .int .i64 0, .int .i64 0, .int .i64 0, .int .i64 0, .int .i64 0, .int .i64 0] from by simpa using box_new w 28 #[.int .i64 0, .int .i64 0, .int .i64 0, .int .i64 0, .int .i64 0, .int .i64 0, .int .i64 0, .int .i64 0])
  have HB := Lib.hid ((Below.refl w.heap.size w).alloc (by first | exact Nat.le_refl _ | (simp; done) | (simp; omega)) (.cells #[.int .i64 0, .int .i64 0, .int .i64 0, .int .i64 0, .int .i64 0, .int .i64 0, .int .i64 0, .int .i64 0] 28))
  clear hb
  go_enter Try.func133, Try.ntmps133
  go_wp2_with fail
  refine Calls.mono (dr_new n cap A w _ (w.heap.size + 1) (by simp) hn HY.out HB.out) ?_
  rintro e w1 ⟨rfl, hc, hb1⟩
  have HC := Lib.hid hc
  replace R0 := Lib.hid (dr_box_low R0.out hb1 (by omega))
  replace HB := Lib.hid (HB.out.trans (hb1.mono (by omega)))
  have l1 : (w.heap.size + 1) < w1.heap.size := HC.out.lt
  clear hc hb1
  go_wp2_with fail
  refine Calls.mono (quota_any (w.heap.size + 1) n cap A _ hn' HC.out) ?_
  rintro e w2 ⟨v, l, rfl, hl, hu, ho, hc, hg⟩
  have s12 : w1.heap.size ≤ w2.heap.size := hg.size
  replace R0 := Lib.hid (R0.out.grown hg (by omega))
  replace HB := Lib.hid (dr_below HB.out (by omega) hg)
  replace HC := Lib.hid hc
  have l2 : (w.heap.size + 1) < w2.heap.size := HC.out.lt
  clear hc hg
  have HO := Lib.hid ho
  have HU := Lib.hid hu
  clear ho hu
  obtain ⟨A', c', rfl, hF⟩ := fr_of_own HO.out
  have HF := Lib.hid hF
  clear hF
  have NK := Lib.hid (show ∀ j, (Value.slice A' l.length c').ownBlock = some j → j < w2.heap.size from fun j e => (HO.out.lt j e).2)
  go_wp2_with fail
  refine Calls.mono (rulea_any (w.heap.size + 1) n cap A _ hn' HC.out) ?_
  rintro e w3 ⟨d, hx, rfl, hc, hg⟩
  have s23 : w2.heap.size ≤ w3.heap.size := hg.size
  replace R0 := Lib.hid (R0.out.grown hg (by omega))
  replace HO := Lib.hid (dr_own HO.out (by omega) hg)
  replace HB := Lib.hid (dr_below HB.out (by omega) hg)
  replace HC := Lib.hid hc
  have l3 : (w.heap.size + 1) < w3.heap.size := HC.out.lt
  clear hc hg
  obtain ⟨x3, hx⟩ : ∃ x, x = World.setRow (w3.alloc (.cells #[.int .i64 0, .int .i64 0, .int .i64 0, .int .i64 0, .int .i64 0, .int .i64 0, .int .i64 0, .int .i64 0] 28)) w3.heap.size #[.int .i64 d.f0, .int .i64 d.f1, .int .i64 d.f2, .int .i64 d.f3, .int .i64 d.f4, .int .i64 d.f5, .int .i64 d.f6, .int .i64 d.f7] := ⟨_, rfl⟩
  have HX3 := Lib.hid hx
  have OLD3 := Lib.hid (box_new w3 28 #[.int .i64 0, .int .i64 0, .int .i64 0, .int .i64 0, .int .i64 0, .int .i64 0, .int .i64 0, .int .i64 0])
  replace R0 := Lib.hid (show BoxAt x3 w.heap.size 28 #[.int .i64 0, .int .i64 0, .int .i64 0, .int .i64 0, .int .i64 0, .int .i64 0, .int .i64 0, .int .i64 0] by rw [hx]; exact box_far (R0.out.alloc_ _) (by omega))
  have KG := Lib.hid (show BoxAt x3 w3.heap.size 28 #[.int .i64 d.f0, .int .i64 d.f1, .int .i64 d.f2, .int .i64 d.f3, .int .i64 d.f4, .int .i64 d.f5, .int .i64 d.f6, .int .i64 d.f7] by rw [hx]; exact box_row OLD3.out)
  replace HO := Lib.hid (show World.ownsRow x3 w1.heap.size 28 8 (Value.slice A' l.length c') l.length (l.flatMap TRule.cells) by rw [hx]; exact own_newer HO.out ⟨rfl, rfl, rfl, by simp, fun i hi => (setRow_other _ _ i _ (by omega)).trans (Below.heap_alloc _ _ i hi)⟩)
  replace HC := Lib.hid (show Cur x3 (w.heap.size + 1) A n cap by rw [hx]; exact dr_cur_row (HC.out.new _) (by omega) _)
  replace HB := Lib.hid (show Below w.heap.size w x3 by rw [hx]; exact below_setRow (HB.out.alloc (by have := HB.out.size; omega) _) (by omega) _)
  have m3 : w3.heap.size < x3.heap.size := KG.out.lt
  clear hx
  have HFX := Lib.hid hx
  clear hx
  by_cases h0 : 0 < l.length
  · skip
    have g0 : decide ((0 : Int) < (l.length : Int)) = true := by first | exact decide_eq_true (by omega) | exact decide_eq_false (by omega)
    have g1 : decide ((l.length : Int) > 0) = true := by first | exact decide_eq_true (by omega) | exact decide_eq_false (by omega)
    go_wp2_with (refine wpList_store_row rfl 28 _ _ rfl w3.heap.size #[.int .i64 d.f0, .int .i64 d.f1, .int .i64 d.f2, .int .i64 d.f3, .int .i64 d.f4, .int .i64 d.f5, .int .i64 d.f6, .int .i64 d.f7] rfl rfl 28 _ OLD3.out (by kernel_rfl) (by kernel_rfl) (by kernel_rfl) ?_; rw [← HX3.out]; clear HX3 OLD3)
    refine Calls.mono (once_any (w.heap.size + 1) n cap A 6 _ hn' HC.out (by omega) (by omega)) ?_
    rintro e w4 ⟨b, rfl, hc, hg⟩
    replace R0 := Lib.hid (R0.out.grown hg (by omega))
    replace KG := Lib.hid (KG.out.grown hg (by omega))
    replace HO := Lib.hid (dr_own HO.out (by omega) hg)
    replace HB := Lib.hid (dr_below HB.out (by omega) hg)
    replace HC := Lib.hid hc
    have l4 : (w.heap.size + 1) < w4.heap.size := HC.out.lt
    clear hc hg
    cases b
    · skip
      obtain ⟨z, hz⟩ : ∃ z, z = d := ⟨_, rfl⟩
      subst hz
      have HFZ := HFX
      go_upto_region 6 with fail
      refine wp_region_held_drew (S := fun w' => BoxAt w' w3.heap.size 28 #[.int .i64 z.f0, .int .i64 z.f1, .int .i64 z.f2, .int .i64 z.f3, .int .i64 z.f4, .int .i64 z.f5, .int .i64 z.f6, .int .i64 z.f7] ∧ DatO w (w.heap.size + 1) A n cap [(w.heap.size, 28, 8)] w1.heap.size 28 8 (Value.slice A' l.length c') l.length (l.flatMap TRule.cells) w') (by kernel_rfl) ?_ (fun hHeld => ?_)
      · exact ⟨KG.out.drw, (DatO.mk_ HO.out (by omega) (rs := [(w.heap.size, 28, 8)]) HB.out HC.out (by simp only [List.mem_cons, List.not_mem_nil, or_false, forall_eq_or_imp, forall_eq]; exact ⟨_, rfl, R0.out⟩)).drw⟩
      refine wpAnyH_take (i := 0) (oi := ⟨some 27, _, _, _, _, _⟩) (v := ?_) rfl (by kernel_rfl) (by kernel_rfl) (by kernel_rfl) (fun _ _ _ h => h) (Or.inl ⟨by kernel_rfl, ?_⟩) hHeld ?_
      rotate_left
      focus (intro W hS; skip; clear hS; first | (go_simp; done) | (go_simp; with_reducible rfl))
      try simp only [Act.put, List.setIfInBounds_toArray, List.set_cons_zero, List.set_cons_succ]
      refine wpAnyH_take (i := 1) (oi := ⟨some 28, _, _, _, _, _⟩) (v := ?_) rfl (by kernel_rfl) (by kernel_rfl) (by kernel_rfl) (fun _ _ _ h => h) (Or.inl ⟨by kernel_rfl, ?_⟩) hHeld ?_
      rotate_left
      focus (intro W hS; have c0_0 := (hS.1).at_ (j := 0) rfl; have c0_1 := (hS.1).at_ (j := 1) rfl; have c0_2 := (hS.1).at_ (j := 2) rfl; have c0_3 := (hS.1).at_ (j := 3) rfl; have c0_4 := (hS.1).at_ (j := 4) rfl; have c0_5 := (hS.1).at_ (j := 5) rfl; have c0_6 := (hS.1).at_ (j := 6) rfl; have c0_7 := (hS.1).at_ (j := 7) rfl; clear hS; first | (go_simp; done) | (go_simp; with_reducible rfl))
      try simp only [Act.put, List.setIfInBounds_toArray, List.set_cons_zero, List.set_cons_succ]
      refine wpAnyH_take (i := 2) (oi := ⟨some 2, _, _, _, _, _⟩) (v := ?_) rfl (by kernel_rfl) (by kernel_rfl) (by kernel_rfl) (fun _ _ _ h => h) (Or.inl ⟨by kernel_rfl, ?_⟩) hHeld ?_
      rotate_left
      focus (intro W hS; skip; clear hS; first | (go_simp; done) | (go_simp; with_reducible rfl))
      try simp only [Act.put, List.setIfInBounds_toArray, List.set_cons_zero, List.set_cons_succ]
      refine wpAnyH_ready (rs := [3]) (by kernel_rfl) (by simp) ?_
      refine AllReadyH.cons (o := ⟨none, _, _, _, _, _⟩) rfl (fun K hK => ?_) AllReadyH.nil
      rw [if_pos (by rfl)]
      obtain ⟨cz0, hs0, hz0⟩ := hHeld.2.1.1 (w.heap.size, 28, 8) (by simp)
      refine wp_store_row 28 _ _ rfl w.heap.size #[.int .i64 z.f0, .int .i64 z.f1, .int .i64 z.f2, .int .i64 z.f3, .int .i64 z.f4, .int .i64 z.f5, .int .i64 z.f6, .int .i64 z.f7] rfl rfl 28 _ hz0 (by kernel_rfl) hs0 (by kernel_rfl) ?_
      have G_R0 := box_row (cs := #[.int .i64 z.f0, .int .i64 z.f1, .int .i64 z.f2, .int .i64 z.f3, .int .i64 z.f4, .int .i64 z.f5, .int .i64 z.f6, .int .i64 z.f7]) hz0
      have hHeld2 := hHeld.2.row w.heap.size (by omega) (by omega) #[.int .i64 z.f0, .int .i64 z.f1, .int .i64 z.f2, .int .i64 z.f3, .int .i64 z.f4, .int .i64 z.f5, .int .i64 z.f6, .int .i64 z.f7] (by simp)
      have hb0 := box_far (cs := #[.int .i64 z.f0, .int .i64 z.f1, .int .i64 z.f2, .int .i64 z.f3, .int .i64 z.f4, .int .i64 z.f5, .int .i64 z.f6, .int .i64 z.f7]) (g := w.heap.size) hHeld.1 (by omega)
      clear hz0
      generalize World.setRow _ w.heap.size #[.int .i64 z.f0, .int .i64 z.f1, .int .i64 z.f2, .int .i64 z.f3, .int .i64 z.f4, .int .i64 z.f5, .int .i64 z.f6, .int .i64 z.f7] = v1 at G_R0 hHeld2 hb0 ⊢
      refine hK.out _ _ ⟨hb0, hHeld2⟩ (fun hHeld' => ?_)
      clear hK K hHeld hHeld2 hb0; have hHeld := hHeld'; clear hHeld'
      try simp only [Act.put, List.setIfInBounds_toArray, List.set_cons_zero, List.set_cons_succ]
      refine wpAnyH_done (by kernel_rfl) ?_ _
      have r0 := G_R0.at_ (j := 0) rfl
      have r1 := G_R0.at_ (j := 1) rfl
      have r2 := G_R0.at_ (j := 2) rfl
      have r3 := G_R0.at_ (j := 3) rfl
      have r4 := G_R0.at_ (j := 4) rfl
      have r5 := G_R0.at_ (j := 5) rfl
      have r6 := G_R0.at_ (j := 6) rfl
      have r7 := G_R0.at_ (j := 7) rfl
      have HBE := hHeld.2.1.2.2
      obtain ⟨A8, c8, hv8, hF8⟩ := fr_of_own hHeld.2.2.1
      injection hv8 with q1 q2 q3
      subst q1 q3
      have HR9 := hF8.rd.mono (lo' := w.heap.size) (hi' := v1.heap.size) (by omega) (Nat.le_refl _)
      have hcp := hF8.cap
      clear hHeld hF8 q2
      go_wp2_with fail
      exact bodyPost_ret (v := .tuple #[.slice A' l.length c', .agg #[.int .i64 z.f0, .int .i64 z.f1, .int .i64 z.f2, .int .i64 z.f3, .int .i64 z.f4, .int .i64 z.f5, .int .i64 z.f6, .int .i64 z.f7]]) (by simp [results, Try.results133, go_sem, r0, r1, r2, r3, r4, r5, r6, r7]) rfl ⟨_, _, l, z, rfl, by omega, HU.out, HFZ.out, hcp, HR9, HBE⟩
    · skip
      go_wp2_with fail
      refine Calls.mono (below_any (w.heap.size + 1) n cap A l.length _ hn' HC.out (by omega) (by omega)) ?_
      rintro e w5 ⟨y, hya, hyb, rfl, hc, hg⟩
      replace R0 := Lib.hid (R0.out.grown hg (by omega))
      replace KG := Lib.hid (KG.out.grown hg (by omega))
      replace HO := Lib.hid (dr_own HO.out (by omega) hg)
      replace HB := Lib.hid (dr_below HB.out (by omega) hg)
      replace HC := Lib.hid hc
      have l5 : (w.heap.size + 1) < w5.heap.size := HC.out.lt
      clear hc hg
      obtain ⟨j, rfl⟩ := Int.eq_ofNat_of_zero_le hya
      obtain ⟨A2, c2, hv2, hF⟩ := fr_of_own HO.out
      injection hv2 with q1 q2 q3
      subst q1 q3
      have hjl : j < l.length := by omega
      obtain ⟨b1, off, z, rfl, _, _, hz, hcc⟩ := rd_elem TRule.len hF.rd rfl hjl
      have HFZ := Lib.hid (HU.out z (List.mem_of_getElem? hz))
      have e0 := hcc 0 _ rfl
      have e1 := hcc 1 _ rfl
      have e2 := hcc 2 _ rfl
      have e3 := hcc 3 _ rfl
      have e4 := hcc 4 _ rfl
      have e5 := hcc 5 _ rfl
      have e6 := hcc 6 _ rfl
      have e7 := hcc 7 _ rfl
      simp only [Nat.add_zero] at e0
      clear hcc hz hF q2
      obtain ⟨x6, hx⟩ : ∃ X, X = World.setRow w5 w3.heap.size #[.int .i64 z.f0, .int .i64 z.f1, .int .i64 z.f2, .int .i64 z.f3, .int .i64 z.f4, .int .i64 z.f5, .int .i64 z.f6, .int .i64 z.f7] := ⟨_, rfl⟩
      have HXN := Lib.hid hx
      have OLDN := KG
      replace KG := Lib.hid (show BoxAt x6 w3.heap.size 28 #[.int .i64 z.f0, .int .i64 z.f1, .int .i64 z.f2, .int .i64 z.f3, .int .i64 z.f4, .int .i64 z.f5, .int .i64 z.f6, .int .i64 z.f7] by rw [hx]; exact box_row OLDN.out)
      replace R0 := Lib.hid (show BoxAt x6 w.heap.size 28 #[.int .i64 0, .int .i64 0, .int .i64 0, .int .i64 0, .int .i64 0, .int .i64 0, .int .i64 0, .int .i64 0] by rw [hx]; exact box_far R0.out (by omega))
      replace HO := Lib.hid (show World.ownsRow x6 w1.heap.size 28 8 (Value.slice (some ⟨b1, off, none⟩) l.length c') l.length (l.flatMap TRule.cells) by rw [hx]; exact own_far HO.out (fun j e => Nat.ne_of_lt (Nat.lt_of_lt_of_le (NK.out j e) (by omega))) _)
      replace HC := Lib.hid (show Cur x6 (w.heap.size + 1) A n cap by rw [hx]; exact dr_cur_row HC.out (by omega) _)
      replace HB := Lib.hid (show Below w.heap.size w x6 by rw [hx]; exact below_setRow HB.out (by omega) _)
      have mN : w3.heap.size < x6.heap.size := KG.out.lt
      clear hx
      go_upto_region 6 with (refine wpList_store_row rfl 28 _ _ rfl w3.heap.size #[.int .i64 z.f0, .int .i64 z.f1, .int .i64 z.f2, .int .i64 z.f3, .int .i64 z.f4, .int .i64 z.f5, .int .i64 z.f6, .int .i64 z.f7] rfl rfl 28 _ OLDN.out (by kernel_rfl) (by kernel_rfl) (by kernel_rfl) ?_; rw [← HXN.out]; clear HXN OLDN)
      refine wp_region_held_drew (S := fun w' => BoxAt w' w3.heap.size 28 #[.int .i64 z.f0, .int .i64 z.f1, .int .i64 z.f2, .int .i64 z.f3, .int .i64 z.f4, .int .i64 z.f5, .int .i64 z.f6, .int .i64 z.f7] ∧ DatO w (w.heap.size + 1) A n cap [(w.heap.size, 28, 8)] w1.heap.size 28 8 (Value.slice (some ⟨b1, off, none⟩) l.length c') l.length (l.flatMap TRule.cells) w') (by kernel_rfl) ?_ (fun hHeld => ?_)
      · exact ⟨KG.out.drw, (DatO.mk_ HO.out (by omega) (rs := [(w.heap.size, 28, 8)]) HB.out HC.out (by simp only [List.mem_cons, List.not_mem_nil, or_false, forall_eq_or_imp, forall_eq]; exact ⟨_, rfl, R0.out⟩)).drw⟩
      refine wpAnyH_take (i := 0) (oi := ⟨some 27, _, _, _, _, _⟩) (v := ?_) rfl (by kernel_rfl) (by kernel_rfl) (by kernel_rfl) (fun _ _ _ h => h) (Or.inl ⟨by kernel_rfl, ?_⟩) hHeld ?_
      rotate_left
      focus (intro W hS; skip; clear hS; first | (go_simp; done) | (go_simp; with_reducible rfl))
      try simp only [Act.put, List.setIfInBounds_toArray, List.set_cons_zero, List.set_cons_succ]
      refine wpAnyH_take (i := 1) (oi := ⟨some 28, _, _, _, _, _⟩) (v := ?_) rfl (by kernel_rfl) (by kernel_rfl) (by kernel_rfl) (fun _ _ _ h => h) (Or.inl ⟨by kernel_rfl, ?_⟩) hHeld ?_
      rotate_left
      focus (intro W hS; have c0_0 := (hS.1).at_ (j := 0) rfl; have c0_1 := (hS.1).at_ (j := 1) rfl; have c0_2 := (hS.1).at_ (j := 2) rfl; have c0_3 := (hS.1).at_ (j := 3) rfl; have c0_4 := (hS.1).at_ (j := 4) rfl; have c0_5 := (hS.1).at_ (j := 5) rfl; have c0_6 := (hS.1).at_ (j := 6) rfl; have c0_7 := (hS.1).at_ (j := 7) rfl; clear hS; first | (go_simp; done) | (go_simp; with_reducible rfl))
      try simp only [Act.put, List.setIfInBounds_toArray, List.set_cons_zero, List.set_cons_succ]
      refine wpAnyH_take (i := 2) (oi := ⟨some 2, _, _, _, _, _⟩) (v := ?_) rfl (by kernel_rfl) (by kernel_rfl) (by kernel_rfl) (fun _ _ _ h => h) (Or.inl ⟨by kernel_rfl, ?_⟩) hHeld ?_
      rotate_left
      focus (intro W hS; skip; clear hS; first | (go_simp; done) | (go_simp; with_reducible rfl))
      try simp only [Act.put, List.setIfInBounds_toArray, List.set_cons_zero, List.set_cons_succ]
      refine wpAnyH_ready (rs := [3]) (by kernel_rfl) (by simp) ?_
      refine AllReadyH.cons (o := ⟨none, _, _, _, _, _⟩) rfl (fun K hK => ?_) AllReadyH.nil
      rw [if_pos (by rfl)]
      obtain ⟨cz0, hs0, hz0⟩ := hHeld.2.1.1 (w.heap.size, 28, 8) (by simp)
      refine wp_store_row 28 _ _ rfl w.heap.size #[.int .i64 z.f0, .int .i64 z.f1, .int .i64 z.f2, .int .i64 z.f3, .int .i64 z.f4, .int .i64 z.f5, .int .i64 z.f6, .int .i64 z.f7] rfl rfl 28 _ hz0 (by kernel_rfl) hs0 (by kernel_rfl) ?_
      have G_R0 := box_row (cs := #[.int .i64 z.f0, .int .i64 z.f1, .int .i64 z.f2, .int .i64 z.f3, .int .i64 z.f4, .int .i64 z.f5, .int .i64 z.f6, .int .i64 z.f7]) hz0
      have hHeld2 := hHeld.2.row w.heap.size (by omega) (by omega) #[.int .i64 z.f0, .int .i64 z.f1, .int .i64 z.f2, .int .i64 z.f3, .int .i64 z.f4, .int .i64 z.f5, .int .i64 z.f6, .int .i64 z.f7] (by simp)
      have hb0 := box_far (cs := #[.int .i64 z.f0, .int .i64 z.f1, .int .i64 z.f2, .int .i64 z.f3, .int .i64 z.f4, .int .i64 z.f5, .int .i64 z.f6, .int .i64 z.f7]) (g := w.heap.size) hHeld.1 (by omega)
      clear hz0
      generalize World.setRow _ w.heap.size #[.int .i64 z.f0, .int .i64 z.f1, .int .i64 z.f2, .int .i64 z.f3, .int .i64 z.f4, .int .i64 z.f5, .int .i64 z.f6, .int .i64 z.f7] = v1 at G_R0 hHeld2 hb0 ⊢
      refine hK.out _ _ ⟨hb0, hHeld2⟩ (fun hHeld' => ?_)
      clear hK K hHeld hHeld2 hb0; have hHeld := hHeld'; clear hHeld'
      try simp only [Act.put, List.setIfInBounds_toArray, List.set_cons_zero, List.set_cons_succ]
      refine wpAnyH_done (by kernel_rfl) ?_ _
      have r0 := G_R0.at_ (j := 0) rfl
      have r1 := G_R0.at_ (j := 1) rfl
      have r2 := G_R0.at_ (j := 2) rfl
      have r3 := G_R0.at_ (j := 3) rfl
      have r4 := G_R0.at_ (j := 4) rfl
      have r5 := G_R0.at_ (j := 5) rfl
      have r6 := G_R0.at_ (j := 6) rfl
      have r7 := G_R0.at_ (j := 7) rfl
      have HBE := hHeld.2.1.2.2
      obtain ⟨A8, c8, hv8, hF8⟩ := fr_of_own hHeld.2.2.1
      injection hv8 with q1 q2 q3
      subst q1 q3
      have HR9 := hF8.rd.mono (lo' := w.heap.size) (hi' := v1.heap.size) (by omega) (Nat.le_refl _)
      have hcp := hF8.cap
      clear hHeld hF8 q2
      go_wp2_with fail
      exact bodyPost_ret (v := .tuple #[.slice (some ⟨b1, off, none⟩) l.length c', .agg #[.int .i64 z.f0, .int .i64 z.f1, .int .i64 z.f2, .int .i64 z.f3, .int .i64 z.f4, .int .i64 z.f5, .int .i64 z.f6, .int .i64 z.f7]]) (by simp [results, Try.results133, go_sem, r0, r1, r2, r3, r4, r5, r6, r7]) rfl ⟨_, _, l, z, rfl, by omega, HU.out, HFZ.out, hcp, HR9, HBE⟩
  · skip
    have g0 : decide ((0 : Int) < (l.length : Int)) = false := by first | exact decide_eq_true (by omega) | exact decide_eq_false (by omega)
    have g1 : decide ((l.length : Int) > 0) = false := by first | exact decide_eq_true (by omega) | exact decide_eq_false (by omega)
    obtain ⟨z, hz⟩ : ∃ z, z = d := ⟨_, rfl⟩
    subst hz
    have HFZ := HFX
    go_upto_region 6 with (refine wpList_store_row rfl 28 _ _ rfl w3.heap.size #[.int .i64 z.f0, .int .i64 z.f1, .int .i64 z.f2, .int .i64 z.f3, .int .i64 z.f4, .int .i64 z.f5, .int .i64 z.f6, .int .i64 z.f7] rfl rfl 28 _ OLD3.out (by kernel_rfl) (by kernel_rfl) (by kernel_rfl) ?_; rw [← HX3.out]; clear HX3 OLD3)
    refine wp_region_held_drew (S := fun w' => BoxAt w' w3.heap.size 28 #[.int .i64 z.f0, .int .i64 z.f1, .int .i64 z.f2, .int .i64 z.f3, .int .i64 z.f4, .int .i64 z.f5, .int .i64 z.f6, .int .i64 z.f7] ∧ DatO w (w.heap.size + 1) A n cap [(w.heap.size, 28, 8)] w1.heap.size 28 8 (Value.slice A' l.length c') l.length (l.flatMap TRule.cells) w') (by kernel_rfl) ?_ (fun hHeld => ?_)
    · exact ⟨KG.out.drw, (DatO.mk_ HO.out (by omega) (rs := [(w.heap.size, 28, 8)]) HB.out HC.out (by simp only [List.mem_cons, List.not_mem_nil, or_false, forall_eq_or_imp, forall_eq]; exact ⟨_, rfl, R0.out⟩)).drw⟩
    refine wpAnyH_take (i := 0) (oi := ⟨some 27, _, _, _, _, _⟩) (v := ?_) rfl (by kernel_rfl) (by kernel_rfl) (by kernel_rfl) (fun _ _ _ h => h) (Or.inl ⟨by kernel_rfl, ?_⟩) hHeld ?_
    rotate_left
    focus (intro W hS; skip; clear hS; first | (go_simp; done) | (go_simp; with_reducible rfl))
    try simp only [Act.put, List.setIfInBounds_toArray, List.set_cons_zero, List.set_cons_succ]
    refine wpAnyH_take (i := 1) (oi := ⟨some 28, _, _, _, _, _⟩) (v := ?_) rfl (by kernel_rfl) (by kernel_rfl) (by kernel_rfl) (fun _ _ _ h => h) (Or.inl ⟨by kernel_rfl, ?_⟩) hHeld ?_
    rotate_left
    focus (intro W hS; have c0_0 := (hS.1).at_ (j := 0) rfl; have c0_1 := (hS.1).at_ (j := 1) rfl; have c0_2 := (hS.1).at_ (j := 2) rfl; have c0_3 := (hS.1).at_ (j := 3) rfl; have c0_4 := (hS.1).at_ (j := 4) rfl; have c0_5 := (hS.1).at_ (j := 5) rfl; have c0_6 := (hS.1).at_ (j := 6) rfl; have c0_7 := (hS.1).at_ (j := 7) rfl; clear hS; first | (go_simp; done) | (go_simp; with_reducible rfl))
    try simp only [Act.put, List.setIfInBounds_toArray, List.set_cons_zero, List.set_cons_succ]
    refine wpAnyH_take (i := 2) (oi := ⟨some 2, _, _, _, _, _⟩) (v := ?_) rfl (by kernel_rfl) (by kernel_rfl) (by kernel_rfl) (fun _ _ _ h => h) (Or.inl ⟨by kernel_rfl, ?_⟩) hHeld ?_
    rotate_left
    focus (intro W hS; skip; clear hS; first | (go_simp; done) | (go_simp; with_reducible rfl))
    try simp only [Act.put, List.setIfInBounds_toArray, List.set_cons_zero, List.set_cons_succ]
    refine wpAnyH_ready (rs := [3]) (by kernel_rfl) (by simp) ?_
    refine AllReadyH.cons (o := ⟨none, _, _, _, _, _⟩) rfl (fun K hK => ?_) AllReadyH.nil
    rw [if_pos (by rfl)]
    obtain ⟨cz0, hs0, hz0⟩ := hHeld.2.1.1 (w.heap.size, 28, 8) (by simp)
    refine wp_store_row 28 _ _ rfl w.heap.size #[.int .i64 z.f0, .int .i64 z.f1, .int .i64 z.f2, .int .i64 z.f3, .int .i64 z.f4, .int .i64 z.f5, .int .i64 z.f6, .int .i64 z.f7] rfl rfl 28 _ hz0 (by kernel_rfl) hs0 (by kernel_rfl) ?_
    have G_R0 := box_row (cs := #[.int .i64 z.f0, .int .i64 z.f1, .int .i64 z.f2, .int .i64 z.f3, .int .i64 z.f4, .int .i64 z.f5, .int .i64 z.f6, .int .i64 z.f7]) hz0
    have hHeld2 := hHeld.2.row w.heap.size (by omega) (by omega) #[.int .i64 z.f0, .int .i64 z.f1, .int .i64 z.f2, .int .i64 z.f3, .int .i64 z.f4, .int .i64 z.f5, .int .i64 z.f6, .int .i64 z.f7] (by simp)
    have hb0 := box_far (cs := #[.int .i64 z.f0, .int .i64 z.f1, .int .i64 z.f2, .int .i64 z.f3, .int .i64 z.f4, .int .i64 z.f5, .int .i64 z.f6, .int .i64 z.f7]) (g := w.heap.size) hHeld.1 (by omega)
    clear hz0
    generalize World.setRow _ w.heap.size #[.int .i64 z.f0, .int .i64 z.f1, .int .i64 z.f2, .int .i64 z.f3, .int .i64 z.f4, .int .i64 z.f5, .int .i64 z.f6, .int .i64 z.f7] = v1 at G_R0 hHeld2 hb0 ⊢
    refine hK.out _ _ ⟨hb0, hHeld2⟩ (fun hHeld' => ?_)
    clear hK K hHeld hHeld2 hb0; have hHeld := hHeld'; clear hHeld'
    try simp only [Act.put, List.setIfInBounds_toArray, List.set_cons_zero, List.set_cons_succ]
    refine wpAnyH_done (by kernel_rfl) ?_ _
    have r0 := G_R0.at_ (j := 0) rfl
    have r1 := G_R0.at_ (j := 1) rfl
    have r2 := G_R0.at_ (j := 2) rfl
    have r3 := G_R0.at_ (j := 3) rfl
    have r4 := G_R0.at_ (j := 4) rfl
    have r5 := G_R0.at_ (j := 5) rfl
    have r6 := G_R0.at_ (j := 6) rfl
    have r7 := G_R0.at_ (j := 7) rfl
    have HBE := hHeld.2.1.2.2
    obtain ⟨A8, c8, hv8, hF8⟩ := fr_of_own hHeld.2.2.1
    injection hv8 with q1 q2 q3
    subst q1 q3
    have HR9 := hF8.rd.mono (lo' := w.heap.size) (hi' := v1.heap.size) (by omega) (Nat.le_refl _)
    have hcp := hF8.cap
    clear hHeld hF8 q2
    go_wp2_with fail
    exact bodyPost_ret (v := .tuple #[.slice A' l.length c', .agg #[.int .i64 z.f0, .int .i64 z.f1, .int .i64 z.f2, .int .i64 z.f3, .int .i64 z.f4, .int .i64 z.f5, .int .i64 z.f6, .int .i64 z.f7]]) (by simp [results, Try.results133, go_sem, r0, r1, r2, r3, r4, r5, r6, r7]) rfl ⟨_, _, l, z, rfl, by omega, HU.out, HFZ.out, hcp, HR9, HBE⟩
set_option maxHeartbeats 8000000 in
theorem drawAR_any (n cap : Nat) (A : Option Addr) (w : World) (hn : n ≤ 140737488355328) (hb : BytesAt w w.heap.size A n) :
    Calls Try.prog 47 #[.slice A n cap] w (DrawnCA w) := by
  have R0 := Lib.hid (box_new w 28 #[.int .i64 0, .int .i64 0, .int .i64 0, .int .i64 0, .int .i64 0, .int .i64 0, .int .i64 0, .int .i64 0])
  have HB := Lib.hid ((Below.refl w.heap.size w).alloc (Nat.le_refl _) (.cells #[.int .i64 0, .int .i64 0, .int .i64 0, .int .i64 0, .int .i64 0, .int .i64 0, .int .i64 0, .int .i64 0] 28))
  have HY := Lib.hid (bytes_below hb HB.out)
  clear hb
  go_enter Try.func47, Try.ntmps47
  go_wp2_with fail
  refine Calls.mono (drawCA_any n cap A _ hn HY.out) ?_
  rintro e w1 ⟨A1, c1, l, z, rfl, hl, hu, hz, hcp, hr, hb1⟩
  replace R0 := Lib.hid (R0.out.new hb1)
  replace HB := Lib.hid (below_trans HB.out hb1 (by first | (simp; done) | (simp; omega)))
  have l0 : w.heap.size < w1.heap.size := R0.out.lt
  have HU := Lib.hid hu
  have HZ := Lib.hid hz
  simp only [World.size_alloc] at hr
  have HR := Lib.hid hr
  clear hb1 HY hu hz hr
  obtain ⟨w2, hx⟩ : ∃ X, X = World.setRow w1 w.heap.size #[.int .i64 z.f0, .int .i64 z.f1, .int .i64 z.f2, .int .i64 z.f3, .int .i64 z.f4, .int .i64 z.f5, .int .i64 z.f6, .int .i64 z.f7] := ⟨_, rfl⟩
  have HX0 := Lib.hid hx
  have OLD0 := R0
  replace R0 := Lib.hid (show BoxAt w2 w.heap.size 28 #[.int .i64 z.f0, .int .i64 z.f1, .int .i64 z.f2, .int .i64 z.f3, .int .i64 z.f4, .int .i64 z.f5, .int .i64 z.f6, .int .i64 z.f7] by rw [hx]; exact box_row R0.out)
  replace HB := Lib.hid (show Below w.heap.size w w2 by rw [hx]; exact below_setRow HB.out (by omega) _)
  replace HR := Lib.hid (show Rd w2 w.heap.size w2.heap.size 8 A1 l.length (cRule l) by rw [hx]; exact ((HR.out.keep fun b _ hb1 _ => setRow_other _ _ b _ (by omega)).mono (by omega) (by simp)))
  clear hx
  go_wp2_with (refine wpList_store_row rfl 28 _ _ rfl w.heap.size #[.int .i64 z.f0, .int .i64 z.f1, .int .i64 z.f2, .int .i64 z.f3, .int .i64 z.f4, .int .i64 z.f5, .int .i64 z.f6, .int .i64 z.f7] rfl rfl 28 _ OLD0.out (by kernel_rfl) (by kernel_rfl) (by kernel_rfl) ?_; rw [← HX0.out]; clear HX0 OLD0)
  have p0 := R0.out.at_ (j := 0) rfl
  have p1 := R0.out.at_ (j := 1) rfl
  have p2 := R0.out.at_ (j := 2) rfl
  have p3 := R0.out.at_ (j := 3) rfl
  have p4 := R0.out.at_ (j := 4) rfl
  have p5 := R0.out.at_ (j := 5) rfl
  have p6 := R0.out.at_ (j := 6) rfl
  have p7 := R0.out.at_ (j := 7) rfl
  exact bodyPost_ret (v := .tuple #[.slice A1 l.length c1, .agg #[.int .i64 z.f0, .int .i64 z.f1, .int .i64 z.f2, .int .i64 z.f3, .int .i64 z.f4, .int .i64 z.f5, .int .i64 z.f6, .int .i64 z.f7]]) (by simp [results, Try.results47, go_sem, p0, p1, p2, p3, p4, p5, p6, p7]) rfl ⟨A1, c1, l, z, rfl, hl, HU.out, HZ.out, hcp, HR.out, HB.out⟩
end Go.Proofs.Ytlnmgfbfpjfddaa
