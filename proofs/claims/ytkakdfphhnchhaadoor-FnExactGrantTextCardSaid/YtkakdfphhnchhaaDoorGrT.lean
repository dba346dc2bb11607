/- GrantText of the program. -/
import Derived.Test.YtkakdfphhnchhaaDoorWr
import Derived.Test.YtkakdfphhnchhaaDoorTxPatS
import Derived.Test.YtkakdfphhnchhaaDoorGrant
import Derived.Deep.RegionHeld3
namespace Go.Proofs.YtkakdfphhnchhaaDoor
open Go Go.ChangeShapes Go.WideShapes Go.ChangeAt Go.RowKit Go.Lib
set_option linter.unusedVariables false
set_option linter.unusedSimpArgs false
set_option maxRecDepth 100000
def kindL (k : Int) : List UInt8 := if k = 1 then [114] else if k = 2 then [119] else if k = 3 then [110] else [115]
def tGr (g : TGrant) : List UInt8 := if mIsGrant g then itoa g.f0 ++ [58] ++ kindL g.f3 ++ tPat ⟨g.f1, g.f2⟩ ++ [32] ++ itoa g.f4 ++ [45] ++ itoa g.f5 ++ (if g.f6 then [33] else []) else []
theorem tPat_in {s : TPattern} (h : TPattern.fit s) : (tPat s).length ≤ 50 := by
  unfold tPat
  split
  · have h1 := tOpt_in (v := s.f0 != 0) h.1
    have h2 := tOpt_in (v := s.f1 != -1) h.2
    simp only [List.length_append, List.length_singleton]
    omega
  · simp
theorem isGrant_kind {g : TGrant} (h : mIsGrant g = true) : g.f3 = 1 ∨ g.f3 = 2 ∨ g.f3 = 3 ∨ g.f3 = 4 := by
  unfold mIsGrant at h
  simp only [Bool.and_eq_true] at h
  have := inR_true.1 h.1.1.1.2
  omega

set_option maxHeartbeats 16000000 in
theorem impl_GrantText' (a0 a1 a2 k a4 a5 : Int) (cl : Bool) (w : World) (hT : Pow10 w) (b0 : Hid (TGrant.fit ⟨a0, a1, a2, k, a4, a5, cl⟩)) :
    Calls Tryd.prog 32 #[.agg #[.int .i64 a0, .int .i64 a1, .int .i64 a2, .int .i64 k, .int .i64 a4, .int .i64 a5, .bool cl]] w (Says (.string ⟨(tGr ⟨a0, a1, a2, k, a4, a5, cl⟩).toArray⟩) w) := by
  have HT := Lib.hid hT
  have C9 := fun W => impl_IsGrant ⟨a0, a1, a2, k, a4, a5, cl⟩ W
  obtain ⟨f0, f1, f2, f3, f4, f5⟩ := b0.out
  have f5 := (by first | exact f5 | exact f5.1 : -9223372036854775808 ≤ a5 ∧ a5 ≤ 9223372036854775807)
  have C0 := Lib.hid (says_impl a0 f0)
  have C4 := Lib.hid (says_impl a4 f4)
  have C5 := Lib.hid (says_impl a5 f5)
  have CP := Lib.hid (fun V hV => impl_PatternText ⟨a1, a2⟩ V hV (Lib.hid ⟨f1, f2⟩))
  have hx0 := itoa_in f0
  have hx4 := itoa_in f4
  have hx5 := itoa_in f5
  have hxp := tPat_in (s := ⟨a1, a2⟩) ⟨f1, f2⟩
  have KB0 := Lib.hid (box_new w 73 #[.int .i64 a0, .int .i64 a1, .int .i64 a2, .int .i64 k, .int .i64 a4, .int .i64 a5, .bool cl])
  have HB0 := Lib.hid ((Below.refl w.heap.size w).alloc (Nat.le_refl _) (.cells #[.int .i64 a0, .int .i64 a1, .int .i64 a2, .int .i64 k, .int .i64 a4, .int .i64 a5, .bool cl] 73))
  clear hT b0 f0 f1 f2 f3 f4 f5
  cases hok : mIsGrant ⟨a0, a1, a2, k, a4, a5, cl⟩ with
  | false =>
    rw [hok] at C9
    have HE := Lib.hid (show tGr ⟨a0, a1, a2, k, a4, a5, cl⟩ = [] by unfold tGr; rw [hok]; rfl)
    rw [HE.out]
    clear hok
    go_enter Tryd.func32, Tryd.ntmps32
    go_wp2_with fail
    refine (C9 _).mono ?_
    rintro e w1 ⟨rfl, hb1⟩
    have HB1 := Lib.hid (below_trans HB0.out hb1 (by simp))
    clear hb1
    go_wp2_with fail
    go_ret
    exact ⟨rfl, HB1.out⟩
  | true =>
    rw [hok] at C9
    have hk := isGrant_kind hok
    have HE : tGr ⟨a0, a1, a2, k, a4, a5, cl⟩ = itoa a0 ++ [58] ++ kindL k ++ tPat ⟨a1, a2⟩ ++ [32] ++ itoa a4 ++ [45] ++ itoa a5 ++ (if cl then [33] else []) := by unfold tGr; rw [hok]; rfl
    rw [HE]
    clear hok HE
    generalize itoa a0 = X0 at C0 hx0 ⊢
    generalize itoa a4 = X4 at C4 hx4 ⊢
    generalize itoa a5 = X5 at C5 hx5 ⊢
    generalize tPat ⟨a1, a2⟩ = P at CP hxp ⊢
    obtain ⟨Z, HZ⟩ : ∃ Z : List UInt8, Hid ((if cl then [33] else []) = Z) := ⟨_, Lib.hid rfl⟩
    rw [HZ.out]
    dsimp only at hk
    rcases hk with rfl | rfl | rfl | rfl
    · skip
      go_enter Tryd.func32, Tryd.ntmps32
      go_wp2_with fail
      refine (C9 _).mono ?_
      rintro e w1 ⟨rfl, hb1⟩
      have HB1 := Lib.hid (below_trans HB0.out hb1 (by simp))
      have KB1 := Lib.hid (KB0.out.new hb1)
      have hl1 : w.heap.size < w1.heap.size := KB1.out.lt
      clear hb1
      have e0 := KB1.out.at_ (j := 0) rfl
      have e1 := KB1.out.at_ (j := 1) rfl
      have e2 := KB1.out.at_ (j := 2) rfl
      have e3 := KB1.out.at_ (j := 3) rfl
      have e4 := KB1.out.at_ (j := 4) rfl
      have e5 := KB1.out.at_ (j := 5) rfl
      have e6 := KB1.out.at_ (j := 6) rfl
      go_wp2_with fail
      clear e0 e1 e2 e3 e4 e5 e6
      obtain ⟨gwr, hgwr⟩ : ∃ g, g = w1.heap.size := ⟨_, rfl⟩
      have Gwr : BoxAt (w1.alloc (.cells #[.slice none 0 0] 102)).drew gwr 102 #[.slice none 0 0] := by subst hgwr; exact (box_new _ _ _).drw
      rw [← hgwr]
      rw [show (ByteArray.mk #[114, 119, 110, 115]).extract 0 1 = ⟨#[114]⟩ from by first | rfl | decide | (apply ByteArray.ext; rfl)]
      have Lwr : w1.heap.size ≤ gwr := by omega
      have Lwl : w.heap.size < gwr := by omega
      clear hgwr
      refine wp_region_held_drew (S := fun w' => BoxAt w' w.heap.size 73 #[.int .i64 a0, .int .i64 a1, .int .i64 a2, .int .i64 1, .int .i64 a4, .int .i64 a5, .bool cl] ∧ Below w1.heap.size w1 w') (by kernel_rfl) ?_ (fun hHeld => ?_)
      · exact ⟨KB1.out.alloc_ _ |>.drw, ((Below.refl _ _).alloc (Nat.le_refl _) _).drew⟩
      generalize (World.drew _) = x0 at hHeld Gwr ⊢
      refine wpAnyH_take (i := 0) (oi := ⟨some 14, _, _, _, _, _⟩) (v := ?_) rfl (by kernel_rfl) (by kernel_rfl) (by kernel_rfl) (fun _ _ _ h => h) (Or.inl ⟨by kernel_rfl, ?_⟩) hHeld ?_
      rotate_left
      focus (intro W hS; have c0_0 := (hS.1).at_ (j := 0) rfl; have c0_1 := (hS.1).at_ (j := 1) rfl; have c0_2 := (hS.1).at_ (j := 2) rfl; have c0_3 := (hS.1).at_ (j := 3) rfl; have c0_4 := (hS.1).at_ (j := 4) rfl; have c0_5 := (hS.1).at_ (j := 5) rfl; have c0_6 := (hS.1).at_ (j := 6) rfl; clear hS; first | (go_simp; done) | (go_simp; with_reducible rfl))
      try simp only [Act.put, List.setIfInBounds_toArray, List.set_cons_zero, List.set_cons_succ]
      refine wpAnyH_take (i := 1) (oi := ⟨some 15, _, _, _, _, _⟩) (v := ?_) rfl (by kernel_rfl) (by kernel_rfl) (by kernel_rfl) (fun _ _ _ h => h) (Or.inl ⟨by kernel_rfl, ?_⟩) hHeld ?_
      rotate_left
      focus (intro W hS; have c0_0 := (hS.1).at_ (j := 0) rfl; have c0_1 := (hS.1).at_ (j := 1) rfl; have c0_2 := (hS.1).at_ (j := 2) rfl; have c0_3 := (hS.1).at_ (j := 3) rfl; have c0_4 := (hS.1).at_ (j := 4) rfl; have c0_5 := (hS.1).at_ (j := 5) rfl; have c0_6 := (hS.1).at_ (j := 6) rfl; clear hS; first | (go_simp; done) | (go_simp; with_reducible rfl))
      try simp only [Act.put, List.setIfInBounds_toArray, List.set_cons_zero, List.set_cons_succ]
      refine wpAnyH_take (i := 3) (oi := ⟨some 17, _, _, _, _, _⟩) (v := ?_) rfl (by kernel_rfl) (by kernel_rfl) (by kernel_rfl) (fun _ _ _ h => h) (Or.inl ⟨by kernel_rfl, ?_⟩) hHeld ?_
      rotate_left
      focus (intro W hS; have c0_0 := (hS.1).at_ (j := 0) rfl; have c0_1 := (hS.1).at_ (j := 1) rfl; have c0_2 := (hS.1).at_ (j := 2) rfl; have c0_3 := (hS.1).at_ (j := 3) rfl; have c0_4 := (hS.1).at_ (j := 4) rfl; have c0_5 := (hS.1).at_ (j := 5) rfl; have c0_6 := (hS.1).at_ (j := 6) rfl; clear hS; first | (go_simp; done) | (go_simp; with_reducible rfl))
      try simp only [Act.put, List.setIfInBounds_toArray, List.set_cons_zero, List.set_cons_succ]
      refine wpAnyH_take (i := 4) (oi := ⟨some 18, _, _, _, _, _⟩) (v := ?_) rfl (by kernel_rfl) (by kernel_rfl) (by kernel_rfl) (fun _ _ _ h => h) (Or.inl ⟨by kernel_rfl, ?_⟩) hHeld ?_
      rotate_left
      focus (intro W hS; have c0_0 := (hS.1).at_ (j := 0) rfl; have c0_1 := (hS.1).at_ (j := 1) rfl; have c0_2 := (hS.1).at_ (j := 2) rfl; have c0_3 := (hS.1).at_ (j := 3) rfl; have c0_4 := (hS.1).at_ (j := 4) rfl; have c0_5 := (hS.1).at_ (j := 5) rfl; have c0_6 := (hS.1).at_ (j := 6) rfl; clear hS; first | (go_simp; done) | (go_simp; with_reducible rfl))
      try simp only [Act.put, List.setIfInBounds_toArray, List.set_cons_zero, List.set_cons_succ]
      refine wpAnyH_take (i := 5) (oi := ⟨some 19, _, _, _, _, _⟩) (v := ?_) rfl (by kernel_rfl) (by kernel_rfl) (by kernel_rfl) (fun _ _ _ h => h) (Or.inl ⟨by kernel_rfl, ?_⟩) hHeld ?_
      rotate_left
      focus (intro W hS; have c0_0 := (hS.1).at_ (j := 0) rfl; have c0_1 := (hS.1).at_ (j := 1) rfl; have c0_2 := (hS.1).at_ (j := 2) rfl; have c0_3 := (hS.1).at_ (j := 3) rfl; have c0_4 := (hS.1).at_ (j := 4) rfl; have c0_5 := (hS.1).at_ (j := 5) rfl; have c0_6 := (hS.1).at_ (j := 6) rfl; clear hS; first | (go_simp; done) | (go_simp; with_reducible rfl))
      try simp only [Act.put, List.setIfInBounds_toArray, List.set_cons_zero, List.set_cons_succ]
      refine wpAnyH_take (i := 7) (oi := ⟨some 21, _, _, _, _, _⟩) (v := ?_) rfl (by kernel_rfl) (by kernel_rfl) (by kernel_rfl) (fun _ _ _ h => h) (Or.inl ⟨by kernel_rfl, ?_⟩) hHeld ?_
      rotate_left
      focus (intro W hS; have c0_0 := (hS.1).at_ (j := 0) rfl; have c0_1 := (hS.1).at_ (j := 1) rfl; have c0_2 := (hS.1).at_ (j := 2) rfl; have c0_3 := (hS.1).at_ (j := 3) rfl; have c0_4 := (hS.1).at_ (j := 4) rfl; have c0_5 := (hS.1).at_ (j := 5) rfl; have c0_6 := (hS.1).at_ (j := 6) rfl; clear hS; first | (go_simp; done) | (go_simp; with_reducible rfl))
      try simp only [Act.put, List.setIfInBounds_toArray, List.set_cons_zero, List.set_cons_succ]
      refine wpAnyH_take (i := 8) (oi := ⟨some 22, _, _, _, _, _⟩) (v := ?_) rfl (by kernel_rfl) (by kernel_rfl) (by kernel_rfl) (fun _ _ _ h => h) (Or.inl ⟨by kernel_rfl, ?_⟩) hHeld ?_
      rotate_left
      focus (intro W hS; have c0_0 := (hS.1).at_ (j := 0) rfl; have c0_1 := (hS.1).at_ (j := 1) rfl; have c0_2 := (hS.1).at_ (j := 2) rfl; have c0_3 := (hS.1).at_ (j := 3) rfl; have c0_4 := (hS.1).at_ (j := 4) rfl; have c0_5 := (hS.1).at_ (j := 5) rfl; have c0_6 := (hS.1).at_ (j := 6) rfl; clear hS; first | (go_simp; done) | (go_simp; with_reducible rfl))
      try simp only [Act.put, List.setIfInBounds_toArray, List.set_cons_zero, List.set_cons_succ]
      refine wpAnyH_take (i := 10) (oi := ⟨some 24, _, _, _, _, _⟩) (v := ?_) rfl (by kernel_rfl) (by kernel_rfl) (by kernel_rfl) (fun _ _ _ h => h) (Or.inl ⟨by kernel_rfl, ?_⟩) hHeld ?_
      rotate_left
      focus (intro W hS; have c0_0 := (hS.1).at_ (j := 0) rfl; have c0_1 := (hS.1).at_ (j := 1) rfl; have c0_2 := (hS.1).at_ (j := 2) rfl; have c0_3 := (hS.1).at_ (j := 3) rfl; have c0_4 := (hS.1).at_ (j := 4) rfl; have c0_5 := (hS.1).at_ (j := 5) rfl; have c0_6 := (hS.1).at_ (j := 6) rfl; clear hS; first | (go_simp; done) | (go_simp; with_reducible rfl))
      try simp only [Act.put, List.setIfInBounds_toArray, List.set_cons_zero, List.set_cons_succ]
      refine wpAnyH_take (i := 11) (oi := ⟨some 25, _, _, _, _, _⟩) (v := ?_) rfl (by kernel_rfl) (by kernel_rfl) (by kernel_rfl) (fun _ _ _ h => h) (Or.inl ⟨by kernel_rfl, ?_⟩) hHeld ?_
      rotate_left
      focus (intro W hS; have c0_0 := (hS.1).at_ (j := 0) rfl; have c0_1 := (hS.1).at_ (j := 1) rfl; have c0_2 := (hS.1).at_ (j := 2) rfl; have c0_3 := (hS.1).at_ (j := 3) rfl; have c0_4 := (hS.1).at_ (j := 4) rfl; have c0_5 := (hS.1).at_ (j := 5) rfl; have c0_6 := (hS.1).at_ (j := 6) rfl; clear hS; first | (go_simp; done) | (go_simp; with_reducible rfl))
      try simp only [Act.put, List.setIfInBounds_toArray, List.set_cons_zero, List.set_cons_succ]
      refine wpAnyH_ready (rs := [2]) (by kernel_rfl) (by simp) ?_
      refine AllReadyH.cons (o := ⟨some 16, _, _, _, _, _⟩) rfl (fun K hK => ?_) AllReadyH.nil
      go_simp
      refine Calls.mono (C0.out _ (pow10_below HT.out (below_trans HB1.out hHeld.2 (Nat.le_refl _)))) ?_
      rintro e x1 ⟨rfl, hb1⟩
      replace Gwr := Gwr.new hb1
      refine hK.out _ _ ⟨hHeld.1.new hb1, below_trans hHeld.2 hb1 (Nat.le_refl _)⟩ (fun hHeld' => ?_)
      clear hK K hHeld hb1
      have hHeld := hHeld'
      clear hHeld'
      try simp only [Act.put, List.setIfInBounds_toArray, List.set_cons_zero, List.set_cons_succ]
      refine wpAnyH_ready (rs := [6]) (by kernel_rfl) (by simp) ?_
      refine AllReadyH.cons (o := ⟨some 20, _, _, _, _, _⟩) rfl (fun K hK => ?_) AllReadyH.nil
      go_simp
      refine Calls.mono (CP.out _ (pow10_below HT.out (below_trans HB1.out hHeld.2 (Nat.le_refl _)))) ?_
      rintro e x2 ⟨rfl, hb1⟩
      replace Gwr := Gwr.new hb1
      refine hK.out _ _ ⟨hHeld.1.new hb1, below_trans hHeld.2 hb1 (Nat.le_refl _)⟩ (fun hHeld' => ?_)
      clear hK K hHeld hb1
      have hHeld := hHeld'
      clear hHeld'
      try simp only [Act.put, List.setIfInBounds_toArray, List.set_cons_zero, List.set_cons_succ]
      refine wpAnyH_ready (rs := [9]) (by kernel_rfl) (by simp) ?_
      refine AllReadyH.cons (o := ⟨some 23, _, _, _, _, _⟩) rfl (fun K hK => ?_) AllReadyH.nil
      go_simp
      refine Calls.mono (C4.out _ (pow10_below HT.out (below_trans HB1.out hHeld.2 (Nat.le_refl _)))) ?_
      rintro e x3 ⟨rfl, hb1⟩
      replace Gwr := Gwr.new hb1
      refine hK.out _ _ ⟨hHeld.1.new hb1, below_trans hHeld.2 hb1 (Nat.le_refl _)⟩ (fun hHeld' => ?_)
      clear hK K hHeld hb1
      have hHeld := hHeld'
      clear hHeld'
      try simp only [Act.put, List.setIfInBounds_toArray, List.set_cons_zero, List.set_cons_succ]
      refine wpAnyH_ready (rs := [12]) (by kernel_rfl) (by simp) ?_
      refine AllReadyH.cons (o := ⟨some 26, _, _, _, _, _⟩) rfl (fun K hK => ?_) AllReadyH.nil
      go_simp
      refine Calls.mono (C5.out _ (pow10_below HT.out (below_trans HB1.out hHeld.2 (Nat.le_refl _)))) ?_
      rintro e x4 ⟨rfl, hb1⟩
      replace Gwr := Gwr.new hb1
      refine hK.out _ _ ⟨hHeld.1.new hb1, below_trans hHeld.2 hb1 (Nat.le_refl _)⟩ (fun hHeld' => ?_)
      clear hK K hHeld hb1
      have hHeld := hHeld'
      clear hHeld'
      try simp only [Act.put, List.setIfInBounds_toArray, List.set_cons_zero, List.set_cons_succ]
      refine wpAnyH_ready (rs := [13]) (by kernel_rfl) (by simp) ?_
      refine AllReadyH.cons (o := ⟨some 27, _, _, _, _, _⟩) rfl (fun K hK => ?_) AllReadyH.nil
      go_simp
      have Glit := box_new (x4) 9 #[.string ⟨X0.toArray⟩, .string ⟨#[58]⟩, .string ⟨#[114]⟩, .string ⟨P.toArray⟩, .string ⟨#[32]⟩, .string ⟨X4.toArray⟩, .string ⟨#[45]⟩, .string ⟨X5.toArray⟩]
      have hb1 := (Below.refl (x4).heap.size (x4)).alloc (Nat.le_refl _) (.cells #[.string ⟨X0.toArray⟩, .string ⟨#[58]⟩, .string ⟨#[114]⟩, .string ⟨P.toArray⟩, .string ⟨#[32]⟩, .string ⟨X4.toArray⟩, .string ⟨#[45]⟩, .string ⟨X5.toArray⟩] 9)
      have Llit : w1.heap.size ≤ (x4).heap.size := by have := (hHeld.1).lt; have := (hHeld.2).size; omega
      have M0lit : w.heap.size < (x4).heap.size := (hHeld.1).lt
      have Nwrlit : gwr < (x4).heap.size := Gwr.lt
      replace Gwr := Gwr.new hb1
      generalize (x4).alloc (.cells #[.string ⟨X0.toArray⟩, .string ⟨#[58]⟩, .string ⟨#[114]⟩, .string ⟨P.toArray⟩, .string ⟨#[32]⟩, .string ⟨X4.toArray⟩, .string ⟨#[45]⟩, .string ⟨X5.toArray⟩] 9) = x5 at hb1 Glit Gwr ⊢
      generalize hg : (x4).heap.size = glit at Glit Llit Nwrlit M0lit ⊢
      clear hg
      refine hK.out _ _ ⟨hHeld.1.new hb1, below_trans hHeld.2 hb1 (Nat.le_refl _)⟩ (fun hHeld' => ?_)
      clear hK K hHeld hb1
      have hHeld := hHeld'
      clear hHeld'
      try simp only [Act.put, List.setIfInBounds_toArray, List.set_cons_zero, List.set_cons_succ]
      refine wpAnyH_ready (rs := [14]) (by kernel_rfl) (by simp) ?_
      refine AllReadyH.cons (o := ⟨some 28, _, _, _, _, _⟩) rfl (fun K hK => ?_) AllReadyH.nil
      have HLIT : ∀ (j : Nat) t, ([X0, [58], [114], P, [32], X4, [45], X5] : List (List UInt8))[j]? = some t → x5.cell? ⟨glit, 0 + j, none⟩ = some (.string ⟨t.toArray⟩) := by
        intro j t hj
        rcases j with _ | _ | _ | _ | _ | _ | _ | _ | j
        · simp at hj; subst hj; exact Glit.at_ (j := 0) rfl
        · simp at hj; subst hj; exact Glit.at_ (j := 1) rfl
        · simp at hj; subst hj; exact Glit.at_ (j := 2) rfl
        · simp at hj; subst hj; exact Glit.at_ (j := 3) rfl
        · simp at hj; subst hj; exact Glit.at_ (j := 4) rfl
        · simp at hj; subst hj; exact Glit.at_ (j := 5) rfl
        · simp at hj; subst hj; exact Glit.at_ (j := 6) rfl
        · simp at hj; subst hj; exact Glit.at_ (j := 7) rfl
        · simp at hj
      have hgw := Gwr.lt
      go_simp
      refine Calls.mono (impl_put gwr (gwr + 1) [] (.slice none 0 0) [X0, [58], [114], P, [32], X4, [45], X5] glit 0 8 _ (by omega) (by omega) ⟨Gwr, World.ownsRow_nil _ _ _ _⟩ HLIT (by omega) (by simp [Value.ownBlock]) (by simp) (by simp; omega)) ?_
      rintro e xP ⟨rfl, vP, hWP, _, hPP⟩
      have HBP : Below gwr x5 xP := hPP.below (Nat.le_refl _) (fun q hq => by simp [Value.ownBlock] at hq) (by omega)
      have HWP := Lib.hid (show Wrt xP gwr (gwr + 1) (X0 ++ [58] ++ [114] ++ P ++ [32] ++ X4 ++ [45] ++ X5) vP by simpa using hWP)
      have Q1 := hHeld.1.keep (HBP.block _ (by omega))
      have Q2 := hHeld.2.trans (HBP.mono (by omega))
      refine hK.out _ _ ⟨Q1, Q2⟩ (fun hHeld' => ?_)
      clear hK K hHeld hPP hWP HBP Q1 Q2 Gwr Glit HLIT
      have hHeld := hHeld'
      clear hHeld'
      try simp only [Act.put, List.setIfInBounds_toArray, List.set_cons_zero, List.set_cons_succ]
      refine wpAnyH_done (by kernel_rfl) ?_ _
      have KBp := Lib.hid hHeld.1
      have HBp := Lib.hid (below_trans HB1.out hHeld.2 (Nat.le_refl _))
      have hgs : gwr < xP.heap.size := HWP.out.1.lt
      clear hHeld
      have HJ := Lib.hid (show (X0 ++ [58] ++ [114] ++ P ++ [32] ++ X4 ++ [45] ++ X5).length ≤ 200 by simp; omega)
      generalize hJe : X0 ++ [58] ++ [114] ++ P ++ [32] ++ X4 ++ [45] ++ X5 = J at HWP HJ ⊢
      have HJe := Lib.hid hJe
      clear hJe
      have e6 := KBp.out.at_ (j := 6) rfl
      cases cl
      · have HTx := Lib.hid (impl_text gwr (gwr + 1) _ vP _ HWP.out)
        have HZ0 := Lib.hid (show Z = [] from HZ.out.symm)
        go_wp2_with fail
        refine HTx.out.mono ?_
        rintro e w9 ⟨rfl, rfl⟩
        go_wp2_with fail
        go_ret
        exact ⟨by rw [HZ0.out, List.append_nil, show kindL 1 = [114] from rfl, HJe.out]; rfl, HBp.out⟩
      · have HPt := Lib.hid (impl_put gwr (gwr + 1) J vP [[33]] xP.heap.size 0 1 (xP.alloc (.cells #[.string ⟨#[33]⟩] 9)) (by omega) (by simp; omega) (wrt_alloc HWP.out _) (fun j t hj => by
          rcases j with _ | j
          · simp at hj; subst hj; exact (box_new xP 9 #[.string ⟨#[33]⟩]).at_ (j := 0) rfl
          · simp at hj) (by omega) (fun e => by have := (HWP.out.2.lt _ e).2; omega) (by simp) (by have := HJ.out; simp; omega))
        have HZ1 := Lib.hid (show Z = [33] from HZ.out.symm)
        go_wp2_with fail
        refine HPt.out.mono ?_
        rintro e w8 ⟨rfl, v8, h8, _, hp8⟩
        have HB8 := Lib.hid ((HBp.out.alloc HBp.out.size (.cells #[.string ⟨#[33]⟩] 9)).trans (hp8.below (by omega) (fun q hq => by have := (HWP.out.2.lt _ hq).1; omega) (by have := HBp.out.size; simp; omega)))
        have HTx := Lib.hid (impl_text gwr (gwr + 1) _ v8 _ h8)
        clear h8 hp8 e6
        go_wp2_with fail
        refine HTx.out.mono ?_
        rintro e w9 ⟨rfl, rfl⟩
        go_wp2_with fail
        go_ret
        exact ⟨by rw [HZ1.out, show kindL 1 = [114] from rfl, HJe.out]; simp, HB8.out⟩
    · skip
      go_enter Tryd.func32, Tryd.ntmps32
      go_wp2_with fail
      refine (C9 _).mono ?_
      rintro e w1 ⟨rfl, hb1⟩
      have HB1 := Lib.hid (below_trans HB0.out hb1 (by simp))
      have KB1 := Lib.hid (KB0.out.new hb1)
      have hl1 : w.heap.size < w1.heap.size := KB1.out.lt
      clear hb1
      have e0 := KB1.out.at_ (j := 0) rfl
      have e1 := KB1.out.at_ (j := 1) rfl
      have e2 := KB1.out.at_ (j := 2) rfl
      have e3 := KB1.out.at_ (j := 3) rfl
      have e4 := KB1.out.at_ (j := 4) rfl
      have e5 := KB1.out.at_ (j := 5) rfl
      have e6 := KB1.out.at_ (j := 6) rfl
      go_wp2_with fail
      clear e0 e1 e2 e3 e4 e5 e6
      obtain ⟨gwr, hgwr⟩ : ∃ g, g = w1.heap.size := ⟨_, rfl⟩
      have Gwr : BoxAt (w1.alloc (.cells #[.slice none 0 0] 102)).drew gwr 102 #[.slice none 0 0] := by subst hgwr; exact (box_new _ _ _).drw
      rw [← hgwr]
      rw [show (ByteArray.mk #[114, 119, 110, 115]).extract 1 2 = ⟨#[119]⟩ from by first | rfl | decide | (apply ByteArray.ext; rfl)]
      have Lwr : w1.heap.size ≤ gwr := by omega
      have Lwl : w.heap.size < gwr := by omega
      clear hgwr
      refine wp_region_held_drew (S := fun w' => BoxAt w' w.heap.size 73 #[.int .i64 a0, .int .i64 a1, .int .i64 a2, .int .i64 2, .int .i64 a4, .int .i64 a5, .bool cl] ∧ Below w1.heap.size w1 w') (by kernel_rfl) ?_ (fun hHeld => ?_)
      · exact ⟨KB1.out.alloc_ _ |>.drw, ((Below.refl _ _).alloc (Nat.le_refl _) _).drew⟩
      generalize (World.drew _) = x0 at hHeld Gwr ⊢
      refine wpAnyH_take (i := 0) (oi := ⟨some 14, _, _, _, _, _⟩) (v := ?_) rfl (by kernel_rfl) (by kernel_rfl) (by kernel_rfl) (fun _ _ _ h => h) (Or.inl ⟨by kernel_rfl, ?_⟩) hHeld ?_
      rotate_left
      focus (intro W hS; have c0_0 := (hS.1).at_ (j := 0) rfl; have c0_1 := (hS.1).at_ (j := 1) rfl; have c0_2 := (hS.1).at_ (j := 2) rfl; have c0_3 := (hS.1).at_ (j := 3) rfl; have c0_4 := (hS.1).at_ (j := 4) rfl; have c0_5 := (hS.1).at_ (j := 5) rfl; have c0_6 := (hS.1).at_ (j := 6) rfl; clear hS; first | (go_simp; done) | (go_simp; with_reducible rfl))
      try simp only [Act.put, List.setIfInBounds_toArray, List.set_cons_zero, List.set_cons_succ]
      refine wpAnyH_take (i := 1) (oi := ⟨some 15, _, _, _, _, _⟩) (v := ?_) rfl (by kernel_rfl) (by kernel_rfl) (by kernel_rfl) (fun _ _ _ h => h) (Or.inl ⟨by kernel_rfl, ?_⟩) hHeld ?_
      rotate_left
      focus (intro W hS; have c0_0 := (hS.1).at_ (j := 0) rfl; have c0_1 := (hS.1).at_ (j := 1) rfl; have c0_2 := (hS.1).at_ (j := 2) rfl; have c0_3 := (hS.1).at_ (j := 3) rfl; have c0_4 := (hS.1).at_ (j := 4) rfl; have c0_5 := (hS.1).at_ (j := 5) rfl; have c0_6 := (hS.1).at_ (j := 6) rfl; clear hS; first | (go_simp; done) | (go_simp; with_reducible rfl))
      try simp only [Act.put, List.setIfInBounds_toArray, List.set_cons_zero, List.set_cons_succ]
      refine wpAnyH_take (i := 3) (oi := ⟨some 17, _, _, _, _, _⟩) (v := ?_) rfl (by kernel_rfl) (by kernel_rfl) (by kernel_rfl) (fun _ _ _ h => h) (Or.inl ⟨by kernel_rfl, ?_⟩) hHeld ?_
      rotate_left
      focus (intro W hS; have c0_0 := (hS.1).at_ (j := 0) rfl; have c0_1 := (hS.1).at_ (j := 1) rfl; have c0_2 := (hS.1).at_ (j := 2) rfl; have c0_3 := (hS.1).at_ (j := 3) rfl; have c0_4 := (hS.1).at_ (j := 4) rfl; have c0_5 := (hS.1).at_ (j := 5) rfl; have c0_6 := (hS.1).at_ (j := 6) rfl; clear hS; first | (go_simp; done) | (go_simp; with_reducible rfl))
      try simp only [Act.put, List.setIfInBounds_toArray, List.set_cons_zero, List.set_cons_succ]
      refine wpAnyH_take (i := 4) (oi := ⟨some 18, _, _, _, _, _⟩) (v := ?_) rfl (by kernel_rfl) (by kernel_rfl) (by kernel_rfl) (fun _ _ _ h => h) (Or.inl ⟨by kernel_rfl, ?_⟩) hHeld ?_
      rotate_left
      focus (intro W hS; have c0_0 := (hS.1).at_ (j := 0) rfl; have c0_1 := (hS.1).at_ (j := 1) rfl; have c0_2 := (hS.1).at_ (j := 2) rfl; have c0_3 := (hS.1).at_ (j := 3) rfl; have c0_4 := (hS.1).at_ (j := 4) rfl; have c0_5 := (hS.1).at_ (j := 5) rfl; have c0_6 := (hS.1).at_ (j := 6) rfl; clear hS; first | (go_simp; done) | (go_simp; with_reducible rfl))
      try simp only [Act.put, List.setIfInBounds_toArray, List.set_cons_zero, List.set_cons_succ]
      refine wpAnyH_take (i := 5) (oi := ⟨some 19, _, _, _, _, _⟩) (v := ?_) rfl (by kernel_rfl) (by kernel_rfl) (by kernel_rfl) (fun _ _ _ h => h) (Or.inl ⟨by kernel_rfl, ?_⟩) hHeld ?_
      rotate_left
      focus (intro W hS; have c0_0 := (hS.1).at_ (j := 0) rfl; have c0_1 := (hS.1).at_ (j := 1) rfl; have c0_2 := (hS.1).at_ (j := 2) rfl; have c0_3 := (hS.1).at_ (j := 3) rfl; have c0_4 := (hS.1).at_ (j := 4) rfl; have c0_5 := (hS.1).at_ (j := 5) rfl; have c0_6 := (hS.1).at_ (j := 6) rfl; clear hS; first | (go_simp; done) | (go_simp; with_reducible rfl))
      try simp only [Act.put, List.setIfInBounds_toArray, List.set_cons_zero, List.set_cons_succ]
      refine wpAnyH_take (i := 7) (oi := ⟨some 21, _, _, _, _, _⟩) (v := ?_) rfl (by kernel_rfl) (by kernel_rfl) (by kernel_rfl) (fun _ _ _ h => h) (Or.inl ⟨by kernel_rfl, ?_⟩) hHeld ?_
      rotate_left
      focus (intro W hS; have c0_0 := (hS.1).at_ (j := 0) rfl; have c0_1 := (hS.1).at_ (j := 1) rfl; have c0_2 := (hS.1).at_ (j := 2) rfl; have c0_3 := (hS.1).at_ (j := 3) rfl; have c0_4 := (hS.1).at_ (j := 4) rfl; have c0_5 := (hS.1).at_ (j := 5) rfl; have c0_6 := (hS.1).at_ (j := 6) rfl; clear hS; first | (go_simp; done) | (go_simp; with_reducible rfl))
      try simp only [Act.put, List.setIfInBounds_toArray, List.set_cons_zero, List.set_cons_succ]
      refine wpAnyH_take (i := 8) (oi := ⟨some 22, _, _, _, _, _⟩) (v := ?_) rfl (by kernel_rfl) (by kernel_rfl) (by kernel_rfl) (fun _ _ _ h => h) (Or.inl ⟨by kernel_rfl, ?_⟩) hHeld ?_
      rotate_left
      focus (intro W hS; have c0_0 := (hS.1).at_ (j := 0) rfl; have c0_1 := (hS.1).at_ (j := 1) rfl; have c0_2 := (hS.1).at_ (j := 2) rfl; have c0_3 := (hS.1).at_ (j := 3) rfl; have c0_4 := (hS.1).at_ (j := 4) rfl; have c0_5 := (hS.1).at_ (j := 5) rfl; have c0_6 := (hS.1).at_ (j := 6) rfl; clear hS; first | (go_simp; done) | (go_simp; with_reducible rfl))
      try simp only [Act.put, List.setIfInBounds_toArray, List.set_cons_zero, List.set_cons_succ]
      refine wpAnyH_take (i := 10) (oi := ⟨some 24, _, _, _, _, _⟩) (v := ?_) rfl (by kernel_rfl) (by kernel_rfl) (by kernel_rfl) (fun _ _ _ h => h) (Or.inl ⟨by kernel_rfl, ?_⟩) hHeld ?_
      rotate_left
      focus (intro W hS; have c0_0 := (hS.1).at_ (j := 0) rfl; have c0_1 := (hS.1).at_ (j := 1) rfl; have c0_2 := (hS.1).at_ (j := 2) rfl; have c0_3 := (hS.1).at_ (j := 3) rfl; have c0_4 := (hS.1).at_ (j := 4) rfl; have c0_5 := (hS.1).at_ (j := 5) rfl; have c0_6 := (hS.1).at_ (j := 6) rfl; clear hS; first | (go_simp; done) | (go_simp; with_reducible rfl))
      try simp only [Act.put, List.setIfInBounds_toArray, List.set_cons_zero, List.set_cons_succ]
      refine wpAnyH_take (i := 11) (oi := ⟨some 25, _, _, _, _, _⟩) (v := ?_) rfl (by kernel_rfl) (by kernel_rfl) (by kernel_rfl) (fun _ _ _ h => h) (Or.inl ⟨by kernel_rfl, ?_⟩) hHeld ?_
      rotate_left
      focus (intro W hS; have c0_0 := (hS.1).at_ (j := 0) rfl; have c0_1 := (hS.1).at_ (j := 1) rfl; have c0_2 := (hS.1).at_ (j := 2) rfl; have c0_3 := (hS.1).at_ (j := 3) rfl; have c0_4 := (hS.1).at_ (j := 4) rfl; have c0_5 := (hS.1).at_ (j := 5) rfl; have c0_6 := (hS.1).at_ (j := 6) rfl; clear hS; first | (go_simp; done) | (go_simp; with_reducible rfl))
      try simp only [Act.put, List.setIfInBounds_toArray, List.set_cons_zero, List.set_cons_succ]
      refine wpAnyH_ready (rs := [2]) (by kernel_rfl) (by simp) ?_
      refine AllReadyH.cons (o := ⟨some 16, _, _, _, _, _⟩) rfl (fun K hK => ?_) AllReadyH.nil
      go_simp
      refine Calls.mono (C0.out _ (pow10_below HT.out (below_trans HB1.out hHeld.2 (Nat.le_refl _)))) ?_
      rintro e x1 ⟨rfl, hb1⟩
      replace Gwr := Gwr.new hb1
      refine hK.out _ _ ⟨hHeld.1.new hb1, below_trans hHeld.2 hb1 (Nat.le_refl _)⟩ (fun hHeld' => ?_)
      clear hK K hHeld hb1
      have hHeld := hHeld'
      clear hHeld'
      try simp only [Act.put, List.setIfInBounds_toArray, List.set_cons_zero, List.set_cons_succ]
      refine wpAnyH_ready (rs := [6]) (by kernel_rfl) (by simp) ?_
      refine AllReadyH.cons (o := ⟨some 20, _, _, _, _, _⟩) rfl (fun K hK => ?_) AllReadyH.nil
      go_simp
      refine Calls.mono (CP.out _ (pow10_below HT.out (below_trans HB1.out hHeld.2 (Nat.le_refl _)))) ?_
      rintro e x2 ⟨rfl, hb1⟩
      replace Gwr := Gwr.new hb1
      refine hK.out _ _ ⟨hHeld.1.new hb1, below_trans hHeld.2 hb1 (Nat.le_refl _)⟩ (fun hHeld' => ?_)
      clear hK K hHeld hb1
      have hHeld := hHeld'
      clear hHeld'
      try simp only [Act.put, List.setIfInBounds_toArray, List.set_cons_zero, List.set_cons_succ]
      refine wpAnyH_ready (rs := [9]) (by kernel_rfl) (by simp) ?_
      refine AllReadyH.cons (o := ⟨some 23, _, _, _, _, _⟩) rfl (fun K hK => ?_) AllReadyH.nil
      go_simp
      refine Calls.mono (C4.out _ (pow10_below HT.out (below_trans HB1.out hHeld.2 (Nat.le_refl _)))) ?_
      rintro e x3 ⟨rfl, hb1⟩
      replace Gwr := Gwr.new hb1
      refine hK.out _ _ ⟨hHeld.1.new hb1, below_trans hHeld.2 hb1 (Nat.le_refl _)⟩ (fun hHeld' => ?_)
      clear hK K hHeld hb1
      have hHeld := hHeld'
      clear hHeld'
      try simp only [Act.put, List.setIfInBounds_toArray, List.set_cons_zero, List.set_cons_succ]
      refine wpAnyH_ready (rs := [12]) (by kernel_rfl) (by simp) ?_
      refine AllReadyH.cons (o := ⟨some 26, _, _, _, _, _⟩) rfl (fun K hK => ?_) AllReadyH.nil
      go_simp
      refine Calls.mono (C5.out _ (pow10_below HT.out (below_trans HB1.out hHeld.2 (Nat.le_refl _)))) ?_
      rintro e x4 ⟨rfl, hb1⟩
      replace Gwr := Gwr.new hb1
      refine hK.out _ _ ⟨hHeld.1.new hb1, below_trans hHeld.2 hb1 (Nat.le_refl _)⟩ (fun hHeld' => ?_)
      clear hK K hHeld hb1
      have hHeld := hHeld'
      clear hHeld'
      try simp only [Act.put, List.setIfInBounds_toArray, List.set_cons_zero, List.set_cons_succ]
      refine wpAnyH_ready (rs := [13]) (by kernel_rfl) (by simp) ?_
      refine AllReadyH.cons (o := ⟨some 27, _, _, _, _, _⟩) rfl (fun K hK => ?_) AllReadyH.nil
      go_simp
      have Glit := box_new (x4) 9 #[.string ⟨X0.toArray⟩, .string ⟨#[58]⟩, .string ⟨#[119]⟩, .string ⟨P.toArray⟩, .string ⟨#[32]⟩, .string ⟨X4.toArray⟩, .string ⟨#[45]⟩, .string ⟨X5.toArray⟩]
      have hb1 := (Below.refl (x4).heap.size (x4)).alloc (Nat.le_refl _) (.cells #[.string ⟨X0.toArray⟩, .string ⟨#[58]⟩, .string ⟨#[119]⟩, .string ⟨P.toArray⟩, .string ⟨#[32]⟩, .string ⟨X4.toArray⟩, .string ⟨#[45]⟩, .string ⟨X5.toArray⟩] 9)
      have Llit : w1.heap.size ≤ (x4).heap.size := by have := (hHeld.1).lt; have := (hHeld.2).size; omega
      have M0lit : w.heap.size < (x4).heap.size := (hHeld.1).lt
      have Nwrlit : gwr < (x4).heap.size := Gwr.lt
      replace Gwr := Gwr.new hb1
      generalize (x4).alloc (.cells #[.string ⟨X0.toArray⟩, .string ⟨#[58]⟩, .string ⟨#[119]⟩, .string ⟨P.toArray⟩, .string ⟨#[32]⟩, .string ⟨X4.toArray⟩, .string ⟨#[45]⟩, .string ⟨X5.toArray⟩] 9) = x5 at hb1 Glit Gwr ⊢
      generalize hg : (x4).heap.size = glit at Glit Llit Nwrlit M0lit ⊢
      clear hg
      refine hK.out _ _ ⟨hHeld.1.new hb1, below_trans hHeld.2 hb1 (Nat.le_refl _)⟩ (fun hHeld' => ?_)
      clear hK K hHeld hb1
      have hHeld := hHeld'
      clear hHeld'
      try simp only [Act.put, List.setIfInBounds_toArray, List.set_cons_zero, List.set_cons_succ]
      refine wpAnyH_ready (rs := [14]) (by kernel_rfl) (by simp) ?_
      refine AllReadyH.cons (o := ⟨some 28, _, _, _, _, _⟩) rfl (fun K hK => ?_) AllReadyH.nil
      have HLIT : ∀ (j : Nat) t, ([X0, [58], [119], P, [32], X4, [45], X5] : List (List UInt8))[j]? = some t → x5.cell? ⟨glit, 0 + j, none⟩ = some (.string ⟨t.toArray⟩) := by
        intro j t hj
        rcases j with _ | _ | _ | _ | _ | _ | _ | _ | j
        · simp at hj; subst hj; exact Glit.at_ (j := 0) rfl
        · simp at hj; subst hj; exact Glit.at_ (j := 1) rfl
        · simp at hj; subst hj; exact Glit.at_ (j := 2) rfl
        · simp at hj; subst hj; exact Glit.at_ (j := 3) rfl
        · simp at hj; subst hj; exact Glit.at_ (j := 4) rfl
        · simp at hj; subst hj; exact Glit.at_ (j := 5) rfl
        · simp at hj; subst hj; exact Glit.at_ (j := 6) rfl
        · simp at hj; subst hj; exact Glit.at_ (j := 7) rfl
        · simp at hj
      have hgw := Gwr.lt
      go_simp
      refine Calls.mono (impl_put gwr (gwr + 1) [] (.slice none 0 0) [X0, [58], [119], P, [32], X4, [45], X5] glit 0 8 _ (by omega) (by omega) ⟨Gwr, World.ownsRow_nil _ _ _ _⟩ HLIT (by omega) (by simp [Value.ownBlock]) (by simp) (by simp; omega)) ?_
      rintro e xP ⟨rfl, vP, hWP, _, hPP⟩
      have HBP : Below gwr x5 xP := hPP.below (Nat.le_refl _) (fun q hq => by simp [Value.ownBlock] at hq) (by omega)
      have HWP := Lib.hid (show Wrt xP gwr (gwr + 1) (X0 ++ [58] ++ [119] ++ P ++ [32] ++ X4 ++ [45] ++ X5) vP by simpa using hWP)
      have Q1 := hHeld.1.keep (HBP.block _ (by omega))
      have Q2 := hHeld.2.trans (HBP.mono (by omega))
      refine hK.out _ _ ⟨Q1, Q2⟩ (fun hHeld' => ?_)
      clear hK K hHeld hPP hWP HBP Q1 Q2 Gwr Glit HLIT
      have hHeld := hHeld'
      clear hHeld'
      try simp only [Act.put, List.setIfInBounds_toArray, List.set_cons_zero, List.set_cons_succ]
      refine wpAnyH_done (by kernel_rfl) ?_ _
      have KBp := Lib.hid hHeld.1
      have HBp := Lib.hid (below_trans HB1.out hHeld.2 (Nat.le_refl _))
      have hgs : gwr < xP.heap.size := HWP.out.1.lt
      clear hHeld
      have HJ := Lib.hid (show (X0 ++ [58] ++ [119] ++ P ++ [32] ++ X4 ++ [45] ++ X5).length ≤ 200 by simp; omega)
      generalize hJe : X0 ++ [58] ++ [119] ++ P ++ [32] ++ X4 ++ [45] ++ X5 = J at HWP HJ ⊢
      have HJe := Lib.hid hJe
      clear hJe
      have e6 := KBp.out.at_ (j := 6) rfl
      cases cl
      · have HTx := Lib.hid (impl_text gwr (gwr + 1) _ vP _ HWP.out)
        have HZ0 := Lib.hid (show Z = [] from HZ.out.symm)
        go_wp2_with fail
        refine HTx.out.mono ?_
        rintro e w9 ⟨rfl, rfl⟩
        go_wp2_with fail
        go_ret
        exact ⟨by rw [HZ0.out, List.append_nil, show kindL 2 = [119] from rfl, HJe.out]; rfl, HBp.out⟩
      · have HPt := Lib.hid (impl_put gwr (gwr + 1) J vP [[33]] xP.heap.size 0 1 (xP.alloc (.cells #[.string ⟨#[33]⟩] 9)) (by omega) (by simp; omega) (wrt_alloc HWP.out _) (fun j t hj => by
          rcases j with _ | j
          · simp at hj; subst hj; exact (box_new xP 9 #[.string ⟨#[33]⟩]).at_ (j := 0) rfl
          · simp at hj) (by omega) (fun e => by have := (HWP.out.2.lt _ e).2; omega) (by simp) (by have := HJ.out; simp; omega))
        have HZ1 := Lib.hid (show Z = [33] from HZ.out.symm)
        go_wp2_with fail
        refine HPt.out.mono ?_
        rintro e w8 ⟨rfl, v8, h8, _, hp8⟩
        have HB8 := Lib.hid ((HBp.out.alloc HBp.out.size (.cells #[.string ⟨#[33]⟩] 9)).trans (hp8.below (by omega) (fun q hq => by have := (HWP.out.2.lt _ hq).1; omega) (by have := HBp.out.size; simp; omega)))
        have HTx := Lib.hid (impl_text gwr (gwr + 1) _ v8 _ h8)
        clear h8 hp8 e6
        go_wp2_with fail
        refine HTx.out.mono ?_
        rintro e w9 ⟨rfl, rfl⟩
        go_wp2_with fail
        go_ret
        exact ⟨by rw [HZ1.out, show kindL 2 = [119] from rfl, HJe.out]; simp, HB8.out⟩
    · skip
      go_enter Tryd.func32, Tryd.ntmps32
      go_wp2_with fail
      refine (C9 _).mono ?_
      rintro e w1 ⟨rfl, hb1⟩
      have HB1 := Lib.hid (below_trans HB0.out hb1 (by simp))
      have KB1 := Lib.hid (KB0.out.new hb1)
      have hl1 : w.heap.size < w1.heap.size := KB1.out.lt
      clear hb1
      have e0 := KB1.out.at_ (j := 0) rfl
      have e1 := KB1.out.at_ (j := 1) rfl
      have e2 := KB1.out.at_ (j := 2) rfl
      have e3 := KB1.out.at_ (j := 3) rfl
      have e4 := KB1.out.at_ (j := 4) rfl
      have e5 := KB1.out.at_ (j := 5) rfl
      have e6 := KB1.out.at_ (j := 6) rfl
      go_wp2_with fail
      clear e0 e1 e2 e3 e4 e5 e6
      obtain ⟨gwr, hgwr⟩ : ∃ g, g = w1.heap.size := ⟨_, rfl⟩
      have Gwr : BoxAt (w1.alloc (.cells #[.slice none 0 0] 102)).drew gwr 102 #[.slice none 0 0] := by subst hgwr; exact (box_new _ _ _).drw
      rw [← hgwr]
      rw [show (ByteArray.mk #[114, 119, 110, 115]).extract 2 3 = ⟨#[110]⟩ from by first | rfl | decide | (apply ByteArray.ext; rfl)]
      have Lwr : w1.heap.size ≤ gwr := by omega
      have Lwl : w.heap.size < gwr := by omega
      clear hgwr
      refine wp_region_held_drew (S := fun w' => BoxAt w' w.heap.size 73 #[.int .i64 a0, .int .i64 a1, .int .i64 a2, .int .i64 3, .int .i64 a4, .int .i64 a5, .bool cl] ∧ Below w1.heap.size w1 w') (by kernel_rfl) ?_ (fun hHeld => ?_)
      · exact ⟨KB1.out.alloc_ _ |>.drw, ((Below.refl _ _).alloc (Nat.le_refl _) _).drew⟩
      generalize (World.drew _) = x0 at hHeld Gwr ⊢
      refine wpAnyH_take (i := 0) (oi := ⟨some 14, _, _, _, _, _⟩) (v := ?_) rfl (by kernel_rfl) (by kernel_rfl) (by kernel_rfl) (fun _ _ _ h => h) (Or.inl ⟨by kernel_rfl, ?_⟩) hHeld ?_
      rotate_left
      focus (intro W hS; have c0_0 := (hS.1).at_ (j := 0) rfl; have c0_1 := (hS.1).at_ (j := 1) rfl; have c0_2 := (hS.1).at_ (j := 2) rfl; have c0_3 := (hS.1).at_ (j := 3) rfl; have c0_4 := (hS.1).at_ (j := 4) rfl; have c0_5 := (hS.1).at_ (j := 5) rfl; have c0_6 := (hS.1).at_ (j := 6) rfl; clear hS; first | (go_simp; done) | (go_simp; with_reducible rfl))
      try simp only [Act.put, List.setIfInBounds_toArray, List.set_cons_zero, List.set_cons_succ]
      refine wpAnyH_take (i := 1) (oi := ⟨some 15, _, _, _, _, _⟩) (v := ?_) rfl (by kernel_rfl) (by kernel_rfl) (by kernel_rfl) (fun _ _ _ h => h) (Or.inl ⟨by kernel_rfl, ?_⟩) hHeld ?_
      rotate_left
      focus (intro W hS; have c0_0 := (hS.1).at_ (j := 0) rfl; have c0_1 := (hS.1).at_ (j := 1) rfl; have c0_2 := (hS.1).at_ (j := 2) rfl; have c0_3 := (hS.1).at_ (j := 3) rfl; have c0_4 := (hS.1).at_ (j := 4) rfl; have c0_5 := (hS.1).at_ (j := 5) rfl; have c0_6 := (hS.1).at_ (j := 6) rfl; clear hS; first | (go_simp; done) | (go_simp; with_reducible rfl))
      try simp only [Act.put, List.setIfInBounds_toArray, List.set_cons_zero, List.set_cons_succ]
      refine wpAnyH_take (i := 3) (oi := ⟨some 17, _, _, _, _, _⟩) (v := ?_) rfl (by kernel_rfl) (by kernel_rfl) (by kernel_rfl) (fun _ _ _ h => h) (Or.inl ⟨by kernel_rfl, ?_⟩) hHeld ?_
      rotate_left
      focus (intro W hS; have c0_0 := (hS.1).at_ (j := 0) rfl; have c0_1 := (hS.1).at_ (j := 1) rfl; have c0_2 := (hS.1).at_ (j := 2) rfl; have c0_3 := (hS.1).at_ (j := 3) rfl; have c0_4 := (hS.1).at_ (j := 4) rfl; have c0_5 := (hS.1).at_ (j := 5) rfl; have c0_6 := (hS.1).at_ (j := 6) rfl; clear hS; first | (go_simp; done) | (go_simp; with_reducible rfl))
      try simp only [Act.put, List.setIfInBounds_toArray, List.set_cons_zero, List.set_cons_succ]
      refine wpAnyH_take (i := 4) (oi := ⟨some 18, _, _, _, _, _⟩) (v := ?_) rfl (by kernel_rfl) (by kernel_rfl) (by kernel_rfl) (fun _ _ _ h => h) (Or.inl ⟨by kernel_rfl, ?_⟩) hHeld ?_
      rotate_left
      focus (intro W hS; have c0_0 := (hS.1).at_ (j := 0) rfl; have c0_1 := (hS.1).at_ (j := 1) rfl; have c0_2 := (hS.1).at_ (j := 2) rfl; have c0_3 := (hS.1).at_ (j := 3) rfl; have c0_4 := (hS.1).at_ (j := 4) rfl; have c0_5 := (hS.1).at_ (j := 5) rfl; have c0_6 := (hS.1).at_ (j := 6) rfl; clear hS; first | (go_simp; done) | (go_simp; with_reducible rfl))
      try simp only [Act.put, List.setIfInBounds_toArray, List.set_cons_zero, List.set_cons_succ]
      refine wpAnyH_take (i := 5) (oi := ⟨some 19, _, _, _, _, _⟩) (v := ?_) rfl (by kernel_rfl) (by kernel_rfl) (by kernel_rfl) (fun _ _ _ h => h) (Or.inl ⟨by kernel_rfl, ?_⟩) hHeld ?_
      rotate_left
      focus (intro W hS; have c0_0 := (hS.1).at_ (j := 0) rfl; have c0_1 := (hS.1).at_ (j := 1) rfl; have c0_2 := (hS.1).at_ (j := 2) rfl; have c0_3 := (hS.1).at_ (j := 3) rfl; have c0_4 := (hS.1).at_ (j := 4) rfl; have c0_5 := (hS.1).at_ (j := 5) rfl; have c0_6 := (hS.1).at_ (j := 6) rfl; clear hS; first | (go_simp; done) | (go_simp; with_reducible rfl))
      try simp only [Act.put, List.setIfInBounds_toArray, List.set_cons_zero, List.set_cons_succ]
      refine wpAnyH_take (i := 7) (oi := ⟨some 21, _, _, _, _, _⟩) (v := ?_) rfl (by kernel_rfl) (by kernel_rfl) (by kernel_rfl) (fun _ _ _ h => h) (Or.inl ⟨by kernel_rfl, ?_⟩) hHeld ?_
      rotate_left
      focus (intro W hS; have c0_0 := (hS.1).at_ (j := 0) rfl; have c0_1 := (hS.1).at_ (j := 1) rfl; have c0_2 := (hS.1).at_ (j := 2) rfl; have c0_3 := (hS.1).at_ (j := 3) rfl; have c0_4 := (hS.1).at_ (j := 4) rfl; have c0_5 := (hS.1).at_ (j := 5) rfl; have c0_6 := (hS.1).at_ (j := 6) rfl; clear hS; first | (go_simp; done) | (go_simp; with_reducible rfl))
      try simp only [Act.put, List.setIfInBounds_toArray, List.set_cons_zero, List.set_cons_succ]
      refine wpAnyH_take (i := 8) (oi := ⟨some 22, _, _, _, _, _⟩) (v := ?_) rfl (by kernel_rfl) (by kernel_rfl) (by kernel_rfl) (fun _ _ _ h => h) (Or.inl ⟨by kernel_rfl, ?_⟩) hHeld ?_
      rotate_left
      focus (intro W hS; have c0_0 := (hS.1).at_ (j := 0) rfl; have c0_1 := (hS.1).at_ (j := 1) rfl; have c0_2 := (hS.1).at_ (j := 2) rfl; have c0_3 := (hS.1).at_ (j := 3) rfl; have c0_4 := (hS.1).at_ (j := 4) rfl; have c0_5 := (hS.1).at_ (j := 5) rfl; have c0_6 := (hS.1).at_ (j := 6) rfl; clear hS; first | (go_simp; done) | (go_simp; with_reducible rfl))
      try simp only [Act.put, List.setIfInBounds_toArray, List.set_cons_zero, List.set_cons_succ]
      refine wpAnyH_take (i := 10) (oi := ⟨some 24, _, _, _, _, _⟩) (v := ?_) rfl (by kernel_rfl) (by kernel_rfl) (by kernel_rfl) (fun _ _ _ h => h) (Or.inl ⟨by kernel_rfl, ?_⟩) hHeld ?_
      rotate_left
      focus (intro W hS; have c0_0 := (hS.1).at_ (j := 0) rfl; have c0_1 := (hS.1).at_ (j := 1) rfl; have c0_2 := (hS.1).at_ (j := 2) rfl; have c0_3 := (hS.1).at_ (j := 3) rfl; have c0_4 := (hS.1).at_ (j := 4) rfl; have c0_5 := (hS.1).at_ (j := 5) rfl; have c0_6 := (hS.1).at_ (j := 6) rfl; clear hS; first | (go_simp; done) | (go_simp; with_reducible rfl))
      try simp only [Act.put, List.setIfInBounds_toArray, List.set_cons_zero, List.set_cons_succ]
      refine wpAnyH_take (i := 11) (oi := ⟨some 25, _, _, _, _, _⟩) (v := ?_) rfl (by kernel_rfl) (by kernel_rfl) (by kernel_rfl) (fun _ _ _ h => h) (Or.inl ⟨by kernel_rfl, ?_⟩) hHeld ?_
      rotate_left
      focus (intro W hS; have c0_0 := (hS.1).at_ (j := 0) rfl; have c0_1 := (hS.1).at_ (j := 1) rfl; have c0_2 := (hS.1).at_ (j := 2) rfl; have c0_3 := (hS.1).at_ (j := 3) rfl; have c0_4 := (hS.1).at_ (j := 4) rfl; have c0_5 := (hS.1).at_ (j := 5) rfl; have c0_6 := (hS.1).at_ (j := 6) rfl; clear hS; first | (go_simp; done) | (go_simp; with_reducible rfl))
      try simp only [Act.put, List.setIfInBounds_toArray, List.set_cons_zero, List.set_cons_succ]
      refine wpAnyH_ready (rs := [2]) (by kernel_rfl) (by simp) ?_
      refine AllReadyH.cons (o := ⟨some 16, _, _, _, _, _⟩) rfl (fun K hK => ?_) AllReadyH.nil
      go_simp
      refine Calls.mono (C0.out _ (pow10_below HT.out (below_trans HB1.out hHeld.2 (Nat.le_refl _)))) ?_
      rintro e x1 ⟨rfl, hb1⟩
      replace Gwr := Gwr.new hb1
      refine hK.out _ _ ⟨hHeld.1.new hb1, below_trans hHeld.2 hb1 (Nat.le_refl _)⟩ (fun hHeld' => ?_)
      clear hK K hHeld hb1
      have hHeld := hHeld'
      clear hHeld'
      try simp only [Act.put, List.setIfInBounds_toArray, List.set_cons_zero, List.set_cons_succ]
      refine wpAnyH_ready (rs := [6]) (by kernel_rfl) (by simp) ?_
      refine AllReadyH.cons (o := ⟨some 20, _, _, _, _, _⟩) rfl (fun K hK => ?_) AllReadyH.nil
      go_simp
      refine Calls.mono (CP.out _ (pow10_below HT.out (below_trans HB1.out hHeld.2 (Nat.le_refl _)))) ?_
      rintro e x2 ⟨rfl, hb1⟩
      replace Gwr := Gwr.new hb1
      refine hK.out _ _ ⟨hHeld.1.new hb1, below_trans hHeld.2 hb1 (Nat.le_refl _)⟩ (fun hHeld' => ?_)
      clear hK K hHeld hb1
      have hHeld := hHeld'
      clear hHeld'
      try simp only [Act.put, List.setIfInBounds_toArray, List.set_cons_zero, List.set_cons_succ]
      refine wpAnyH_ready (rs := [9]) (by kernel_rfl) (by simp) ?_
      refine AllReadyH.cons (o := ⟨some 23, _, _, _, _, _⟩) rfl (fun K hK => ?_) AllReadyH.nil
      go_simp
      refine Calls.mono (C4.out _ (pow10_below HT.out (below_trans HB1.out hHeld.2 (Nat.le_refl _)))) ?_
      rintro e x3 ⟨rfl, hb1⟩
      replace Gwr := Gwr.new hb1
      refine hK.out _ _ ⟨hHeld.1.new hb1, below_trans hHeld.2 hb1 (Nat.le_refl _)⟩ (fun hHeld' => ?_)
      clear hK K hHeld hb1
      have hHeld := hHeld'
      clear hHeld'
      try simp only [Act.put, List.setIfInBounds_toArray, List.set_cons_zero, List.set_cons_succ]
      refine wpAnyH_ready (rs := [12]) (by kernel_rfl) (by simp) ?_
      refine AllReadyH.cons (o := ⟨some 26, _, _, _, _, _⟩) rfl (fun K hK => ?_) AllReadyH.nil
      go_simp
      refine Calls.mono (C5.out _ (pow10_below HT.out (below_trans HB1.out hHeld.2 (Nat.le_refl _)))) ?_
      rintro e x4 ⟨rfl, hb1⟩
      replace Gwr := Gwr.new hb1
      refine hK.out _ _ ⟨hHeld.1.new hb1, below_trans hHeld.2 hb1 (Nat.le_refl _)⟩ (fun hHeld' => ?_)
      clear hK K hHeld hb1
      have hHeld := hHeld'
      clear hHeld'
      try simp only [Act.put, List.setIfInBounds_toArray, List.set_cons_zero, List.set_cons_succ]
      refine wpAnyH_ready (rs := [13]) (by kernel_rfl) (by simp) ?_
      refine AllReadyH.cons (o := ⟨some 27, _, _, _, _, _⟩) rfl (fun K hK => ?_) AllReadyH.nil
      go_simp
      have Glit := box_new (x4) 9 #[.string ⟨X0.toArray⟩, .string ⟨#[58]⟩, .string ⟨#[110]⟩, .string ⟨P.toArray⟩, .string ⟨#[32]⟩, .string ⟨X4.toArray⟩, .string ⟨#[45]⟩, .string ⟨X5.toArray⟩]
      have hb1 := (Below.refl (x4).heap.size (x4)).alloc (Nat.le_refl _) (.cells #[.string ⟨X0.toArray⟩, .string ⟨#[58]⟩, .string ⟨#[110]⟩, .string ⟨P.toArray⟩, .string ⟨#[32]⟩, .string ⟨X4.toArray⟩, .string ⟨#[45]⟩, .string ⟨X5.toArray⟩] 9)
      have Llit : w1.heap.size ≤ (x4).heap.size := by have := (hHeld.1).lt; have := (hHeld.2).size; omega
      have M0lit : w.heap.size < (x4).heap.size := (hHeld.1).lt
      have Nwrlit : gwr < (x4).heap.size := Gwr.lt
      replace Gwr := Gwr.new hb1
      generalize (x4).alloc (.cells #[.string ⟨X0.toArray⟩, .string ⟨#[58]⟩, .string ⟨#[110]⟩, .string ⟨P.toArray⟩, .string ⟨#[32]⟩, .string ⟨X4.toArray⟩, .string ⟨#[45]⟩, .string ⟨X5.toArray⟩] 9) = x5 at hb1 Glit Gwr ⊢
      generalize hg : (x4).heap.size = glit at Glit Llit Nwrlit M0lit ⊢
      clear hg
      refine hK.out _ _ ⟨hHeld.1.new hb1, below_trans hHeld.2 hb1 (Nat.le_refl _)⟩ (fun hHeld' => ?_)
      clear hK K hHeld hb1
      have hHeld := hHeld'
      clear hHeld'
      try simp only [Act.put, List.setIfInBounds_toArray, List.set_cons_zero, List.set_cons_succ]
      refine wpAnyH_ready (rs := [14]) (by kernel_rfl) (by simp) ?_
      refine AllReadyH.cons (o := ⟨some 28, _, _, _, _, _⟩) rfl (fun K hK => ?_) AllReadyH.nil
      have HLIT : ∀ (j : Nat) t, ([X0, [58], [110], P, [32], X4, [45], X5] : List (List UInt8))[j]? = some t → x5.cell? ⟨glit, 0 + j, none⟩ = some (.string ⟨t.toArray⟩) := by
        intro j t hj
        rcases j with _ | _ | _ | _ | _ | _ | _ | _ | j
        · simp at hj; subst hj; exact Glit.at_ (j := 0) rfl
        · simp at hj; subst hj; exact Glit.at_ (j := 1) rfl
        · simp at hj; subst hj; exact Glit.at_ (j := 2) rfl
        · simp at hj; subst hj; exact Glit.at_ (j := 3) rfl
        · simp at hj; subst hj; exact Glit.at_ (j := 4) rfl
        · simp at hj; subst hj; exact Glit.at_ (j := 5) rfl
        · simp at hj; subst hj; exact Glit.at_ (j := 6) rfl
        · simp at hj; subst hj; exact Glit.at_ (j := 7) rfl
        · simp at hj
      have hgw := Gwr.lt
      go_simp
      refine Calls.mono (impl_put gwr (gwr + 1) [] (.slice none 0 0) [X0, [58], [110], P, [32], X4, [45], X5] glit 0 8 _ (by omega) (by omega) ⟨Gwr, World.ownsRow_nil _ _ _ _⟩ HLIT (by omega) (by simp [Value.ownBlock]) (by simp) (by simp; omega)) ?_
      rintro e xP ⟨rfl, vP, hWP, _, hPP⟩
      have HBP : Below gwr x5 xP := hPP.below (Nat.le_refl _) (fun q hq => by simp [Value.ownBlock] at hq) (by omega)
      have HWP := Lib.hid (show Wrt xP gwr (gwr + 1) (X0 ++ [58] ++ [110] ++ P ++ [32] ++ X4 ++ [45] ++ X5) vP by simpa using hWP)
      have Q1 := hHeld.1.keep (HBP.block _ (by omega))
      have Q2 := hHeld.2.trans (HBP.mono (by omega))
      refine hK.out _ _ ⟨Q1, Q2⟩ (fun hHeld' => ?_)
      clear hK K hHeld hPP hWP HBP Q1 Q2 Gwr Glit HLIT
      have hHeld := hHeld'
      clear hHeld'
      try simp only [Act.put, List.setIfInBounds_toArray, List.set_cons_zero, List.set_cons_succ]
      refine wpAnyH_done (by kernel_rfl) ?_ _
      have KBp := Lib.hid hHeld.1
      have HBp := Lib.hid (below_trans HB1.out hHeld.2 (Nat.le_refl _))
      have hgs : gwr < xP.heap.size := HWP.out.1.lt
      clear hHeld
      have HJ := Lib.hid (show (X0 ++ [58] ++ [110] ++ P ++ [32] ++ X4 ++ [45] ++ X5).length ≤ 200 by simp; omega)
      generalize hJe : X0 ++ [58] ++ [110] ++ P ++ [32] ++ X4 ++ [45] ++ X5 = J at HWP HJ ⊢
      have HJe := Lib.hid hJe
      clear hJe
      have e6 := KBp.out.at_ (j := 6) rfl
      cases cl
      · have HTx := Lib.hid (impl_text gwr (gwr + 1) _ vP _ HWP.out)
        have HZ0 := Lib.hid (show Z = [] from HZ.out.symm)
        go_wp2_with fail
        refine HTx.out.mono ?_
        rintro e w9 ⟨rfl, rfl⟩
        go_wp2_with fail
        go_ret
        exact ⟨by rw [HZ0.out, List.append_nil, show kindL 3 = [110] from rfl, HJe.out]; rfl, HBp.out⟩
      · have HPt := Lib.hid (impl_put gwr (gwr + 1) J vP [[33]] xP.heap.size 0 1 (xP.alloc (.cells #[.string ⟨#[33]⟩] 9)) (by omega) (by simp; omega) (wrt_alloc HWP.out _) (fun j t hj => by
          rcases j with _ | j
          · simp at hj; subst hj; exact (box_new xP 9 #[.string ⟨#[33]⟩]).at_ (j := 0) rfl
          · simp at hj) (by omega) (fun e => by have := (HWP.out.2.lt _ e).2; omega) (by simp) (by have := HJ.out; simp; omega))
        have HZ1 := Lib.hid (show Z = [33] from HZ.out.symm)
        go_wp2_with fail
        refine HPt.out.mono ?_
        rintro e w8 ⟨rfl, v8, h8, _, hp8⟩
        have HB8 := Lib.hid ((HBp.out.alloc HBp.out.size (.cells #[.string ⟨#[33]⟩] 9)).trans (hp8.below (by omega) (fun q hq => by have := (HWP.out.2.lt _ hq).1; omega) (by have := HBp.out.size; simp; omega)))
        have HTx := Lib.hid (impl_text gwr (gwr + 1) _ v8 _ h8)
        clear h8 hp8 e6
        go_wp2_with fail
        refine HTx.out.mono ?_
        rintro e w9 ⟨rfl, rfl⟩
        go_wp2_with fail
        go_ret
        exact ⟨by rw [HZ1.out, show kindL 3 = [110] from rfl, HJe.out]; simp, HB8.out⟩
    · skip
      go_enter Tryd.func32, Tryd.ntmps32
      go_wp2_with fail
      refine (C9 _).mono ?_
      rintro e w1 ⟨rfl, hb1⟩
      have HB1 := Lib.hid (below_trans HB0.out hb1 (by simp))
      have KB1 := Lib.hid (KB0.out.new hb1)
      have hl1 : w.heap.size < w1.heap.size := KB1.out.lt
      clear hb1
      have e0 := KB1.out.at_ (j := 0) rfl
      have e1 := KB1.out.at_ (j := 1) rfl
      have e2 := KB1.out.at_ (j := 2) rfl
      have e3 := KB1.out.at_ (j := 3) rfl
      have e4 := KB1.out.at_ (j := 4) rfl
      have e5 := KB1.out.at_ (j := 5) rfl
      have e6 := KB1.out.at_ (j := 6) rfl
      go_wp2_with fail
      clear e0 e1 e2 e3 e4 e5 e6
      obtain ⟨gwr, hgwr⟩ : ∃ g, g = w1.heap.size := ⟨_, rfl⟩
      have Gwr : BoxAt (w1.alloc (.cells #[.slice none 0 0] 102)).drew gwr 102 #[.slice none 0 0] := by subst hgwr; exact (box_new _ _ _).drw
      rw [← hgwr]
      rw [show (ByteArray.mk #[114, 119, 110, 115]).extract 3 4 = ⟨#[115]⟩ from by first | rfl | decide | (apply ByteArray.ext; rfl)]
      have Lwr : w1.heap.size ≤ gwr := by omega
      have Lwl : w.heap.size < gwr := by omega
      clear hgwr
      refine wp_region_held_drew (S := fun w' => BoxAt w' w.heap.size 73 #[.int .i64 a0, .int .i64 a1, .int .i64 a2, .int .i64 4, .int .i64 a4, .int .i64 a5, .bool cl] ∧ Below w1.heap.size w1 w') (by kernel_rfl) ?_ (fun hHeld => ?_)
      · exact ⟨KB1.out.alloc_ _ |>.drw, ((Below.refl _ _).alloc (Nat.le_refl _) _).drew⟩
      generalize (World.drew _) = x0 at hHeld Gwr ⊢
      refine wpAnyH_take (i := 0) (oi := ⟨some 14, _, _, _, _, _⟩) (v := ?_) rfl (by kernel_rfl) (by kernel_rfl) (by kernel_rfl) (fun _ _ _ h => h) (Or.inl ⟨by kernel_rfl, ?_⟩) hHeld ?_
      rotate_left
      focus (intro W hS; have c0_0 := (hS.1).at_ (j := 0) rfl; have c0_1 := (hS.1).at_ (j := 1) rfl; have c0_2 := (hS.1).at_ (j := 2) rfl; have c0_3 := (hS.1).at_ (j := 3) rfl; have c0_4 := (hS.1).at_ (j := 4) rfl; have c0_5 := (hS.1).at_ (j := 5) rfl; have c0_6 := (hS.1).at_ (j := 6) rfl; clear hS; first | (go_simp; done) | (go_simp; with_reducible rfl))
      try simp only [Act.put, List.setIfInBounds_toArray, List.set_cons_zero, List.set_cons_succ]
      refine wpAnyH_take (i := 1) (oi := ⟨some 15, _, _, _, _, _⟩) (v := ?_) rfl (by kernel_rfl) (by kernel_rfl) (by kernel_rfl) (fun _ _ _ h => h) (Or.inl ⟨by kernel_rfl, ?_⟩) hHeld ?_
      rotate_left
      focus (intro W hS; have c0_0 := (hS.1).at_ (j := 0) rfl; have c0_1 := (hS.1).at_ (j := 1) rfl; have c0_2 := (hS.1).at_ (j := 2) rfl; have c0_3 := (hS.1).at_ (j := 3) rfl; have c0_4 := (hS.1).at_ (j := 4) rfl; have c0_5 := (hS.1).at_ (j := 5) rfl; have c0_6 := (hS.1).at_ (j := 6) rfl; clear hS; first | (go_simp; done) | (go_simp; with_reducible rfl))
      try simp only [Act.put, List.setIfInBounds_toArray, List.set_cons_zero, List.set_cons_succ]
      refine wpAnyH_take (i := 3) (oi := ⟨some 17, _, _, _, _, _⟩) (v := ?_) rfl (by kernel_rfl) (by kernel_rfl) (by kernel_rfl) (fun _ _ _ h => h) (Or.inl ⟨by kernel_rfl, ?_⟩) hHeld ?_
      rotate_left
      focus (intro W hS; have c0_0 := (hS.1).at_ (j := 0) rfl; have c0_1 := (hS.1).at_ (j := 1) rfl; have c0_2 := (hS.1).at_ (j := 2) rfl; have c0_3 := (hS.1).at_ (j := 3) rfl; have c0_4 := (hS.1).at_ (j := 4) rfl; have c0_5 := (hS.1).at_ (j := 5) rfl; have c0_6 := (hS.1).at_ (j := 6) rfl; clear hS; first | (go_simp; done) | (go_simp; with_reducible rfl))
      try simp only [Act.put, List.setIfInBounds_toArray, List.set_cons_zero, List.set_cons_succ]
      refine wpAnyH_take (i := 4) (oi := ⟨some 18, _, _, _, _, _⟩) (v := ?_) rfl (by kernel_rfl) (by kernel_rfl) (by kernel_rfl) (fun _ _ _ h => h) (Or.inl ⟨by kernel_rfl, ?_⟩) hHeld ?_
      rotate_left
      focus (intro W hS; have c0_0 := (hS.1).at_ (j := 0) rfl; have c0_1 := (hS.1).at_ (j := 1) rfl; have c0_2 := (hS.1).at_ (j := 2) rfl; have c0_3 := (hS.1).at_ (j := 3) rfl; have c0_4 := (hS.1).at_ (j := 4) rfl; have c0_5 := (hS.1).at_ (j := 5) rfl; have c0_6 := (hS.1).at_ (j := 6) rfl; clear hS; first | (go_simp; done) | (go_simp; with_reducible rfl))
      try simp only [Act.put, List.setIfInBounds_toArray, List.set_cons_zero, List.set_cons_succ]
      refine wpAnyH_take (i := 5) (oi := ⟨some 19, _, _, _, _, _⟩) (v := ?_) rfl (by kernel_rfl) (by kernel_rfl) (by kernel_rfl) (fun _ _ _ h => h) (Or.inl ⟨by kernel_rfl, ?_⟩) hHeld ?_
      rotate_left
      focus (intro W hS; have c0_0 := (hS.1).at_ (j := 0) rfl; have c0_1 := (hS.1).at_ (j := 1) rfl; have c0_2 := (hS.1).at_ (j := 2) rfl; have c0_3 := (hS.1).at_ (j := 3) rfl; have c0_4 := (hS.1).at_ (j := 4) rfl; have c0_5 := (hS.1).at_ (j := 5) rfl; have c0_6 := (hS.1).at_ (j := 6) rfl; clear hS; first | (go_simp; done) | (go_simp; with_reducible rfl))
      try simp only [Act.put, List.setIfInBounds_toArray, List.set_cons_zero, List.set_cons_succ]
      refine wpAnyH_take (i := 7) (oi := ⟨some 21, _, _, _, _, _⟩) (v := ?_) rfl (by kernel_rfl) (by kernel_rfl) (by kernel_rfl) (fun _ _ _ h => h) (Or.inl ⟨by kernel_rfl, ?_⟩) hHeld ?_
      rotate_left
      focus (intro W hS; have c0_0 := (hS.1).at_ (j := 0) rfl; have c0_1 := (hS.1).at_ (j := 1) rfl; have c0_2 := (hS.1).at_ (j := 2) rfl; have c0_3 := (hS.1).at_ (j := 3) rfl; have c0_4 := (hS.1).at_ (j := 4) rfl; have c0_5 := (hS.1).at_ (j := 5) rfl; have c0_6 := (hS.1).at_ (j := 6) rfl; clear hS; first | (go_simp; done) | (go_simp; with_reducible rfl))
      try simp only [Act.put, List.setIfInBounds_toArray, List.set_cons_zero, List.set_cons_succ]
      refine wpAnyH_take (i := 8) (oi := ⟨some 22, _, _, _, _, _⟩) (v := ?_) rfl (by kernel_rfl) (by kernel_rfl) (by kernel_rfl) (fun _ _ _ h => h) (Or.inl ⟨by kernel_rfl, ?_⟩) hHeld ?_
      rotate_left
      focus (intro W hS; have c0_0 := (hS.1).at_ (j := 0) rfl; have c0_1 := (hS.1).at_ (j := 1) rfl; have c0_2 := (hS.1).at_ (j := 2) rfl; have c0_3 := (hS.1).at_ (j := 3) rfl; have c0_4 := (hS.1).at_ (j := 4) rfl; have c0_5 := (hS.1).at_ (j := 5) rfl; have c0_6 := (hS.1).at_ (j := 6) rfl; clear hS; first | (go_simp; done) | (go_simp; with_reducible rfl))
      try simp only [Act.put, List.setIfInBounds_toArray, List.set_cons_zero, List.set_cons_succ]
      refine wpAnyH_take (i := 10) (oi := ⟨some 24, _, _, _, _, _⟩) (v := ?_) rfl (by kernel_rfl) (by kernel_rfl) (by kernel_rfl) (fun _ _ _ h => h) (Or.inl ⟨by kernel_rfl, ?_⟩) hHeld ?_
      rotate_left
      focus (intro W hS; have c0_0 := (hS.1).at_ (j := 0) rfl; have c0_1 := (hS.1).at_ (j := 1) rfl; have c0_2 := (hS.1).at_ (j := 2) rfl; have c0_3 := (hS.1).at_ (j := 3) rfl; have c0_4 := (hS.1).at_ (j := 4) rfl; have c0_5 := (hS.1).at_ (j := 5) rfl; have c0_6 := (hS.1).at_ (j := 6) rfl; clear hS; first | (go_simp; done) | (go_simp; with_reducible rfl))
      try simp only [Act.put, List.setIfInBounds_toArray, List.set_cons_zero, List.set_cons_succ]
      refine wpAnyH_take (i := 11) (oi := ⟨some 25, _, _, _, _, _⟩) (v := ?_) rfl (by kernel_rfl) (by kernel_rfl) (by kernel_rfl) (fun _ _ _ h => h) (Or.inl ⟨by kernel_rfl, ?_⟩) hHeld ?_
      rotate_left
      focus (intro W hS; have c0_0 := (hS.1).at_ (j := 0) rfl; have c0_1 := (hS.1).at_ (j := 1) rfl; have c0_2 := (hS.1).at_ (j := 2) rfl; have c0_3 := (hS.1).at_ (j := 3) rfl; have c0_4 := (hS.1).at_ (j := 4) rfl; have c0_5 := (hS.1).at_ (j := 5) rfl; have c0_6 := (hS.1).at_ (j := 6) rfl; clear hS; first | (go_simp; done) | (go_simp; with_reducible rfl))
      try simp only [Act.put, List.setIfInBounds_toArray, List.set_cons_zero, List.set_cons_succ]
      refine wpAnyH_ready (rs := [2]) (by kernel_rfl) (by simp) ?_
      refine AllReadyH.cons (o := ⟨some 16, _, _, _, _, _⟩) rfl (fun K hK => ?_) AllReadyH.nil
      go_simp
      refine Calls.mono (C0.out _ (pow10_below HT.out (below_trans HB1.out hHeld.2 (Nat.le_refl _)))) ?_
      rintro e x1 ⟨rfl, hb1⟩
      replace Gwr := Gwr.new hb1
      refine hK.out _ _ ⟨hHeld.1.new hb1, below_trans hHeld.2 hb1 (Nat.le_refl _)⟩ (fun hHeld' => ?_)
      clear hK K hHeld hb1
      have hHeld := hHeld'
      clear hHeld'
      try simp only [Act.put, List.setIfInBounds_toArray, List.set_cons_zero, List.set_cons_succ]
      refine wpAnyH_ready (rs := [6]) (by kernel_rfl) (by simp) ?_
      refine AllReadyH.cons (o := ⟨some 20, _, _, _, _, _⟩) rfl (fun K hK => ?_) AllReadyH.nil
      go_simp
      refine Calls.mono (CP.out _ (pow10_below HT.out (below_trans HB1.out hHeld.2 (Nat.le_refl _)))) ?_
      rintro e x2 ⟨rfl, hb1⟩
      replace Gwr := Gwr.new hb1
      refine hK.out _ _ ⟨hHeld.1.new hb1, below_trans hHeld.2 hb1 (Nat.le_refl _)⟩ (fun hHeld' => ?_)
      clear hK K hHeld hb1
      have hHeld := hHeld'
      clear hHeld'
      try simp only [Act.put, List.setIfInBounds_toArray, List.set_cons_zero, List.set_cons_succ]
      refine wpAnyH_ready (rs := [9]) (by kernel_rfl) (by simp) ?_
      refine AllReadyH.cons (o := ⟨some 23, _, _, _, _, _⟩) rfl (fun K hK => ?_) AllReadyH.nil
      go_simp
      refine Calls.mono (C4.out _ (pow10_below HT.out (below_trans HB1.out hHeld.2 (Nat.le_refl _)))) ?_
      rintro e x3 ⟨rfl, hb1⟩
      replace Gwr := Gwr.new hb1
      refine hK.out _ _ ⟨hHeld.1.new hb1, below_trans hHeld.2 hb1 (Nat.le_refl _)⟩ (fun hHeld' => ?_)
      clear hK K hHeld hb1
      have hHeld := hHeld'
      clear hHeld'
      try simp only [Act.put, List.setIfInBounds_toArray, List.set_cons_zero, List.set_cons_succ]
      refine wpAnyH_ready (rs := [12]) (by kernel_rfl) (by simp) ?_
      refine AllReadyH.cons (o := ⟨some 26, _, _, _, _, _⟩) rfl (fun K hK => ?_) AllReadyH.nil
      go_simp
      refine Calls.mono (C5.out _ (pow10_below HT.out (below_trans HB1.out hHeld.2 (Nat.le_refl _)))) ?_
      rintro e x4 ⟨rfl, hb1⟩
      replace Gwr := Gwr.new hb1
      refine hK.out _ _ ⟨hHeld.1.new hb1, below_trans hHeld.2 hb1 (Nat.le_refl _)⟩ (fun hHeld' => ?_)
      clear hK K hHeld hb1
      have hHeld := hHeld'
      clear hHeld'
      try simp only [Act.put, List.setIfInBounds_toArray, List.set_cons_zero, List.set_cons_succ]
      refine wpAnyH_ready (rs := [13]) (by kernel_rfl) (by simp) ?_
      refine AllReadyH.cons (o := ⟨some 27, _, _, _, _, _⟩) rfl (fun K hK => ?_) AllReadyH.nil
      go_simp
      have Glit := box_new (x4) 9 #[.string ⟨X0.toArray⟩, .string ⟨#[58]⟩, .string ⟨#[115]⟩, .string ⟨P.toArray⟩, .string ⟨#[32]⟩, .string ⟨X4.toArray⟩, .string ⟨#[45]⟩, .string ⟨X5.toArray⟩]
      have hb1 := (Below.refl (x4).heap.size (x4)).alloc (Nat.le_refl _) (.cells #[.string ⟨X0.toArray⟩, .string ⟨#[58]⟩, .string ⟨#[115]⟩, .string ⟨P.toArray⟩, .string ⟨#[32]⟩, .string ⟨X4.toArray⟩, .string ⟨#[45]⟩, .string ⟨X5.toArray⟩] 9)
      have Llit : w1.heap.size ≤ (x4).heap.size := by have := (hHeld.1).lt; have := (hHeld.2).size; omega
      have M0lit : w.heap.size < (x4).heap.size := (hHeld.1).lt
      have Nwrlit : gwr < (x4).heap.size := Gwr.lt
      replace Gwr := Gwr.new hb1
      generalize (x4).alloc (.cells #[.string ⟨X0.toArray⟩, .string ⟨#[58]⟩, .string ⟨#[115]⟩, .string ⟨P.toArray⟩, .string ⟨#[32]⟩, .string ⟨X4.toArray⟩, .string ⟨#[45]⟩, .string ⟨X5.toArray⟩] 9) = x5 at hb1 Glit Gwr ⊢
      generalize hg : (x4).heap.size = glit at Glit Llit Nwrlit M0lit ⊢
      clear hg
      refine hK.out _ _ ⟨hHeld.1.new hb1, below_trans hHeld.2 hb1 (Nat.le_refl _)⟩ (fun hHeld' => ?_)
      clear hK K hHeld hb1
      have hHeld := hHeld'
      clear hHeld'
      try simp only [Act.put, List.setIfInBounds_toArray, List.set_cons_zero, List.set_cons_succ]
      refine wpAnyH_ready (rs := [14]) (by kernel_rfl) (by simp) ?_
      refine AllReadyH.cons (o := ⟨some 28, _, _, _, _, _⟩) rfl (fun K hK => ?_) AllReadyH.nil
      have HLIT : ∀ (j : Nat) t, ([X0, [58], [115], P, [32], X4, [45], X5] : List (List UInt8))[j]? = some t → x5.cell? ⟨glit, 0 + j, none⟩ = some (.string ⟨t.toArray⟩) := by
        intro j t hj
        rcases j with _ | _ | _ | _ | _ | _ | _ | _ | j
        · simp at hj; subst hj; exact Glit.at_ (j := 0) rfl
        · simp at hj; subst hj; exact Glit.at_ (j := 1) rfl
        · simp at hj; subst hj; exact Glit.at_ (j := 2) rfl
        · simp at hj; subst hj; exact Glit.at_ (j := 3) rfl
        · simp at hj; subst hj; exact Glit.at_ (j := 4) rfl
        · simp at hj; subst hj; exact Glit.at_ (j := 5) rfl
        · simp at hj; subst hj; exact Glit.at_ (j := 6) rfl
        · simp at hj; subst hj; exact Glit.at_ (j := 7) rfl
        · simp at hj
      have hgw := Gwr.lt
      go_simp
      refine Calls.mono (impl_put gwr (gwr + 1) [] (.slice none 0 0) [X0, [58], [115], P, [32], X4, [45], X5] glit 0 8 _ (by omega) (by omega) ⟨Gwr, World.ownsRow_nil _ _ _ _⟩ HLIT (by omega) (by simp [Value.ownBlock]) (by simp) (by simp; omega)) ?_
      rintro e xP ⟨rfl, vP, hWP, _, hPP⟩
      have HBP : Below gwr x5 xP := hPP.below (Nat.le_refl _) (fun q hq => by simp [Value.ownBlock] at hq) (by omega)
      have HWP := Lib.hid (show Wrt xP gwr (gwr + 1) (X0 ++ [58] ++ [115] ++ P ++ [32] ++ X4 ++ [45] ++ X5) vP by simpa using hWP)
      have Q1 := hHeld.1.keep (HBP.block _ (by omega))
      have Q2 := hHeld.2.trans (HBP.mono (by omega))
      refine hK.out _ _ ⟨Q1, Q2⟩ (fun hHeld' => ?_)
      clear hK K hHeld hPP hWP HBP Q1 Q2 Gwr Glit HLIT
      have hHeld := hHeld'
      clear hHeld'
      try simp only [Act.put, List.setIfInBounds_toArray, List.set_cons_zero, List.set_cons_succ]
      refine wpAnyH_done (by kernel_rfl) ?_ _
      have KBp := Lib.hid hHeld.1
      have HBp := Lib.hid (below_trans HB1.out hHeld.2 (Nat.le_refl _))
      have hgs : gwr < xP.heap.size := HWP.out.1.lt
      clear hHeld
      have HJ := Lib.hid (show (X0 ++ [58] ++ [115] ++ P ++ [32] ++ X4 ++ [45] ++ X5).length ≤ 200 by simp; omega)
      generalize hJe : X0 ++ [58] ++ [115] ++ P ++ [32] ++ X4 ++ [45] ++ X5 = J at HWP HJ ⊢
      have HJe := Lib.hid hJe
      clear hJe
      have e6 := KBp.out.at_ (j := 6) rfl
      cases cl
      · have HTx := Lib.hid (impl_text gwr (gwr + 1) _ vP _ HWP.out)
        have HZ0 := Lib.hid (show Z = [] from HZ.out.symm)
        go_wp2_with fail
        refine HTx.out.mono ?_
        rintro e w9 ⟨rfl, rfl⟩
        go_wp2_with fail
        go_ret
        exact ⟨by rw [HZ0.out, List.append_nil, show kindL 4 = [115] from rfl, HJe.out]; rfl, HBp.out⟩
      · have HPt := Lib.hid (impl_put gwr (gwr + 1) J vP [[33]] xP.heap.size 0 1 (xP.alloc (.cells #[.string ⟨#[33]⟩] 9)) (by omega) (by simp; omega) (wrt_alloc HWP.out _) (fun j t hj => by
          rcases j with _ | j
          · simp at hj; subst hj; exact (box_new xP 9 #[.string ⟨#[33]⟩]).at_ (j := 0) rfl
          · simp at hj) (by omega) (fun e => by have := (HWP.out.2.lt _ e).2; omega) (by simp) (by have := HJ.out; simp; omega))
        have HZ1 := Lib.hid (show Z = [33] from HZ.out.symm)
        go_wp2_with fail
        refine HPt.out.mono ?_
        rintro e w8 ⟨rfl, v8, h8, _, hp8⟩
        have HB8 := Lib.hid ((HBp.out.alloc HBp.out.size (.cells #[.string ⟨#[33]⟩] 9)).trans (hp8.below (by omega) (fun q hq => by have := (HWP.out.2.lt _ hq).1; omega) (by have := HBp.out.size; simp; omega)))
        have HTx := Lib.hid (impl_text gwr (gwr + 1) _ v8 _ h8)
        clear h8 hp8 e6
        go_wp2_with fail
        refine HTx.out.mono ?_
        rintro e w9 ⟨rfl, rfl⟩
        go_wp2_with fail
        go_ret
        exact ⟨by rw [HZ1.out, show kindL 4 = [115] from rfl, HJe.out]; simp, HB8.out⟩
theorem impl_GrantText (g : TGrant) (w : World) (hT : Pow10 w) (b0 : Hid (TGrant.fit g)) :
    Calls Tryd.prog 32 #[.agg #[.int .i64 g.f0, .int .i64 g.f1, .int .i64 g.f2, .int .i64 g.f3, .int .i64 g.f4, .int .i64 g.f5, .bool g.f6]] w (Says (.string ⟨(tGr g).toArray⟩) w) := impl_GrantText' g.f0 g.f1 g.f2 g.f3 g.f4 g.f5 g.f6 w hT b0

end Go.Proofs.YtkakdfphhnchhaaDoor
