/- The draws of FnRules. No condition of its own. -/
import Derived.Test.YtlnmgfbfpjfddaaDrR
import Derived.Test.YtlnmgfbfpjfddaaFun
import Derived.Deep.Cut
import Derived.Deep.RegionHeld3
namespace Go.Proofs.Ytlnmgfbfpjfddaa
open Go Go.ChangeShapes Go.WideShapes Go.ChangeAt Go.RowKit Go.Lib
set_option linter.unusedVariables false
set_option linter.unusedSimpArgs false
set_option maxRecDepth 100000
/-- What stays in a drawn region that ends a draw: the results' boxes, the cursor's block, all that was there. -/
def DatT (w : World) (g : Nat) (A : Option Addr) (n cap : Nat) (rs : List (Nat × TypeId × Nat)) (W : World) : Prop :=
  (∀ r ∈ rs, ∃ cs : Array Value, cs.size = r.2.2 ∧ BoxAt W r.1 r.2.1 cs) ∧ (∃ (i : Nat) (h : Int), i ≤ n ∧ W.heap[g]? = some (.cells #[.slice A n cap, .int .i64 i, .int .i64 h] 188 (0, 0))) ∧ Below w.heap.size w W
section
variable {w W W1 : World} {g n cap : Nat} {A : Option Addr} {rs : List (Nat × TypeId × Nat)}
theorem DatT.cur (h : DatT w g A n cap rs W) (hb : BytesAt w w.heap.size A n) (hg : w.heap.size ≤ g) : Cur W g A n cap := by
  obtain ⟨_, ⟨i, x, hi, hx⟩, hB⟩ := h
  refine ⟨fun hn => ?_, i, x, hi, hx⟩
  obtain ⟨b, off, z, h1, h2, h3⟩ := hb hn
  exact ⟨b, off, z, h1, by omega, fun k hk => ⟨(h3 k hk).1, (h3 k hk).2.1, (hB.cell (p := ⟨b, off + k, none⟩) h2).trans (h3 k hk).2.2⟩⟩
theorem DatT.call (h : DatT w g A n cap rs W) (hc : Cur W1 g A n cap) (hg : W.grownBy W1 (some g)) (hr : ∀ r ∈ rs, r.1 ≠ g) (hl : w.heap.size ≤ g) : DatT w g A n cap rs W1 :=
  ⟨fun r hr' => by
    obtain ⟨cs, hs, hcs⟩ := h.1 r hr'
    exact ⟨cs, hs, hcs.grown hg (hr r hr')⟩, by obtain ⟨_, i, x, hi, hx⟩ := hc; exact ⟨i, x, hi, hx⟩, dr_below h.2.2 hl hg⟩
theorem DatT.row (h : DatT w g A n cap rs W) (b : Nat) (hb : b ≠ g) (hl : w.heap.size ≤ b) (cs : Array Value) (hsz : ∀ r ∈ rs, r.1 = b → cs.size = r.2.2) : DatT w g A n cap rs (W.setRow b cs) :=
  ⟨fun r hr' => by
    obtain ⟨c0, h0, hc0⟩ := h.1 r hr'
    by_cases e : r.1 = b
    · have hz := hsz r hr' e
      subst e; exact ⟨cs, hz, box_row hc0⟩
    · exact ⟨c0, h0, box_far hc0 e⟩, by obtain ⟨i, x, hi, hx⟩ := h.2.1; exact ⟨i, x, hi, (setRow_other W b g cs (fun e => hb e.symm)).trans hx⟩, below_setRow h.2.2 hl _⟩
theorem DatT.mk_ (hb : Below w.heap.size w W) (hc : Cur W g A n cap) (hr : ∀ r ∈ rs, ∃ cs : Array Value, cs.size = r.2.2 ∧ BoxAt W r.1 r.2.1 cs) : DatT w g A n cap rs W :=
  ⟨hr, by obtain ⟨_, i, x, hi, hx⟩ := hc; exact ⟨i, x, hi, hx⟩, hb⟩
theorem DatT.drw (h : DatT w g A n cap rs W) : DatT w g A n cap rs W.drew := ⟨fun r hr => by obtain ⟨cs, hs, hcs⟩ := h.1 r hr; exact ⟨cs, hs, hcs.drw⟩, h.2.1, h.2.2.drew⟩
end
def DrawnIB (w : World) (e : Ending) (w' : World) : Prop :=
  ∃ (a : TRule) (b : TRule), a.fit ∧ b.fit ∧ e = .returned (.tuple #[.agg #[.int .i64 a.f0, .int .i64 a.f1, .int .i64 a.f2, .int .i64 a.f3, .int .i64 a.f4, .int .i64 a.f5, .int .i64 a.f6, .int .i64 a.f7], .agg #[.int .i64 b.f0, .int .i64 b.f1, .int .i64 b.f2, .int .i64 b.f3, .int .i64 b.f4, .int .i64 b.f5, .int .i64 b.f6, .int .i64 b.f7]]) ∧ Below w.heap.size w w'
set_option maxHeartbeats 16000000 in
theorem drawIB_any (n cap : Nat) (A : Option Addr) (w : World) (hn : n ≤ 140737488355328) (hb : BytesAt w w.heap.size A n) :
    Calls Try.prog 12 #[.slice A n cap] w (DrawnIB w) := by
  have hn' : n ≤ maxLen := by unfold maxLen; omega
  have HY := Lib.hid hb
  have R0 := Lib.hid (show BoxAt (w.alloc (.cells #[.int .i64 0, .int .i64 0, .int .i64 0, .int .i64 0, .int .i64 0, .int .i64 0, .int .i64 0, .int .i64 0] 28)) w.heap.size 28 #[.int .i64 0, .int .i64 0, .int .i64 0, .int .i64 0, .int .i64 0, .int .i64 0, .int .i64 0, .int .i64 0] from by simpa using box_new w 28 #[.int .i64 0, .int .i64 0, .int .i64 0, .int .i64 0, .int .i64 0, .int .i64 0, .int .i64 0, .int .i64 0])
  have R1 := Lib.hid (show BoxAt ((w.alloc (.cells #[.int .i64 0, .int .i64 0, .int .i64 0, .int .i64 0, .int .i64 0, .int .i64 0, .int .i64 0, .int .i64 0] 28)).alloc (.cells #[.int .i64 0, .int .i64 0, .int .i64 0, .int .i64 0, .int .i64 0, .int .i64 0, .int .i64 0, .int .i64 0] 28)) (w.heap.size + 1) 28 #[.int .i64 0, .int .i64 0, .int .i64 0, .int .i64 0, .int .i64 0, .int .i64 0, .int .i64 0, .int .i64 0] from by simpa using box_new (w.alloc (.cells #[.int .i64 0, .int .i64 0, .int .i64 0, .int .i64 0, .int .i64 0, .int .i64 0, .int .i64 0, .int .i64 0] 28)) 28 #[.int .i64 0, .int .i64 0, .int .i64 0, .int .i64 0, .int .i64 0, .int .i64 0, .int .i64 0, .int .i64 0])
  replace R0 := Lib.hid (R0.out.alloc_ (.cells #[.int .i64 0, .int .i64 0, .int .i64 0, .int .i64 0, .int .i64 0, .int .i64 0, .int .i64 0, .int .i64 0] 28))
  have HB := Lib.hid (((Below.refl w.heap.size w).alloc (by first | exact Nat.le_refl _ | (simp; done) | (simp; omega)) (.cells #[.int .i64 0, .int .i64 0, .int .i64 0, .int .i64 0, .int .i64 0, .int .i64 0, .int .i64 0, .int .i64 0] 28)).alloc (by first | exact Nat.le_refl _ | (simp; done) | (simp; omega)) (.cells #[.int .i64 0, .int .i64 0, .int .i64 0, .int .i64 0, .int .i64 0, .int .i64 0, .int .i64 0, .int .i64 0] 28))
  clear hb
  go_enter Try.func12, Try.ntmps12
  go_wp2_with fail
  refine Calls.mono (dr_new n cap A w _ (w.heap.size + 1 + 1) (by simp) hn HY.out HB.out) ?_
  rintro e w1 ⟨rfl, hc, hb1⟩
  have HC := Lib.hid hc
  replace R0 := Lib.hid (dr_box_low R0.out hb1 (by omega))
  replace R1 := Lib.hid (dr_box_low R1.out hb1 (by omega))
  replace HB := Lib.hid (HB.out.trans (hb1.mono (by omega)))
  have l1 : (w.heap.size + 1 + 1) < w1.heap.size := HC.out.lt
  clear hc hb1
  go_wp2_with fail
  refine Calls.mono (rule_any (w.heap.size + 1 + 1) n cap A _ hn' HC.out) ?_
  rintro e w2 ⟨a, ha, rfl, hc, hg⟩
  replace R0 := Lib.hid (R0.out.grown hg (by omega))
  replace R1 := Lib.hid (R1.out.grown hg (by omega))
  replace HB := Lib.hid (dr_below HB.out (by omega) hg)
  replace HC := Lib.hid hc
  have l2 : (w.heap.size + 1 + 1) < w2.heap.size := HC.out.lt
  clear hc hg
  obtain ⟨x2, hx⟩ : ∃ x, x = World.setRow (w2.alloc (.cells #[.int .i64 0, .int .i64 0, .int .i64 0, .int .i64 0, .int .i64 0, .int .i64 0, .int .i64 0, .int .i64 0] 28)) w2.heap.size #[.int .i64 a.f0, .int .i64 a.f1, .int .i64 a.f2, .int .i64 a.f3, .int .i64 a.f4, .int .i64 a.f5, .int .i64 a.f6, .int .i64 a.f7] := ⟨_, rfl⟩
  have HX2 := Lib.hid hx
  have OLD2 := Lib.hid (box_new w2 28 #[.int .i64 0, .int .i64 0, .int .i64 0, .int .i64 0, .int .i64 0, .int .i64 0, .int .i64 0, .int .i64 0])
  replace R0 := Lib.hid (show BoxAt x2 w.heap.size 28 #[.int .i64 0, .int .i64 0, .int .i64 0, .int .i64 0, .int .i64 0, .int .i64 0, .int .i64 0, .int .i64 0] by rw [hx]; exact box_far (R0.out.alloc_ _) (by omega))
  replace R1 := Lib.hid (show BoxAt x2 (w.heap.size + 1) 28 #[.int .i64 0, .int .i64 0, .int .i64 0, .int .i64 0, .int .i64 0, .int .i64 0, .int .i64 0, .int .i64 0] by rw [hx]; exact box_far (R1.out.alloc_ _) (by omega))
  have KB := Lib.hid (show BoxAt x2 w2.heap.size 28 #[.int .i64 a.f0, .int .i64 a.f1, .int .i64 a.f2, .int .i64 a.f3, .int .i64 a.f4, .int .i64 a.f5, .int .i64 a.f6, .int .i64 a.f7] by rw [hx]; exact box_row OLD2.out)
  replace HC := Lib.hid (show Cur x2 (w.heap.size + 1 + 1) A n cap by rw [hx]; exact dr_cur_row (HC.out.new _) (by omega) _)
  replace HB := Lib.hid (show Below w.heap.size w x2 by rw [hx]; exact below_setRow (HB.out.alloc (by have := HB.out.size; omega) _) (by omega) _)
  have m2 : w2.heap.size < x2.heap.size := KB.out.lt
  clear hx
  go_upto_region 3 with (refine wpList_store_row rfl 28 _ _ rfl w2.heap.size #[.int .i64 a.f0, .int .i64 a.f1, .int .i64 a.f2, .int .i64 a.f3, .int .i64 a.f4, .int .i64 a.f5, .int .i64 a.f6, .int .i64 a.f7] rfl rfl 28 _ OLD2.out (by kernel_rfl) (by kernel_rfl) (by kernel_rfl) ?_; rw [← HX2.out]; clear HX2 OLD2)
  refine wp_region_held_drew (S := fun w' => BoxAt w' w2.heap.size 28 #[.int .i64 a.f0, .int .i64 a.f1, .int .i64 a.f2, .int .i64 a.f3, .int .i64 a.f4, .int .i64 a.f5, .int .i64 a.f6, .int .i64 a.f7] ∧ DatT w (w.heap.size + 1 + 1) A n cap [(w.heap.size, 28, 8), ((w.heap.size + 1), 28, 8)] w') (by kernel_rfl) ?_ (fun hHeld => ?_)
  · exact ⟨KB.out.drw, (DatT.mk_ (rs := [(w.heap.size, 28, 8), ((w.heap.size + 1), 28, 8)]) HB.out HC.out (by simp only [List.mem_cons, List.not_mem_nil, or_false, forall_eq_or_imp, forall_eq]; exact ⟨⟨_, rfl, R0.out⟩, ⟨_, rfl, R1.out⟩⟩)).drw⟩
  refine wpAnyH_take (i := 0) (oi := ⟨some 10, _, _, _, _, _⟩) (v := ?_) rfl (by kernel_rfl) (by kernel_rfl) (by kernel_rfl) (fun _ _ _ h => h) (Or.inl ⟨by kernel_rfl, ?_⟩) hHeld ?_
  rotate_left
  focus (intro W hS; have c0_0 := (hS.1).at_ (j := 0) rfl; have c0_1 := (hS.1).at_ (j := 1) rfl; have c0_2 := (hS.1).at_ (j := 2) rfl; have c0_3 := (hS.1).at_ (j := 3) rfl; have c0_4 := (hS.1).at_ (j := 4) rfl; have c0_5 := (hS.1).at_ (j := 5) rfl; have c0_6 := (hS.1).at_ (j := 6) rfl; have c0_7 := (hS.1).at_ (j := 7) rfl; clear hS; first | (go_simp; done) | (go_simp; with_reducible rfl))
  try simp only [Act.put, List.setIfInBounds_toArray, List.set_cons_zero, List.set_cons_succ]
  refine wpAnyH_take (i := 1) (oi := ⟨some 11, _, _, _, _, _⟩) (v := ?_) rfl (by kernel_rfl) (by kernel_rfl) (by kernel_rfl) (fun _ _ _ h => h) (Or.inl ⟨by kernel_rfl, ?_⟩) hHeld ?_
  rotate_left
  focus (intro W hS; skip; clear hS; first | (go_simp; done) | (go_simp; with_reducible rfl))
  try simp only [Act.put, List.setIfInBounds_toArray, List.set_cons_zero, List.set_cons_succ]
  refine wpAnyH_ready (rs := [2]) (by kernel_rfl) (by simp) ?_
  refine AllReadyH.cons (o := ⟨some 12, _, _, _, _, _⟩) rfl (fun K hK => ?_) AllReadyH.nil
  go_simp
  refine Calls.mono (rule_any (w.heap.size + 1 + 1) n cap A _ hn' (hHeld.2.cur HY.out (by omega))) ?_
  rintro e v1 ⟨b, hbf, rfl, hc, hg⟩
  refine hK.out _ _ ⟨hHeld.1.grown hg (by omega), hHeld.2.call hc hg (by simp; omega) (by omega)⟩ (fun hHeld' => ?_)
  clear hK K hHeld hc hg; have hHeld := hHeld'; clear hHeld'
  try simp only [Act.put, List.setIfInBounds_toArray, List.set_cons_zero, List.set_cons_succ]
  refine wpAnyH_ready (rs := [3]) (by kernel_rfl) (by simp) ?_
  refine AllReadyH.cons (o := ⟨none, _, _, _, _, _⟩) rfl (fun K hK => ?_) AllReadyH.nil
  rw [if_pos (by rfl)]
  obtain ⟨cz0, hs0, hz0⟩ := hHeld.2.1 (w.heap.size, 28, 8) (by simp)
  refine wp_store_row 28 _ _ rfl w.heap.size #[.int .i64 a.f0, .int .i64 a.f1, .int .i64 a.f2, .int .i64 a.f3, .int .i64 a.f4, .int .i64 a.f5, .int .i64 a.f6, .int .i64 a.f7] rfl rfl 28 _ hz0 (by kernel_rfl) hs0 (by kernel_rfl) ?_
  have G_R0 := box_row (cs := #[.int .i64 a.f0, .int .i64 a.f1, .int .i64 a.f2, .int .i64 a.f3, .int .i64 a.f4, .int .i64 a.f5, .int .i64 a.f6, .int .i64 a.f7]) hz0
  have hHeld2 := hHeld.2.row w.heap.size (by omega) (by omega) #[.int .i64 a.f0, .int .i64 a.f1, .int .i64 a.f2, .int .i64 a.f3, .int .i64 a.f4, .int .i64 a.f5, .int .i64 a.f6, .int .i64 a.f7] (by simp)
  have hb0 := box_far (cs := #[.int .i64 a.f0, .int .i64 a.f1, .int .i64 a.f2, .int .i64 a.f3, .int .i64 a.f4, .int .i64 a.f5, .int .i64 a.f6, .int .i64 a.f7]) (g := w.heap.size) hHeld.1 (by omega)
  clear hz0
  generalize World.setRow _ w.heap.size #[.int .i64 a.f0, .int .i64 a.f1, .int .i64 a.f2, .int .i64 a.f3, .int .i64 a.f4, .int .i64 a.f5, .int .i64 a.f6, .int .i64 a.f7] = v2 at G_R0 hHeld2 hb0 ⊢
  refine hK.out _ _ ⟨hb0, hHeld2⟩ (fun hHeld' => ?_)
  clear hK K hHeld hHeld2 hb0; have hHeld := hHeld'; clear hHeld'
  try simp only [Act.put, List.setIfInBounds_toArray, List.set_cons_zero, List.set_cons_succ]
  refine wpAnyH_ready (rs := [4]) (by kernel_rfl) (by simp) ?_
  refine AllReadyH.cons (o := ⟨none, _, _, _, _, _⟩) rfl (fun K hK => ?_) AllReadyH.nil
  rw [if_pos (by rfl)]
  obtain ⟨cz1, hs1, hz1⟩ := hHeld.2.1 ((w.heap.size + 1), 28, 8) (by simp)
  refine wp_store_row 28 _ _ rfl (w.heap.size + 1) #[.int .i64 b.f0, .int .i64 b.f1, .int .i64 b.f2, .int .i64 b.f3, .int .i64 b.f4, .int .i64 b.f5, .int .i64 b.f6, .int .i64 b.f7] rfl rfl 28 _ hz1 (by kernel_rfl) hs1 (by kernel_rfl) ?_
  have G_R1 := box_row (cs := #[.int .i64 b.f0, .int .i64 b.f1, .int .i64 b.f2, .int .i64 b.f3, .int .i64 b.f4, .int .i64 b.f5, .int .i64 b.f6, .int .i64 b.f7]) hz1
  replace G_R0 := box_far (cs := #[.int .i64 b.f0, .int .i64 b.f1, .int .i64 b.f2, .int .i64 b.f3, .int .i64 b.f4, .int .i64 b.f5, .int .i64 b.f6, .int .i64 b.f7]) (g := (w.heap.size + 1)) G_R0 (by omega)
  have hHeld2 := hHeld.2.row (w.heap.size + 1) (by omega) (by omega) #[.int .i64 b.f0, .int .i64 b.f1, .int .i64 b.f2, .int .i64 b.f3, .int .i64 b.f4, .int .i64 b.f5, .int .i64 b.f6, .int .i64 b.f7] (by simp)
  have hb0 := box_far (cs := #[.int .i64 b.f0, .int .i64 b.f1, .int .i64 b.f2, .int .i64 b.f3, .int .i64 b.f4, .int .i64 b.f5, .int .i64 b.f6, .int .i64 b.f7]) (g := (w.heap.size + 1)) hHeld.1 (by omega)
  clear hz1
  generalize World.setRow _ (w.heap.size + 1) #[.int .i64 b.f0, .int .i64 b.f1, .int .i64 b.f2, .int .i64 b.f3, .int .i64 b.f4, .int .i64 b.f5, .int .i64 b.f6, .int .i64 b.f7] = v3 at G_R1 hHeld2 G_R0 hb0 ⊢
  refine hK.out _ _ ⟨hb0, hHeld2⟩ (fun hHeld' => ?_)
  clear hK K hHeld hHeld2 hb0; have hHeld := hHeld'; clear hHeld'
  try simp only [Act.put, List.setIfInBounds_toArray, List.set_cons_zero, List.set_cons_succ]
  refine wpAnyH_done (by kernel_rfl) ?_ _
  have p0 := G_R0.at_ (j := 0) rfl
  have p1 := G_R0.at_ (j := 1) rfl
  have p2 := G_R0.at_ (j := 2) rfl
  have p3 := G_R0.at_ (j := 3) rfl
  have p4 := G_R0.at_ (j := 4) rfl
  have p5 := G_R0.at_ (j := 5) rfl
  have p6 := G_R0.at_ (j := 6) rfl
  have p7 := G_R0.at_ (j := 7) rfl
  have q0 := G_R1.at_ (j := 0) rfl
  have q1 := G_R1.at_ (j := 1) rfl
  have q2 := G_R1.at_ (j := 2) rfl
  have q3 := G_R1.at_ (j := 3) rfl
  have q4 := G_R1.at_ (j := 4) rfl
  have q5 := G_R1.at_ (j := 5) rfl
  have q6 := G_R1.at_ (j := 6) rfl
  have q7 := G_R1.at_ (j := 7) rfl
  have HBE := hHeld.2.2.2
  clear hHeld
  go_wp2_with fail
  exact bodyPost_ret (v := .tuple #[.agg #[.int .i64 a.f0, .int .i64 a.f1, .int .i64 a.f2, .int .i64 a.f3, .int .i64 a.f4, .int .i64 a.f5, .int .i64 a.f6, .int .i64 a.f7], .agg #[.int .i64 b.f0, .int .i64 b.f1, .int .i64 b.f2, .int .i64 b.f3, .int .i64 b.f4, .int .i64 b.f5, .int .i64 b.f6, .int .i64 b.f7]]) (by simp [results, Try.results12, go_sem, p0, p1, p2, p3, p4, p5, p6, p7, q0, q1, q2, q3, q4, q5, q6, q7]) rfl ⟨a, b, ha, hbf, rfl, HBE⟩
def DrawnAp (w : World) (e : Ending) (w' : World) : Prop :=
  ∃ (a : TRule) (b : TRequest), a.fit ∧ b.fit ∧ e = .returned (.tuple #[.agg #[.int .i64 a.f0, .int .i64 a.f1, .int .i64 a.f2, .int .i64 a.f3, .int .i64 a.f4, .int .i64 a.f5, .int .i64 a.f6, .int .i64 a.f7], .agg #[.int .i64 b.f0, .int .i64 b.f1, .int .i64 b.f2]]) ∧ Below w.heap.size w w'
set_option maxHeartbeats 16000000 in
theorem drawAp_any (n cap : Nat) (A : Option Addr) (w : World) (hn : n ≤ 140737488355328) (hb : BytesAt w w.heap.size A n) :
    Calls Try.prog 15 #[.slice A n cap] w (DrawnAp w) := by
  have hn' : n ≤ maxLen := by unfold maxLen; omega
  have HY := Lib.hid hb
  have R0 := Lib.hid (show BoxAt (w.alloc (.cells #[.int .i64 0, .int .i64 0, .int .i64 0, .int .i64 0, .int .i64 0, .int .i64 0, .int .i64 0, .int .i64 0] 28)) w.heap.size 28 #[.int .i64 0, .int .i64 0, .int .i64 0, .int .i64 0, .int .i64 0, .int .i64 0, .int .i64 0, .int .i64 0] from by simpa using box_new w 28 #[.int .i64 0, .int .i64 0, .int .i64 0, .int .i64 0, .int .i64 0, .int .i64 0, .int .i64 0, .int .i64 0])
  have R1 := Lib.hid (show BoxAt ((w.alloc (.cells #[.int .i64 0, .int .i64 0, .int .i64 0, .int .i64 0, .int .i64 0, .int .i64 0, .int .i64 0, .int .i64 0] 28)).alloc (.cells #[.int .i64 0, .int .i64 0, .int .i64 0] 33)) (w.heap.size + 1) 33 #[.int .i64 0, .int .i64 0, .int .i64 0] from by simpa using box_new (w.alloc (.cells #[.int .i64 0, .int .i64 0, .int .i64 0, .int .i64 0, .int .i64 0, .int .i64 0, .int .i64 0, .int .i64 0] 28)) 33 #[.int .i64 0, .int .i64 0, .int .i64 0])
  replace R0 := Lib.hid (R0.out.alloc_ (.cells #[.int .i64 0, .int .i64 0, .int .i64 0] 33))
  have HB := Lib.hid (((Below.refl w.heap.size w).alloc (by first | exact Nat.le_refl _ | (simp; done) | (simp; omega)) (.cells #[.int .i64 0, .int .i64 0, .int .i64 0, .int .i64 0, .int .i64 0, .int .i64 0, .int .i64 0, .int .i64 0] 28)).alloc (by first | exact Nat.le_refl _ | (simp; done) | (simp; omega)) (.cells #[.int .i64 0, .int .i64 0, .int .i64 0] 33))
  clear hb
  go_enter Try.func15, Try.ntmps15
  go_wp2_with fail
  refine Calls.mono (dr_new n cap A w _ (w.heap.size + 1 + 1) (by simp) hn HY.out HB.out) ?_
  rintro e w1 ⟨rfl, hc, hb1⟩
  have HC := Lib.hid hc
  replace R0 := Lib.hid (dr_box_low R0.out hb1 (by omega))
  replace R1 := Lib.hid (dr_box_low R1.out hb1 (by omega))
  replace HB := Lib.hid (HB.out.trans (hb1.mono (by omega)))
  have l1 : (w.heap.size + 1 + 1) < w1.heap.size := HC.out.lt
  clear hc hb1
  go_wp2_with fail
  refine Calls.mono (rulea_any (w.heap.size + 1 + 1) n cap A _ hn' HC.out) ?_
  rintro e w2 ⟨a, ha, rfl, hc, hg⟩
  replace R0 := Lib.hid (R0.out.grown hg (by omega))
  replace R1 := Lib.hid (R1.out.grown hg (by omega))
  replace HB := Lib.hid (dr_below HB.out (by omega) hg)
  replace HC := Lib.hid hc
  have l2 : (w.heap.size + 1 + 1) < w2.heap.size := HC.out.lt
  clear hc hg
  obtain ⟨x2, hx⟩ : ∃ x, x = World.setRow (w2.alloc (.cells #[.int .i64 0, .int .i64 0, .int .i64 0, .int .i64 0, .int .i64 0, .int .i64 0, .int .i64 0, .int .i64 0] 28)) w2.heap.size #[.int .i64 a.f0, .int .i64 a.f1, .int .i64 a.f2, .int .i64 a.f3, .int .i64 a.f4, .int .i64 a.f5, .int .i64 a.f6, .int .i64 a.f7] := ⟨_, rfl⟩
  have HX2 := Lib.hid hx
  have OLD2 := Lib.hid (box_new w2 28 #[.int .i64 0, .int .i64 0, .int .i64 0, .int .i64 0, .int .i64 0, .int .i64 0, .int .i64 0, .int .i64 0])
  replace R0 := Lib.hid (show BoxAt x2 w.heap.size 28 #[.int .i64 0, .int .i64 0, .int .i64 0, .int .i64 0, .int .i64 0, .int .i64 0, .int .i64 0, .int .i64 0] by rw [hx]; exact box_far (R0.out.alloc_ _) (by omega))
  replace R1 := Lib.hid (show BoxAt x2 (w.heap.size + 1) 33 #[.int .i64 0, .int .i64 0, .int .i64 0] by rw [hx]; exact box_far (R1.out.alloc_ _) (by omega))
  have KB := Lib.hid (show BoxAt x2 w2.heap.size 28 #[.int .i64 a.f0, .int .i64 a.f1, .int .i64 a.f2, .int .i64 a.f3, .int .i64 a.f4, .int .i64 a.f5, .int .i64 a.f6, .int .i64 a.f7] by rw [hx]; exact box_row OLD2.out)
  replace HC := Lib.hid (show Cur x2 (w.heap.size + 1 + 1) A n cap by rw [hx]; exact dr_cur_row (HC.out.new _) (by omega) _)
  replace HB := Lib.hid (show Below w.heap.size w x2 by rw [hx]; exact below_setRow (HB.out.alloc (by have := HB.out.size; omega) _) (by omega) _)
  have m2 : w2.heap.size < x2.heap.size := KB.out.lt
  clear hx
  go_upto_region 3 with (refine wpList_store_row rfl 28 _ _ rfl w2.heap.size #[.int .i64 a.f0, .int .i64 a.f1, .int .i64 a.f2, .int .i64 a.f3, .int .i64 a.f4, .int .i64 a.f5, .int .i64 a.f6, .int .i64 a.f7] rfl rfl 28 _ OLD2.out (by kernel_rfl) (by kernel_rfl) (by kernel_rfl) ?_; rw [← HX2.out]; clear HX2 OLD2)
  refine wp_region_held_drew (S := fun w' => BoxAt w' w2.heap.size 28 #[.int .i64 a.f0, .int .i64 a.f1, .int .i64 a.f2, .int .i64 a.f3, .int .i64 a.f4, .int .i64 a.f5, .int .i64 a.f6, .int .i64 a.f7] ∧ DatT w (w.heap.size + 1 + 1) A n cap [(w.heap.size, 28, 8), ((w.heap.size + 1), 33, 3)] w') (by kernel_rfl) ?_ (fun hHeld => ?_)
  · exact ⟨KB.out.drw, (DatT.mk_ (rs := [(w.heap.size, 28, 8), ((w.heap.size + 1), 33, 3)]) HB.out HC.out (by simp only [List.mem_cons, List.not_mem_nil, or_false, forall_eq_or_imp, forall_eq]; exact ⟨⟨_, rfl, R0.out⟩, ⟨_, rfl, R1.out⟩⟩)).drw⟩
  refine wpAnyH_take (i := 0) (oi := ⟨some 10, _, _, _, _, _⟩) (v := ?_) rfl (by kernel_rfl) (by kernel_rfl) (by kernel_rfl) (fun _ _ _ h => h) (Or.inl ⟨by kernel_rfl, ?_⟩) hHeld ?_
  rotate_left
  focus (intro W hS; have c0_0 := (hS.1).at_ (j := 0) rfl; have c0_1 := (hS.1).at_ (j := 1) rfl; have c0_2 := (hS.1).at_ (j := 2) rfl; have c0_3 := (hS.1).at_ (j := 3) rfl; have c0_4 := (hS.1).at_ (j := 4) rfl; have c0_5 := (hS.1).at_ (j := 5) rfl; have c0_6 := (hS.1).at_ (j := 6) rfl; have c0_7 := (hS.1).at_ (j := 7) rfl; clear hS; first | (go_simp; done) | (go_simp; with_reducible rfl))
  try simp only [Act.put, List.setIfInBounds_toArray, List.set_cons_zero, List.set_cons_succ]
  refine wpAnyH_take (i := 1) (oi := ⟨some 11, _, _, _, _, _⟩) (v := ?_) rfl (by kernel_rfl) (by kernel_rfl) (by kernel_rfl) (fun _ _ _ h => h) (Or.inl ⟨by kernel_rfl, ?_⟩) hHeld ?_
  rotate_left
  focus (intro W hS; skip; clear hS; first | (go_simp; done) | (go_simp; with_reducible rfl))
  try simp only [Act.put, List.setIfInBounds_toArray, List.set_cons_zero, List.set_cons_succ]
  refine wpAnyH_ready (rs := [2]) (by kernel_rfl) (by simp) ?_
  refine AllReadyH.cons (o := ⟨some 12, _, _, _, _, _⟩) rfl (fun K hK => ?_) AllReadyH.nil
  go_simp
  refine Calls.mono (req_any (w.heap.size + 1 + 1) n cap A _ hn' (hHeld.2.cur HY.out (by omega))) ?_
  rintro e v1 ⟨b, hbf, rfl, hc, hg⟩
  refine hK.out _ _ ⟨hHeld.1.grown hg (by omega), hHeld.2.call hc hg (by simp; omega) (by omega)⟩ (fun hHeld' => ?_)
  clear hK K hHeld hc hg; have hHeld := hHeld'; clear hHeld'
  try simp only [Act.put, List.setIfInBounds_toArray, List.set_cons_zero, List.set_cons_succ]
  refine wpAnyH_ready (rs := [3]) (by kernel_rfl) (by simp) ?_
  refine AllReadyH.cons (o := ⟨none, _, _, _, _, _⟩) rfl (fun K hK => ?_) AllReadyH.nil
  rw [if_pos (by rfl)]
  obtain ⟨cz0, hs0, hz0⟩ := hHeld.2.1 (w.heap.size, 28, 8) (by simp)
  refine wp_store_row 28 _ _ rfl w.heap.size #[.int .i64 a.f0, .int .i64 a.f1, .int .i64 a.f2, .int .i64 a.f3, .int .i64 a.f4, .int .i64 a.f5, .int .i64 a.f6, .int .i64 a.f7] rfl rfl 28 _ hz0 (by kernel_rfl) hs0 (by kernel_rfl) ?_
  have G_R0 := box_row (cs := #[.int .i64 a.f0, .int .i64 a.f1, .int .i64 a.f2, .int .i64 a.f3, .int .i64 a.f4, .int .i64 a.f5, .int .i64 a.f6, .int .i64 a.f7]) hz0
  have hHeld2 := hHeld.2.row w.heap.size (by omega) (by omega) #[.int .i64 a.f0, .int .i64 a.f1, .int .i64 a.f2, .int .i64 a.f3, .int .i64 a.f4, .int .i64 a.f5, .int .i64 a.f6, .int .i64 a.f7] (by simp)
  have hb0 := box_far (cs := #[.int .i64 a.f0, .int .i64 a.f1, .int .i64 a.f2, .int .i64 a.f3, .int .i64 a.f4, .int .i64 a.f5, .int .i64 a.f6, .int .i64 a.f7]) (g := w.heap.size) hHeld.1 (by omega)
  clear hz0
  generalize World.setRow _ w.heap.size #[.int .i64 a.f0, .int .i64 a.f1, .int .i64 a.f2, .int .i64 a.f3, .int .i64 a.f4, .int .i64 a.f5, .int .i64 a.f6, .int .i64 a.f7] = v2 at G_R0 hHeld2 hb0 ⊢
  refine hK.out _ _ ⟨hb0, hHeld2⟩ (fun hHeld' => ?_)
  clear hK K hHeld hHeld2 hb0; have hHeld := hHeld'; clear hHeld'
  try simp only [Act.put, List.setIfInBounds_toArray, List.set_cons_zero, List.set_cons_succ]
  refine wpAnyH_ready (rs := [4]) (by kernel_rfl) (by simp) ?_
  refine AllReadyH.cons (o := ⟨none, _, _, _, _, _⟩) rfl (fun K hK => ?_) AllReadyH.nil
  rw [if_pos (by rfl)]
  obtain ⟨cz1, hs1, hz1⟩ := hHeld.2.1 ((w.heap.size + 1), 33, 3) (by simp)
  refine wp_store_row 33 _ _ rfl (w.heap.size + 1) #[.int .i64 b.f0, .int .i64 b.f1, .int .i64 b.f2] rfl rfl 33 _ hz1 (by kernel_rfl) hs1 (by kernel_rfl) ?_
  have G_R1 := box_row (cs := #[.int .i64 b.f0, .int .i64 b.f1, .int .i64 b.f2]) hz1
  replace G_R0 := box_far (cs := #[.int .i64 b.f0, .int .i64 b.f1, .int .i64 b.f2]) (g := (w.heap.size + 1)) G_R0 (by omega)
  have hHeld2 := hHeld.2.row (w.heap.size + 1) (by omega) (by omega) #[.int .i64 b.f0, .int .i64 b.f1, .int .i64 b.f2] (by simp)
  have hb0 := box_far (cs := #[.int .i64 b.f0, .int .i64 b.f1, .int .i64 b.f2]) (g := (w.heap.size + 1)) hHeld.1 (by omega)
  clear hz1
  generalize World.setRow _ (w.heap.size + 1) #[.int .i64 b.f0, .int .i64 b.f1, .int .i64 b.f2] = v3 at G_R1 hHeld2 G_R0 hb0 ⊢
  refine hK.out _ _ ⟨hb0, hHeld2⟩ (fun hHeld' => ?_)
  clear hK K hHeld hHeld2 hb0; have hHeld := hHeld'; clear hHeld'
  try simp only [Act.put, List.setIfInBounds_toArray, List.set_cons_zero, List.set_cons_succ]
  refine wpAnyH_done (by kernel_rfl) ?_ _
  have p0 := G_R0.at_ (j := 0) rfl
  have p1 := G_R0.at_ (j := 1) rfl
  have p2 := G_R0.at_ (j := 2) rfl
  have p3 := G_R0.at_ (j := 3) rfl
  have p4 := G_R0.at_ (j := 4) rfl
  have p5 := G_R0.at_ (j := 5) rfl
  have p6 := G_R0.at_ (j := 6) rfl
  have p7 := G_R0.at_ (j := 7) rfl
  have q0 := G_R1.at_ (j := 0) rfl
  have q1 := G_R1.at_ (j := 1) rfl
  have q2 := G_R1.at_ (j := 2) rfl
  have HBE := hHeld.2.2.2
  clear hHeld
  go_wp2_with fail
  exact bodyPost_ret (v := .tuple #[.agg #[.int .i64 a.f0, .int .i64 a.f1, .int .i64 a.f2, .int .i64 a.f3, .int .i64 a.f4, .int .i64 a.f5, .int .i64 a.f6, .int .i64 a.f7], .agg #[.int .i64 b.f0, .int .i64 b.f1, .int .i64 b.f2]]) (by simp [results, Try.results15, go_sem, p0, p1, p2, p3, p4, p5, p6, p7, q0, q1, q2]) rfl ⟨a, b, ha, hbf, rfl, HBE⟩
end Go.Proofs.Ytlnmgfbfpjfddaa
