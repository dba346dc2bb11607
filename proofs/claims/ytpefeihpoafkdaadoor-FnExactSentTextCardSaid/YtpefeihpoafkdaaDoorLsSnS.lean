/- SentText of the model. -/
import Derived.Test.YtpefeihpoafkdaaDoorLsSn
import Derived.Deep.RegionHeld3
import Derived.Deep.LoopGhost
import Derived.Lib.Join
namespace Go.Proofs.YtpefeihpoafkdaaDoor
open Go Go.ChangeShapes Go.WideShapes Go.ChangeAt Go.RowKit Go.Lib
set_option linter.unusedVariables false
set_option linter.unusedSimpArgs false
set_option maxRecDepth 100000
set_option maxHeartbeats 16000000 in
theorem spec_SentText (l : List TSent) (A : Option Addr) (n c lo hi : Nat) (w : World) (hT : Pow10 w) (hn : n ≤ 1048576) (hr : Rd w lo hi 3 A n (cSent l)) (b0 : Hid (cSentOk l)) :
    Calls Tryd.prog 11 #[.slice A n c] w (Says (.string ⟨(lTx (l.map tSn)).toArray⟩) w) := by
  have HF := Lib.hid (fun x (h : x ∈ l) => b0.out x h)
  have HL := Lib.hid (rd_len TSent.len hr (by decide))
  have HM := Lib.hid (in_map (l := l) (f := tSn) (m := 63) (fun x hx => tSn_len (b0.out x hx)))
  have HLm := Lib.hid (show (l.map tSn).length = n by rw [List.length_map, HL.out])
  have HG := Lib.hid (fun k => show (Lib.join ((l.map tSn).take k) [32]).length ≤ 200000000 by have := jn_len_take (sep := [32]) (by decide) 63 k _ HM.out; rw [HLm.out] at this; omega)
  have HR := Lib.hid hr
  have HT := Lib.hid hT
  obtain ⟨T, HTe⟩ : ∃ T, Hid (lTx (l.map tSn) = T) := ⟨_, Lib.hid rfl⟩
  rw [HTe.out]
  obtain ⟨ts, hts⟩ : ∃ ts, l.map tSn = ts := ⟨_, rfl⟩
  have HTs := Lib.hid hts
  rw [hts] at HTe HM HLm HG
  clear hr hT hts b0
  go_enter Tryd.func11, Tryd.ntmps11
  go_wp2_with fail
  go_loopg [3, 4] n (fun gg sv i wr => ∃ k : Nat, k ≤ n ∧ n - k ≤ gg ∧ i = .int .i64 k ∧ sv = .string ⟨(Lib.join (ts.take k) [32]).toArray⟩ ∧ Hid (Below w.heap.size w wr))
  case atStart => exact ⟨0, Nat.zero_le _, by omega, rfl, by rw [List.take_zero]; rfl, Lib.hid (Below.refl _ _)⟩
  case round =>
    obtain ⟨k, hk, hg, rfl, rfl, HB1⟩ := hrel
    by_cases hlt : k < n
    · obtain ⟨b, off, x, rfl, _, _, hz, hc⟩ := rd_elem TSent.len (HR.out.new HB1.out) HL.out hlt
      have HX0 : Hid (wr.cell? ⟨b, off + k * 3, none⟩ = some (.int .i64 x.f0)) := Lib.hid (hc 0 _ rfl)
      have HX1 : Hid (wr.cell? ⟨b, off + k * 3 + 1, none⟩ = some (.int .i64 x.f1)) := Lib.hid (hc 1 _ rfl)
      have HX2 : Hid (wr.cell? ⟨b, off + k * 3 + 2, none⟩ = some (.int .i64 x.f2)) := Lib.hid (hc 2 _ rfl)
      have HZ : Hid (ts[k]? = some (tSn x)) := Lib.hid (by rw [← HTs.out, List.getElem?_map, hz]; rfl)
      have hf := HF.out x (List.mem_of_getElem? hz)
      have hgk := HG.out k
      obtain ⟨f0, f1, f2⟩ := hf
      have C0 := Lib.hid (says_spec x.f0 f0)
      have hx0 := itoa_in f0
      have C1 := Lib.hid (says_spec x.f1 f1)
      have hx1 := itoa_in f1
      have C2 := Lib.hid (fun W hW => spec_LabelText x.f2 W hW)
      have hx2 := tLab_len x.f2
      unfold tSn at HZ
      generalize itoa x.f0 = X0 at C0 hx0 HZ
      generalize itoa x.f1 = X1 at C1 hx1 HZ
      generalize tLab x.f2 = X2 at C2 hx2 HZ
      clear f0 f1 f2
      clear hz hc
      rcases Nat.eq_zero_or_pos k with hk0 | hk0
      · skip
        subst hk0
        have HY0 : Hid (wr.cell? ⟨b, off, none⟩ = some (.int .i64 x.f0)) := Lib.hid (by have h := HX0.out; simpa using h)
        have HY1 : Hid (wr.cell? ⟨b, off + 1, none⟩ = some (.int .i64 x.f1)) := Lib.hid (by have h := HX1.out; simpa using h)
        have HY2 : Hid (wr.cell? ⟨b, off + 2, none⟩ = some (.int .i64 x.f2)) := Lib.hid (by have h := HX2.out; simpa using h)
        have HE := Lib.hid (show Lib.join (ts.take (0 + 1)) [32] = X0 ++ [61] ++ X1 ++ [91] ++ X2 ++ [93] from jn_take1 HZ.out)
        rw [show Lib.join (ts.take 0) [32] = [] by rw [List.take_zero]; rfl]
        clear HZ HX0 HX1 HX2
        obtain ⟨J0, HJ0⟩ : ∃ Jx : List UInt8, Hid (([] : List UInt8) ++ X0 = Jx) := ⟨_, Lib.hid rfl⟩
        have hj0 : J0.length ≤ 30 := by rw [← HJ0.out]; simp only [List.length_append, List.length_cons, List.length_nil]; omega
        have hc0 : ∀ W, (Op.stringOp .add ⟨#[]⟩ ⟨X0.toArray⟩).run Tryd.prog W = .ok (.string ⟨J0.toArray⟩) W := fun W => by rw [← HJ0.out]; exact cat_bigs [] X0 (by first | omega | (simp; done)) (by first | omega | (simp; done)) W
        obtain ⟨J1, HJ1⟩ : ∃ Jx : List UInt8, Hid ((J0 : List UInt8) ++ [61] = Jx) := ⟨_, Lib.hid rfl⟩
        have hj1 : J1.length ≤ 60 := by rw [← HJ1.out]; simp only [List.length_append, List.length_cons, List.length_nil]; omega
        have hc1 : ∀ W, (Op.stringOp .add ⟨J0.toArray⟩ ⟨#[61]⟩).run Tryd.prog W = .ok (.string ⟨J1.toArray⟩) W := fun W => by rw [← HJ1.out]; exact cat_bigs J0 [61] (by first | omega | (simp; done)) (by first | omega | (simp; done)) W
        obtain ⟨J2, HJ2⟩ : ∃ Jx : List UInt8, Hid ((J1 : List UInt8) ++ X1 = Jx) := ⟨_, Lib.hid rfl⟩
        have hj2 : J2.length ≤ 90 := by rw [← HJ2.out]; simp only [List.length_append, List.length_cons, List.length_nil]; omega
        have hc2 : ∀ W, (Op.stringOp .add ⟨J1.toArray⟩ ⟨X1.toArray⟩).run Tryd.prog W = .ok (.string ⟨J2.toArray⟩) W := fun W => by rw [← HJ2.out]; exact cat_bigs J1 X1 (by first | omega | (simp; done)) (by first | omega | (simp; done)) W
        obtain ⟨J3, HJ3⟩ : ∃ Jx : List UInt8, Hid ((J2 : List UInt8) ++ [91] = Jx) := ⟨_, Lib.hid rfl⟩
        have hj3 : J3.length ≤ 120 := by rw [← HJ3.out]; simp only [List.length_append, List.length_cons, List.length_nil]; omega
        have hc3 : ∀ W, (Op.stringOp .add ⟨J2.toArray⟩ ⟨#[91]⟩).run Tryd.prog W = .ok (.string ⟨J3.toArray⟩) W := fun W => by rw [← HJ3.out]; exact cat_bigs J2 [91] (by first | omega | (simp; done)) (by first | omega | (simp; done)) W
        obtain ⟨J4, HJ4⟩ : ∃ Jx : List UInt8, Hid ((J3 : List UInt8) ++ X2 = Jx) := ⟨_, Lib.hid rfl⟩
        have hj4 : J4.length ≤ 150 := by rw [← HJ4.out]; simp only [List.length_append, List.length_cons, List.length_nil]; omega
        have hc4 : ∀ W, (Op.stringOp .add ⟨J3.toArray⟩ ⟨X2.toArray⟩).run Tryd.prog W = .ok (.string ⟨J4.toArray⟩) W := fun W => by rw [← HJ4.out]; exact cat_bigs J3 X2 (by first | omega | (simp; done)) (by first | omega | (simp; done)) W
        obtain ⟨J5, HJ5⟩ : ∃ Jx : List UInt8, Hid ((J4 : List UInt8) ++ [93] = Jx) := ⟨_, Lib.hid rfl⟩
        have hj5 : J5.length ≤ 180 := by rw [← HJ5.out]; simp only [List.length_append, List.length_cons, List.length_nil]; omega
        have hc5 : ∀ W, (Op.stringOp .add ⟨J4.toArray⟩ ⟨#[93]⟩).run Tryd.prog W = .ok (.string ⟨J5.toArray⟩) W := fun W => by rw [← HJ5.out]; exact cat_bigs J4 [93] (by first | omega | (simp; done)) (by first | omega | (simp; done)) W
        go_wp2_with fail
        refine wp_region_held_drew (S := fun w' => Below wr.heap.size wr w') (by kernel_rfl) ?_ (fun hHeld => ?_)
        · exact (Below.refl _ _).drew
        refine wpAnyH_take (i := 0) (oi := ⟨some 15, _, _, _, _, _⟩) (v := ?_) rfl (by kernel_rfl) (by kernel_rfl) (by kernel_rfl) (fun _ _ _ h => h) (Or.inl ⟨by kernel_rfl, ?_⟩) hHeld ?_
        rotate_left
        focus (intro W hS; have c0 := cell_nw hS HY0.out; have c1 := cell_nw hS HY1.out; have c2 := cell_nw hS HY2.out; clear hS; first | (go_simp; done) | (go_simp; with_reducible rfl))
        try simp only [Act.put, List.setIfInBounds_toArray, List.set_cons_zero, List.set_cons_succ]
        refine wpAnyH_take (i := 1) (oi := ⟨some 16, _, _, _, _, _⟩) (v := ?_) rfl (by kernel_rfl) (by kernel_rfl) (by kernel_rfl) (fun _ _ _ h => h) (Or.inl ⟨by kernel_rfl, ?_⟩) hHeld ?_
        rotate_left
        focus (intro W hS; have c0 := cell_nw hS HY0.out; have c1 := cell_nw hS HY1.out; have c2 := cell_nw hS HY2.out; clear hS; first | (go_simp; done) | (go_simp; with_reducible rfl))
        try simp only [Act.put, List.setIfInBounds_toArray, List.set_cons_zero, List.set_cons_succ]
        refine wpAnyH_take (i := 2) (oi := ⟨some 17, _, _, _, _, _⟩) (v := ?_) rfl (by kernel_rfl) (by kernel_rfl) (by kernel_rfl) (fun _ _ _ h => h) (Or.inl ⟨by kernel_rfl, ?_⟩) hHeld ?_
        rotate_left
        focus (intro W hS; have c0 := cell_nw hS HY0.out; have c1 := cell_nw hS HY1.out; have c2 := cell_nw hS HY2.out; clear hS; first | (go_simp; done) | (go_simp; with_reducible rfl))
        try simp only [Act.put, List.setIfInBounds_toArray, List.set_cons_zero, List.set_cons_succ]
        refine wpAnyH_take (i := 3) (oi := ⟨some 18, _, _, _, _, _⟩) (v := ?_) rfl (by kernel_rfl) (by kernel_rfl) (by kernel_rfl) (fun _ _ _ h => h) (Or.inl ⟨by kernel_rfl, ?_⟩) hHeld ?_
        rotate_left
        focus (intro W hS; have c0 := cell_nw hS HY0.out; have c1 := cell_nw hS HY1.out; have c2 := cell_nw hS HY2.out; clear hS; first | (go_simp; done) | (go_simp; with_reducible rfl))
        try simp only [Act.put, List.setIfInBounds_toArray, List.set_cons_zero, List.set_cons_succ]
        refine wpAnyH_take (i := 4) (oi := ⟨some 19, _, _, _, _, _⟩) (v := ?_) rfl (by kernel_rfl) (by kernel_rfl) (by kernel_rfl) (fun _ _ _ h => h) (Or.inl ⟨by kernel_rfl, ?_⟩) hHeld ?_
        rotate_left
        focus (intro W hS; have c0 := cell_nw hS HY0.out; have c1 := cell_nw hS HY1.out; have c2 := cell_nw hS HY2.out; clear hS; first | (go_simp; done) | (go_simp; with_reducible rfl))
        try simp only [Act.put, List.setIfInBounds_toArray, List.set_cons_zero, List.set_cons_succ]
        refine wpAnyH_take (i := 5) (oi := ⟨some 20, _, _, _, _, _⟩) (v := ?_) rfl (by kernel_rfl) (by kernel_rfl) (by kernel_rfl) (fun _ _ _ h => h) (Or.inl ⟨by kernel_rfl, ?_⟩) hHeld ?_
        rotate_left
        focus (intro W hS; have c0 := cell_nw hS HY0.out; have c1 := cell_nw hS HY1.out; have c2 := cell_nw hS HY2.out; clear hS; first | (go_simp; done) | (go_simp; with_reducible rfl))
        try simp only [Act.put, List.setIfInBounds_toArray, List.set_cons_zero, List.set_cons_succ]
        refine wpAnyH_take (i := 9) (oi := ⟨some 24, _, _, _, _, _⟩) (v := ?_) rfl (by kernel_rfl) (by kernel_rfl) (by kernel_rfl) (fun _ _ _ h => h) (Or.inl ⟨by kernel_rfl, ?_⟩) hHeld ?_
        rotate_left
        focus (intro W hS; have c0 := cell_nw hS HY0.out; have c1 := cell_nw hS HY1.out; have c2 := cell_nw hS HY2.out; clear hS; first | (go_simp; done) | (go_simp; with_reducible rfl))
        try simp only [Act.put, List.setIfInBounds_toArray, List.set_cons_zero, List.set_cons_succ]
        refine wpAnyH_take (i := 10) (oi := ⟨some 25, _, _, _, _, _⟩) (v := ?_) rfl (by kernel_rfl) (by kernel_rfl) (by kernel_rfl) (fun _ _ _ h => h) (Or.inl ⟨by kernel_rfl, ?_⟩) hHeld ?_
        rotate_left
        focus (intro W hS; have c0 := cell_nw hS HY0.out; have c1 := cell_nw hS HY1.out; have c2 := cell_nw hS HY2.out; clear hS; first | (go_simp; done) | (go_simp; with_reducible rfl))
        try simp only [Act.put, List.setIfInBounds_toArray, List.set_cons_zero, List.set_cons_succ]
        refine wpAnyH_take (i := 11) (oi := ⟨some 26, _, _, _, _, _⟩) (v := ?_) rfl (by kernel_rfl) (by kernel_rfl) (by kernel_rfl) (fun _ _ _ h => h) (Or.inl ⟨by kernel_rfl, ?_⟩) hHeld ?_
        rotate_left
        focus (intro W hS; have c0 := cell_nw hS HY0.out; have c1 := cell_nw hS HY1.out; have c2 := cell_nw hS HY2.out; clear hS; first | (go_simp; done) | (go_simp; with_reducible rfl))
        try simp only [Act.put, List.setIfInBounds_toArray, List.set_cons_zero, List.set_cons_succ]
        refine wpAnyH_take (i := 12) (oi := ⟨some 27, _, _, _, _, _⟩) (v := ?_) rfl (by kernel_rfl) (by kernel_rfl) (by kernel_rfl) (fun _ _ _ h => h) (Or.inl ⟨by kernel_rfl, ?_⟩) hHeld ?_
        rotate_left
        focus (intro W hS; have c0 := cell_nw hS HY0.out; have c1 := cell_nw hS HY1.out; have c2 := cell_nw hS HY2.out; clear hS; first | (go_simp; done) | (go_simp; with_reducible rfl))
        try simp only [Act.put, List.setIfInBounds_toArray, List.set_cons_zero, List.set_cons_succ]
        refine wpAnyH_take (i := 13) (oi := ⟨some 28, _, _, _, _, _⟩) (v := ?_) rfl (by kernel_rfl) (by kernel_rfl) (by kernel_rfl) (fun _ _ _ h => h) (Or.inl ⟨by kernel_rfl, ?_⟩) hHeld ?_
        rotate_left
        focus (intro W hS; have c0 := cell_nw hS HY0.out; have c1 := cell_nw hS HY1.out; have c2 := cell_nw hS HY2.out; clear hS; first | (go_simp; done) | (go_simp; with_reducible rfl))
        try simp only [Act.put, List.setIfInBounds_toArray, List.set_cons_zero, List.set_cons_succ]
        refine wpAnyH_take (i := 17) (oi := ⟨some 32, _, _, _, _, _⟩) (v := ?_) rfl (by kernel_rfl) (by kernel_rfl) (by kernel_rfl) (fun _ _ _ h => h) (Or.inl ⟨by kernel_rfl, ?_⟩) hHeld ?_
        rotate_left
        focus (intro W hS; have c0 := cell_nw hS HY0.out; have c1 := cell_nw hS HY1.out; have c2 := cell_nw hS HY2.out; clear hS; first | (go_simp; done) | (go_simp; with_reducible rfl))
        try simp only [Act.put, List.setIfInBounds_toArray, List.set_cons_zero, List.set_cons_succ]
        refine wpAnyH_take (i := 18) (oi := ⟨some 33, _, _, _, _, _⟩) (v := ?_) rfl (by kernel_rfl) (by kernel_rfl) (by kernel_rfl) (fun _ _ _ h => h) (Or.inl ⟨by kernel_rfl, ?_⟩) hHeld ?_
        rotate_left
        focus (intro W hS; have c0 := cell_nw hS HY0.out; have c1 := cell_nw hS HY1.out; have c2 := cell_nw hS HY2.out; clear hS; first | (go_simp; done) | (go_simp; with_reducible rfl))
        try simp only [Act.put, List.setIfInBounds_toArray, List.set_cons_zero, List.set_cons_succ]
        refine wpAnyH_take (i := 19) (oi := ⟨some 34, _, _, _, _, _⟩) (v := ?_) rfl (by kernel_rfl) (by kernel_rfl) (by kernel_rfl) (fun _ _ _ h => h) (Or.inl ⟨by kernel_rfl, ?_⟩) hHeld ?_
        rotate_left
        focus (intro W hS; have c0 := cell_nw hS HY0.out; have c1 := cell_nw hS HY1.out; have c2 := cell_nw hS HY2.out; clear hS; first | (go_simp; done) | (go_simp; with_reducible rfl))
        try simp only [Act.put, List.setIfInBounds_toArray, List.set_cons_zero, List.set_cons_succ]
        refine wpAnyH_take (i := 20) (oi := ⟨some 35, _, _, _, _, _⟩) (v := ?_) rfl (by kernel_rfl) (by kernel_rfl) (by kernel_rfl) (fun _ _ _ h => h) (Or.inl ⟨by kernel_rfl, ?_⟩) hHeld ?_
        rotate_left
        focus (intro W hS; have c0 := cell_nw hS HY0.out; have c1 := cell_nw hS HY1.out; have c2 := cell_nw hS HY2.out; clear hS; first | (go_simp; done) | (go_simp; with_reducible rfl))
        try simp only [Act.put, List.setIfInBounds_toArray, List.set_cons_zero, List.set_cons_succ]
        refine wpAnyH_take (i := 21) (oi := ⟨some 36, _, _, _, _, _⟩) (v := ?_) rfl (by kernel_rfl) (by kernel_rfl) (by kernel_rfl) (fun _ _ _ h => h) (Or.inl ⟨by kernel_rfl, ?_⟩) hHeld ?_
        rotate_left
        focus (intro W hS; have c0 := cell_nw hS HY0.out; have c1 := cell_nw hS HY1.out; have c2 := cell_nw hS HY2.out; clear hS; first | (go_simp; done) | (go_simp; with_reducible rfl))
        try simp only [Act.put, List.setIfInBounds_toArray, List.set_cons_zero, List.set_cons_succ]
        refine wpAnyH_ready (rs := [6]) (by kernel_rfl) (by simp) ?_
        refine AllReadyH.cons (o := ⟨some 21, _, _, _, _, _⟩) rfl (fun K hK => ?_) AllReadyH.nil
        go_simp
        refine Calls.mono (C0.out _ (pow10_below HT.out (below_trans HB1.out hHeld (Nat.le_refl _)))) ?_
        rintro e x1 ⟨rfl, hb1⟩
        refine hK.out _ _ (below_trans hHeld hb1 (Nat.le_refl _)) (fun hHeld' => ?_)
        clear hK K hHeld hb1
        have hHeld := hHeld'
        clear hHeld'
        try simp only [Act.put, List.setIfInBounds_toArray, List.set_cons_zero, List.set_cons_succ]
        refine wpAnyH_take (i := 7) (oi := ⟨some 22, _, _, _, _, _⟩) (v := ?_) rfl (by kernel_rfl) (by kernel_rfl) (by kernel_rfl) (fun _ _ _ h => h) (Or.inl ⟨by kernel_rfl, ?_⟩) hHeld ?_
        rotate_left
        focus (intro W hS; have c0 := cell_nw hS HY0.out; have c1 := cell_nw hS HY1.out; have c2 := cell_nw hS HY2.out; clear hS; first | (go_simp; done) | (go_simp; with_reducible rfl))
        try simp only [Act.put, List.setIfInBounds_toArray, List.set_cons_zero, List.set_cons_succ]
        refine wpAnyH_take (i := 8) (oi := ⟨some 23, _, _, _, _, _⟩) (v := ?_) rfl (by kernel_rfl) (by kernel_rfl) (by kernel_rfl) (fun _ _ _ h => h) (Or.inl ⟨by kernel_rfl, ?_⟩) hHeld ?_
        rotate_left
        focus (intro W hS; have c0 := cell_nw hS HY0.out; have c1 := cell_nw hS HY1.out; have c2 := cell_nw hS HY2.out; clear hS; first | (go_simp; done) | (go_simp; with_reducible rfl))
        try simp only [Act.put, List.setIfInBounds_toArray, List.set_cons_zero, List.set_cons_succ]
        refine wpAnyH_ready (rs := [14]) (by kernel_rfl) (by simp) ?_
        refine AllReadyH.cons (o := ⟨some 29, _, _, _, _, _⟩) rfl (fun K hK => ?_) AllReadyH.nil
        go_simp
        refine Calls.mono (C1.out _ (pow10_below HT.out (below_trans HB1.out hHeld (Nat.le_refl _)))) ?_
        rintro e x2 ⟨rfl, hb1⟩
        refine hK.out _ _ (below_trans hHeld hb1 (Nat.le_refl _)) (fun hHeld' => ?_)
        clear hK K hHeld hb1
        have hHeld := hHeld'
        clear hHeld'
        try simp only [Act.put, List.setIfInBounds_toArray, List.set_cons_zero, List.set_cons_succ]
        refine wpAnyH_take (i := 15) (oi := ⟨some 30, _, _, _, _, _⟩) (v := ?_) rfl (by kernel_rfl) (by kernel_rfl) (by kernel_rfl) (fun _ _ _ h => h) (Or.inl ⟨by kernel_rfl, ?_⟩) hHeld ?_
        rotate_left
        focus (intro W hS; have c0 := cell_nw hS HY0.out; have c1 := cell_nw hS HY1.out; have c2 := cell_nw hS HY2.out; clear hS; first | (go_simp; done) | (go_simp; with_reducible rfl))
        try simp only [Act.put, List.setIfInBounds_toArray, List.set_cons_zero, List.set_cons_succ]
        refine wpAnyH_take (i := 16) (oi := ⟨some 31, _, _, _, _, _⟩) (v := ?_) rfl (by kernel_rfl) (by kernel_rfl) (by kernel_rfl) (fun _ _ _ h => h) (Or.inl ⟨by kernel_rfl, ?_⟩) hHeld ?_
        rotate_left
        focus (intro W hS; have c0 := cell_nw hS HY0.out; have c1 := cell_nw hS HY1.out; have c2 := cell_nw hS HY2.out; clear hS; first | (go_simp; done) | (go_simp; with_reducible rfl))
        try simp only [Act.put, List.setIfInBounds_toArray, List.set_cons_zero, List.set_cons_succ]
        refine wpAnyH_ready (rs := [22]) (by kernel_rfl) (by simp) ?_
        refine AllReadyH.cons (o := ⟨some 37, _, _, _, _, _⟩) rfl (fun K hK => ?_) AllReadyH.nil
        go_simp
        refine Calls.mono (C2.out _ (pow10_below HT.out (below_trans HB1.out hHeld (Nat.le_refl _)))) ?_
        rintro e x3 ⟨rfl, hb1⟩
        refine hK.out _ _ (below_trans hHeld hb1 (Nat.le_refl _)) (fun hHeld' => ?_)
        clear hK K hHeld hb1
        have hHeld := hHeld'
        clear hHeld'
        try simp only [Act.put, List.setIfInBounds_toArray, List.set_cons_zero, List.set_cons_succ]
        refine wpAnyH_take (i := 23) (oi := ⟨some 38, _, _, _, _, _⟩) (v := ?_) rfl (by kernel_rfl) (by kernel_rfl) (by kernel_rfl) (fun _ _ _ h => h) (Or.inl ⟨by kernel_rfl, ?_⟩) hHeld ?_
        rotate_left
        focus (intro W hS; have c0 := cell_nw hS HY0.out; have c1 := cell_nw hS HY1.out; have c2 := cell_nw hS HY2.out; clear hS; first | (go_simp; done) | (go_simp; with_reducible rfl))
        try simp only [Act.put, List.setIfInBounds_toArray, List.set_cons_zero, List.set_cons_succ]
        refine wpAnyH_take (i := 24) (oi := ⟨some 39, _, _, _, _, _⟩) (v := ?_) rfl (by kernel_rfl) (by kernel_rfl) (by kernel_rfl) (fun _ _ _ h => h) (Or.inl ⟨by kernel_rfl, ?_⟩) hHeld ?_
        rotate_left
        focus (intro W hS; have c0 := cell_nw hS HY0.out; have c1 := cell_nw hS HY1.out; have c2 := cell_nw hS HY2.out; clear hS; first | (go_simp; done) | (go_simp; with_reducible rfl))
        try simp only [Act.put, List.setIfInBounds_toArray, List.set_cons_zero, List.set_cons_succ]
        refine wpAnyH_take (i := 25) (oi := ⟨some 3, _, _, _, _, _⟩) (v := ?_) rfl (by kernel_rfl) (by kernel_rfl) (by kernel_rfl) (fun _ _ _ h => h) (Or.inl ⟨by kernel_rfl, ?_⟩) hHeld ?_
        rotate_left
        focus (intro W hS; have c0 := cell_nw hS HY0.out; have c1 := cell_nw hS HY1.out; have c2 := cell_nw hS HY2.out; clear hS; first | (go_simp; done) | (go_simp; with_reducible rfl))
        try simp only [Act.put, List.setIfInBounds_toArray, List.set_cons_zero, List.set_cons_succ]
        refine wpAnyH_done (by kernel_rfl) ?_ _
        go_wp2_with fail
        go_roundg (n - (0 + 1))
        case measure => omega
        case rel => exact ⟨0 + 1, by omega, by omega, by first | rfl | go_num, by rw [HE.out, ← HJ5.out, ← HJ4.out, ← HJ3.out, ← HJ2.out, ← HJ1.out, ← HJ0.out]; simp, Lib.hid (below_trans HB1.out hHeld (Nat.le_refl _))⟩
      · skip
        have hk1 : ((0 : Int) < (k : Int)) := by omega
        have HE := Lib.hid (show Lib.join (ts.take (k + 1)) [32] = Lib.join (ts.take k) [32] ++ [32] ++ (X0 ++ [61] ++ X1 ++ [91] ++ X2 ++ [93]) from jn_takes HZ.out hk0)
        clear HZ
        generalize Lib.join (ts.take k) [32] = J at hgk HE ⊢
        obtain ⟨J0, HJ0⟩ : ∃ Jx : List UInt8, Hid ((J : List UInt8) ++ [32] = Jx) := ⟨_, Lib.hid rfl⟩
        have hj0 : J0.length ≤ 200000030 := by rw [← HJ0.out]; simp only [List.length_append, List.length_cons, List.length_nil]; omega
        have hc0 : ∀ W, (Op.stringOp .add ⟨J.toArray⟩ ⟨#[32]⟩).run Tryd.prog W = .ok (.string ⟨J0.toArray⟩) W := fun W => by rw [← HJ0.out]; exact cat_bigs J [32] (by first | omega | (simp; done)) (by first | omega | (simp; done)) W
        obtain ⟨J1, HJ1⟩ : ∃ Jx : List UInt8, Hid ((J0 : List UInt8) ++ X0 = Jx) := ⟨_, Lib.hid rfl⟩
        have hj1 : J1.length ≤ 200000060 := by rw [← HJ1.out]; simp only [List.length_append, List.length_cons, List.length_nil]; omega
        have hc1 : ∀ W, (Op.stringOp .add ⟨J0.toArray⟩ ⟨X0.toArray⟩).run Tryd.prog W = .ok (.string ⟨J1.toArray⟩) W := fun W => by rw [← HJ1.out]; exact cat_bigs J0 X0 (by first | omega | (simp; done)) (by first | omega | (simp; done)) W
        obtain ⟨J2, HJ2⟩ : ∃ Jx : List UInt8, Hid ((J1 : List UInt8) ++ [61] = Jx) := ⟨_, Lib.hid rfl⟩
        have hj2 : J2.length ≤ 200000090 := by rw [← HJ2.out]; simp only [List.length_append, List.length_cons, List.length_nil]; omega
        have hc2 : ∀ W, (Op.stringOp .add ⟨J1.toArray⟩ ⟨#[61]⟩).run Tryd.prog W = .ok (.string ⟨J2.toArray⟩) W := fun W => by rw [← HJ2.out]; exact cat_bigs J1 [61] (by first | omega | (simp; done)) (by first | omega | (simp; done)) W
        obtain ⟨J3, HJ3⟩ : ∃ Jx : List UInt8, Hid ((J2 : List UInt8) ++ X1 = Jx) := ⟨_, Lib.hid rfl⟩
        have hj3 : J3.length ≤ 200000120 := by rw [← HJ3.out]; simp only [List.length_append, List.length_cons, List.length_nil]; omega
        have hc3 : ∀ W, (Op.stringOp .add ⟨J2.toArray⟩ ⟨X1.toArray⟩).run Tryd.prog W = .ok (.string ⟨J3.toArray⟩) W := fun W => by rw [← HJ3.out]; exact cat_bigs J2 X1 (by first | omega | (simp; done)) (by first | omega | (simp; done)) W
        obtain ⟨J4, HJ4⟩ : ∃ Jx : List UInt8, Hid ((J3 : List UInt8) ++ [91] = Jx) := ⟨_, Lib.hid rfl⟩
        have hj4 : J4.length ≤ 200000150 := by rw [← HJ4.out]; simp only [List.length_append, List.length_cons, List.length_nil]; omega
        have hc4 : ∀ W, (Op.stringOp .add ⟨J3.toArray⟩ ⟨#[91]⟩).run Tryd.prog W = .ok (.string ⟨J4.toArray⟩) W := fun W => by rw [← HJ4.out]; exact cat_bigs J3 [91] (by first | omega | (simp; done)) (by first | omega | (simp; done)) W
        obtain ⟨J5, HJ5⟩ : ∃ Jx : List UInt8, Hid ((J4 : List UInt8) ++ X2 = Jx) := ⟨_, Lib.hid rfl⟩
        have hj5 : J5.length ≤ 200000180 := by rw [← HJ5.out]; simp only [List.length_append, List.length_cons, List.length_nil]; omega
        have hc5 : ∀ W, (Op.stringOp .add ⟨J4.toArray⟩ ⟨X2.toArray⟩).run Tryd.prog W = .ok (.string ⟨J5.toArray⟩) W := fun W => by rw [← HJ5.out]; exact cat_bigs J4 X2 (by first | omega | (simp; done)) (by first | omega | (simp; done)) W
        obtain ⟨J6, HJ6⟩ : ∃ Jx : List UInt8, Hid ((J5 : List UInt8) ++ [93] = Jx) := ⟨_, Lib.hid rfl⟩
        have hj6 : J6.length ≤ 200000210 := by rw [← HJ6.out]; simp only [List.length_append, List.length_cons, List.length_nil]; omega
        have hc6 : ∀ W, (Op.stringOp .add ⟨J5.toArray⟩ ⟨#[93]⟩).run Tryd.prog W = .ok (.string ⟨J6.toArray⟩) W := fun W => by rw [← HJ6.out]; exact cat_bigs J5 [93] (by first | omega | (simp; done)) (by first | omega | (simp; done)) W
        go_wp2_with fail
        refine wp_region_held_drew (S := fun w' => Below wr.heap.size wr w') (by kernel_rfl) ?_ (fun hHeld => ?_)
        · exact (Below.refl _ _).drew
        refine wpAnyH_take (i := 0) (oi := ⟨some 15, _, _, _, _, _⟩) (v := ?_) rfl (by kernel_rfl) (by kernel_rfl) (by kernel_rfl) (fun _ _ _ h => h) (Or.inl ⟨by kernel_rfl, ?_⟩) hHeld ?_
        rotate_left
        focus (intro W hS; have c0 := cell_nw hS HX0.out; have c1 := cell_nw hS HX1.out; have c2 := cell_nw hS HX2.out; clear hS; first | (go_simp; done) | (go_simp; with_reducible rfl))
        try simp only [Act.put, List.setIfInBounds_toArray, List.set_cons_zero, List.set_cons_succ]
        refine wpAnyH_take (i := 1) (oi := ⟨some 16, _, _, _, _, _⟩) (v := ?_) rfl (by kernel_rfl) (by kernel_rfl) (by kernel_rfl) (fun _ _ _ h => h) (Or.inl ⟨by kernel_rfl, ?_⟩) hHeld ?_
        rotate_left
        focus (intro W hS; have c0 := cell_nw hS HX0.out; have c1 := cell_nw hS HX1.out; have c2 := cell_nw hS HX2.out; clear hS; first | (go_simp; done) | (go_simp; with_reducible rfl))
        try simp only [Act.put, List.setIfInBounds_toArray, List.set_cons_zero, List.set_cons_succ]
        refine wpAnyH_take (i := 2) (oi := ⟨some 17, _, _, _, _, _⟩) (v := ?_) rfl (by kernel_rfl) (by kernel_rfl) (by kernel_rfl) (fun _ _ _ h => h) (Or.inl ⟨by kernel_rfl, ?_⟩) hHeld ?_
        rotate_left
        focus (intro W hS; have c0 := cell_nw hS HX0.out; have c1 := cell_nw hS HX1.out; have c2 := cell_nw hS HX2.out; clear hS; first | (go_simp; done) | (go_simp; with_reducible rfl))
        try simp only [Act.put, List.setIfInBounds_toArray, List.set_cons_zero, List.set_cons_succ]
        refine wpAnyH_take (i := 3) (oi := ⟨some 18, _, _, _, _, _⟩) (v := ?_) rfl (by kernel_rfl) (by kernel_rfl) (by kernel_rfl) (fun _ _ _ h => h) (Or.inl ⟨by kernel_rfl, ?_⟩) hHeld ?_
        rotate_left
        focus (intro W hS; have c0 := cell_nw hS HX0.out; have c1 := cell_nw hS HX1.out; have c2 := cell_nw hS HX2.out; clear hS; first | (go_simp; done) | (go_simp; with_reducible rfl))
        try simp only [Act.put, List.setIfInBounds_toArray, List.set_cons_zero, List.set_cons_succ]
        refine wpAnyH_take (i := 4) (oi := ⟨some 19, _, _, _, _, _⟩) (v := ?_) rfl (by kernel_rfl) (by kernel_rfl) (by kernel_rfl) (fun _ _ _ h => h) (Or.inl ⟨by kernel_rfl, ?_⟩) hHeld ?_
        rotate_left
        focus (intro W hS; have c0 := cell_nw hS HX0.out; have c1 := cell_nw hS HX1.out; have c2 := cell_nw hS HX2.out; clear hS; first | (go_simp; done) | (go_simp; with_reducible rfl))
        try simp only [Act.put, List.setIfInBounds_toArray, List.set_cons_zero, List.set_cons_succ]
        refine wpAnyH_take (i := 5) (oi := ⟨some 20, _, _, _, _, _⟩) (v := ?_) rfl (by kernel_rfl) (by kernel_rfl) (by kernel_rfl) (fun _ _ _ h => h) (Or.inl ⟨by kernel_rfl, ?_⟩) hHeld ?_
        rotate_left
        focus (intro W hS; have c0 := cell_nw hS HX0.out; have c1 := cell_nw hS HX1.out; have c2 := cell_nw hS HX2.out; clear hS; first | (go_simp; done) | (go_simp; with_reducible rfl))
        try simp only [Act.put, List.setIfInBounds_toArray, List.set_cons_zero, List.set_cons_succ]
        refine wpAnyH_take (i := 9) (oi := ⟨some 24, _, _, _, _, _⟩) (v := ?_) rfl (by kernel_rfl) (by kernel_rfl) (by kernel_rfl) (fun _ _ _ h => h) (Or.inl ⟨by kernel_rfl, ?_⟩) hHeld ?_
        rotate_left
        focus (intro W hS; have c0 := cell_nw hS HX0.out; have c1 := cell_nw hS HX1.out; have c2 := cell_nw hS HX2.out; clear hS; first | (go_simp; done) | (go_simp; with_reducible rfl))
        try simp only [Act.put, List.setIfInBounds_toArray, List.set_cons_zero, List.set_cons_succ]
        refine wpAnyH_take (i := 10) (oi := ⟨some 25, _, _, _, _, _⟩) (v := ?_) rfl (by kernel_rfl) (by kernel_rfl) (by kernel_rfl) (fun _ _ _ h => h) (Or.inl ⟨by kernel_rfl, ?_⟩) hHeld ?_
        rotate_left
        focus (intro W hS; have c0 := cell_nw hS HX0.out; have c1 := cell_nw hS HX1.out; have c2 := cell_nw hS HX2.out; clear hS; first | (go_simp; done) | (go_simp; with_reducible rfl))
        try simp only [Act.put, List.setIfInBounds_toArray, List.set_cons_zero, List.set_cons_succ]
        refine wpAnyH_take (i := 11) (oi := ⟨some 26, _, _, _, _, _⟩) (v := ?_) rfl (by kernel_rfl) (by kernel_rfl) (by kernel_rfl) (fun _ _ _ h => h) (Or.inl ⟨by kernel_rfl, ?_⟩) hHeld ?_
        rotate_left
        focus (intro W hS; have c0 := cell_nw hS HX0.out; have c1 := cell_nw hS HX1.out; have c2 := cell_nw hS HX2.out; clear hS; first | (go_simp; done) | (go_simp; with_reducible rfl))
        try simp only [Act.put, List.setIfInBounds_toArray, List.set_cons_zero, List.set_cons_succ]
        refine wpAnyH_take (i := 12) (oi := ⟨some 27, _, _, _, _, _⟩) (v := ?_) rfl (by kernel_rfl) (by kernel_rfl) (by kernel_rfl) (fun _ _ _ h => h) (Or.inl ⟨by kernel_rfl, ?_⟩) hHeld ?_
        rotate_left
        focus (intro W hS; have c0 := cell_nw hS HX0.out; have c1 := cell_nw hS HX1.out; have c2 := cell_nw hS HX2.out; clear hS; first | (go_simp; done) | (go_simp; with_reducible rfl))
        try simp only [Act.put, List.setIfInBounds_toArray, List.set_cons_zero, List.set_cons_succ]
        refine wpAnyH_take (i := 13) (oi := ⟨some 28, _, _, _, _, _⟩) (v := ?_) rfl (by kernel_rfl) (by kernel_rfl) (by kernel_rfl) (fun _ _ _ h => h) (Or.inl ⟨by kernel_rfl, ?_⟩) hHeld ?_
        rotate_left
        focus (intro W hS; have c0 := cell_nw hS HX0.out; have c1 := cell_nw hS HX1.out; have c2 := cell_nw hS HX2.out; clear hS; first | (go_simp; done) | (go_simp; with_reducible rfl))
        try simp only [Act.put, List.setIfInBounds_toArray, List.set_cons_zero, List.set_cons_succ]
        refine wpAnyH_take (i := 17) (oi := ⟨some 32, _, _, _, _, _⟩) (v := ?_) rfl (by kernel_rfl) (by kernel_rfl) (by kernel_rfl) (fun _ _ _ h => h) (Or.inl ⟨by kernel_rfl, ?_⟩) hHeld ?_
        rotate_left
        focus (intro W hS; have c0 := cell_nw hS HX0.out; have c1 := cell_nw hS HX1.out; have c2 := cell_nw hS HX2.out; clear hS; first | (go_simp; done) | (go_simp; with_reducible rfl))
        try simp only [Act.put, List.setIfInBounds_toArray, List.set_cons_zero, List.set_cons_succ]
        refine wpAnyH_take (i := 18) (oi := ⟨some 33, _, _, _, _, _⟩) (v := ?_) rfl (by kernel_rfl) (by kernel_rfl) (by kernel_rfl) (fun _ _ _ h => h) (Or.inl ⟨by kernel_rfl, ?_⟩) hHeld ?_
        rotate_left
        focus (intro W hS; have c0 := cell_nw hS HX0.out; have c1 := cell_nw hS HX1.out; have c2 := cell_nw hS HX2.out; clear hS; first | (go_simp; done) | (go_simp; with_reducible rfl))
        try simp only [Act.put, List.setIfInBounds_toArray, List.set_cons_zero, List.set_cons_succ]
        refine wpAnyH_take (i := 19) (oi := ⟨some 34, _, _, _, _, _⟩) (v := ?_) rfl (by kernel_rfl) (by kernel_rfl) (by kernel_rfl) (fun _ _ _ h => h) (Or.inl ⟨by kernel_rfl, ?_⟩) hHeld ?_
        rotate_left
        focus (intro W hS; have c0 := cell_nw hS HX0.out; have c1 := cell_nw hS HX1.out; have c2 := cell_nw hS HX2.out; clear hS; first | (go_simp; done) | (go_simp; with_reducible rfl))
        try simp only [Act.put, List.setIfInBounds_toArray, List.set_cons_zero, List.set_cons_succ]
        refine wpAnyH_take (i := 20) (oi := ⟨some 35, _, _, _, _, _⟩) (v := ?_) rfl (by kernel_rfl) (by kernel_rfl) (by kernel_rfl) (fun _ _ _ h => h) (Or.inl ⟨by kernel_rfl, ?_⟩) hHeld ?_
        rotate_left
        focus (intro W hS; have c0 := cell_nw hS HX0.out; have c1 := cell_nw hS HX1.out; have c2 := cell_nw hS HX2.out; clear hS; first | (go_simp; done) | (go_simp; with_reducible rfl))
        try simp only [Act.put, List.setIfInBounds_toArray, List.set_cons_zero, List.set_cons_succ]
        refine wpAnyH_take (i := 21) (oi := ⟨some 36, _, _, _, _, _⟩) (v := ?_) rfl (by kernel_rfl) (by kernel_rfl) (by kernel_rfl) (fun _ _ _ h => h) (Or.inl ⟨by kernel_rfl, ?_⟩) hHeld ?_
        rotate_left
        focus (intro W hS; have c0 := cell_nw hS HX0.out; have c1 := cell_nw hS HX1.out; have c2 := cell_nw hS HX2.out; clear hS; first | (go_simp; done) | (go_simp; with_reducible rfl))
        try simp only [Act.put, List.setIfInBounds_toArray, List.set_cons_zero, List.set_cons_succ]
        refine wpAnyH_ready (rs := [6]) (by kernel_rfl) (by simp) ?_
        refine AllReadyH.cons (o := ⟨some 21, _, _, _, _, _⟩) rfl (fun K hK => ?_) AllReadyH.nil
        go_simp
        refine Calls.mono (C0.out _ (pow10_below HT.out (below_trans HB1.out hHeld (Nat.le_refl _)))) ?_
        rintro e x1 ⟨rfl, hb1⟩
        refine hK.out _ _ (below_trans hHeld hb1 (Nat.le_refl _)) (fun hHeld' => ?_)
        clear hK K hHeld hb1
        have hHeld := hHeld'
        clear hHeld'
        try simp only [Act.put, List.setIfInBounds_toArray, List.set_cons_zero, List.set_cons_succ]
        refine wpAnyH_take (i := 7) (oi := ⟨some 22, _, _, _, _, _⟩) (v := ?_) rfl (by kernel_rfl) (by kernel_rfl) (by kernel_rfl) (fun _ _ _ h => h) (Or.inl ⟨by kernel_rfl, ?_⟩) hHeld ?_
        rotate_left
        focus (intro W hS; have c0 := cell_nw hS HX0.out; have c1 := cell_nw hS HX1.out; have c2 := cell_nw hS HX2.out; clear hS; first | (go_simp; done) | (go_simp; with_reducible rfl))
        try simp only [Act.put, List.setIfInBounds_toArray, List.set_cons_zero, List.set_cons_succ]
        refine wpAnyH_take (i := 8) (oi := ⟨some 23, _, _, _, _, _⟩) (v := ?_) rfl (by kernel_rfl) (by kernel_rfl) (by kernel_rfl) (fun _ _ _ h => h) (Or.inl ⟨by kernel_rfl, ?_⟩) hHeld ?_
        rotate_left
        focus (intro W hS; have c0 := cell_nw hS HX0.out; have c1 := cell_nw hS HX1.out; have c2 := cell_nw hS HX2.out; clear hS; first | (go_simp; done) | (go_simp; with_reducible rfl))
        try simp only [Act.put, List.setIfInBounds_toArray, List.set_cons_zero, List.set_cons_succ]
        refine wpAnyH_ready (rs := [14]) (by kernel_rfl) (by simp) ?_
        refine AllReadyH.cons (o := ⟨some 29, _, _, _, _, _⟩) rfl (fun K hK => ?_) AllReadyH.nil
        go_simp
        refine Calls.mono (C1.out _ (pow10_below HT.out (below_trans HB1.out hHeld (Nat.le_refl _)))) ?_
        rintro e x2 ⟨rfl, hb1⟩
        refine hK.out _ _ (below_trans hHeld hb1 (Nat.le_refl _)) (fun hHeld' => ?_)
        clear hK K hHeld hb1
        have hHeld := hHeld'
        clear hHeld'
        try simp only [Act.put, List.setIfInBounds_toArray, List.set_cons_zero, List.set_cons_succ]
        refine wpAnyH_take (i := 15) (oi := ⟨some 30, _, _, _, _, _⟩) (v := ?_) rfl (by kernel_rfl) (by kernel_rfl) (by kernel_rfl) (fun _ _ _ h => h) (Or.inl ⟨by kernel_rfl, ?_⟩) hHeld ?_
        rotate_left
        focus (intro W hS; have c0 := cell_nw hS HX0.out; have c1 := cell_nw hS HX1.out; have c2 := cell_nw hS HX2.out; clear hS; first | (go_simp; done) | (go_simp; with_reducible rfl))
        try simp only [Act.put, List.setIfInBounds_toArray, List.set_cons_zero, List.set_cons_succ]
        refine wpAnyH_take (i := 16) (oi := ⟨some 31, _, _, _, _, _⟩) (v := ?_) rfl (by kernel_rfl) (by kernel_rfl) (by kernel_rfl) (fun _ _ _ h => h) (Or.inl ⟨by kernel_rfl, ?_⟩) hHeld ?_
        rotate_left
        focus (intro W hS; have c0 := cell_nw hS HX0.out; have c1 := cell_nw hS HX1.out; have c2 := cell_nw hS HX2.out; clear hS; first | (go_simp; done) | (go_simp; with_reducible rfl))
        try simp only [Act.put, List.setIfInBounds_toArray, List.set_cons_zero, List.set_cons_succ]
        refine wpAnyH_ready (rs := [22]) (by kernel_rfl) (by simp) ?_
        refine AllReadyH.cons (o := ⟨some 37, _, _, _, _, _⟩) rfl (fun K hK => ?_) AllReadyH.nil
        go_simp
        refine Calls.mono (C2.out _ (pow10_below HT.out (below_trans HB1.out hHeld (Nat.le_refl _)))) ?_
        rintro e x3 ⟨rfl, hb1⟩
        refine hK.out _ _ (below_trans hHeld hb1 (Nat.le_refl _)) (fun hHeld' => ?_)
        clear hK K hHeld hb1
        have hHeld := hHeld'
        clear hHeld'
        try simp only [Act.put, List.setIfInBounds_toArray, List.set_cons_zero, List.set_cons_succ]
        refine wpAnyH_take (i := 23) (oi := ⟨some 38, _, _, _, _, _⟩) (v := ?_) rfl (by kernel_rfl) (by kernel_rfl) (by kernel_rfl) (fun _ _ _ h => h) (Or.inl ⟨by kernel_rfl, ?_⟩) hHeld ?_
        rotate_left
        focus (intro W hS; have c0 := cell_nw hS HX0.out; have c1 := cell_nw hS HX1.out; have c2 := cell_nw hS HX2.out; clear hS; first | (go_simp; done) | (go_simp; with_reducible rfl))
        try simp only [Act.put, List.setIfInBounds_toArray, List.set_cons_zero, List.set_cons_succ]
        refine wpAnyH_take (i := 24) (oi := ⟨some 39, _, _, _, _, _⟩) (v := ?_) rfl (by kernel_rfl) (by kernel_rfl) (by kernel_rfl) (fun _ _ _ h => h) (Or.inl ⟨by kernel_rfl, ?_⟩) hHeld ?_
        rotate_left
        focus (intro W hS; have c0 := cell_nw hS HX0.out; have c1 := cell_nw hS HX1.out; have c2 := cell_nw hS HX2.out; clear hS; first | (go_simp; done) | (go_simp; with_reducible rfl))
        try simp only [Act.put, List.setIfInBounds_toArray, List.set_cons_zero, List.set_cons_succ]
        refine wpAnyH_take (i := 25) (oi := ⟨some 3, _, _, _, _, _⟩) (v := ?_) rfl (by kernel_rfl) (by kernel_rfl) (by kernel_rfl) (fun _ _ _ h => h) (Or.inl ⟨by kernel_rfl, ?_⟩) hHeld ?_
        rotate_left
        focus (intro W hS; have c0 := cell_nw hS HX0.out; have c1 := cell_nw hS HX1.out; have c2 := cell_nw hS HX2.out; clear hS; first | (go_simp; done) | (go_simp; with_reducible rfl))
        try simp only [Act.put, List.setIfInBounds_toArray, List.set_cons_zero, List.set_cons_succ]
        refine wpAnyH_done (by kernel_rfl) ?_ _
        go_wp2_with fail
        go_roundg (n - (k + 1))
        case measure => omega
        case rel => exact ⟨k + 1, by omega, by omega, by first | rfl | go_num, by rw [HE.out, ← HJ6.out, ← HJ5.out, ← HJ4.out, ← HJ3.out, ← HJ2.out, ← HJ1.out, ← HJ0.out]; simp, Lib.hid (below_trans HB1.out hHeld (Nat.le_refl _))⟩
    · obtain rfl : n = k := by omega
      rw [List.take_of_length_le (by rw [HLm.out]; omega)]
      by_cases h0 : n = 0
      · have HE := Lib.hid (show T = [45] by rw [← HTe.out]; unfold lTx; rw [if_pos (by rw [HLm.out]; exact h0)])
        have hT0 : ((n : Int) == 0) = true := by simpa using h0
        go_wp2_with fail
        go_ret
        exact ⟨by rw [HE.out]; rfl, HB1.out⟩
      · have HE := Lib.hid (show T = Lib.join ts [32] by rw [← HTe.out]; unfold lTx; rw [if_neg (by rw [HLm.out]; exact h0)])
        generalize Lib.join ts [32] = J at HE ⊢
        have hT0 : ((n : Int) == 0) = false := by simpa using h0
        go_wp2_with fail
        go_ret
        exact ⟨by rw [HE.out]; rfl, HB1.out⟩

end Go.Proofs.YtpefeihpoafkdaaDoor
