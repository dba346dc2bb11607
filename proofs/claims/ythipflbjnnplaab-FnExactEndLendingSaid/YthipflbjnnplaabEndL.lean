/- EndLending, of the program and of the model. -/
import Derived.Test.YthipflbjnnplaabDel
import Derived.Test.YthipflbjnnplaabIsLent
import Derived.Test.YthipflbjnnplaabSite
import Derived.Test.YthipflbjnnplaabApp
import Derived.Test.YthipflbjnnplaabGB
import Derived.Handy
import Derived.Deep.RegionHeld3
import Derived.Deep.LoopGhost
namespace Go.Proofs.Ythipflbjnnplaab
open Go Go.ChangeShapes Go.WideShapes Go.ChangeAt Go.RowKit Go.Lib
set_option linter.unusedVariables false
set_option linter.unusedSimpArgs false
set_option maxRecDepth 100000
def pEL (s : TSite) (x : TGrant) : Bool := mIsLent x && mMatchSite ⟨x.f1, x.f2⟩ s
set_option maxHeartbeats 4000000 in
theorem has_lent (g : TGrant) (s : TSite) (w : World) : Calls Try.prog 91 #[.agg #[.int .i64 s.f0, .int .i64 s.f1], .agg #[.int .i64 g.f0, .int .i64 g.f1, .int .i64 g.f2, .int .i64 g.f3, .int .i64 g.f4, .int .i64 g.f5, .bool g.f6]] w (Says (.bool (pEL s g)) w) := by
  have C0 := Lib.hid (fun W => impl_IsLent g W)
  have C1 := Lib.hid (fun W => impl_MatchSite ⟨g.f1, g.f2⟩ s W)
  unfold pEL
  generalize mIsLent g = r at C0 ⊢
  generalize mMatchSite ⟨g.f1, g.f2⟩ s = q at C1 ⊢
  have K0 := Lib.hid (show BoxAt ((w.alloc (.cells #[.int .i64 s.f0, .int .i64 s.f1] 130)).alloc (.cells #[.int .i64 g.f0, .int .i64 g.f1, .int .i64 g.f2, .int .i64 g.f3, .int .i64 g.f4, .int .i64 g.f5, .bool g.f6] 122)) w.heap.size 130 #[.int .i64 s.f0, .int .i64 s.f1] from (box_new w _ _).alloc_ _)
  have K1 := Lib.hid (show BoxAt ((w.alloc (.cells #[.int .i64 s.f0, .int .i64 s.f1] 130)).alloc (.cells #[.int .i64 g.f0, .int .i64 g.f1, .int .i64 g.f2, .int .i64 g.f3, .int .i64 g.f4, .int .i64 g.f5, .bool g.f6] 122)) (w.heap.size + 1) 122 #[.int .i64 g.f0, .int .i64 g.f1, .int .i64 g.f2, .int .i64 g.f3, .int .i64 g.f4, .int .i64 g.f5, .bool g.f6] from by simpa using box_new (w.alloc (.cells #[.int .i64 s.f0, .int .i64 s.f1] 130)) 122 #[.int .i64 g.f0, .int .i64 g.f1, .int .i64 g.f2, .int .i64 g.f3, .int .i64 g.f4, .int .i64 g.f5, .bool g.f6])
  have HB0 := Lib.hid (show Below w.heap.size w ((w.alloc (.cells #[.int .i64 s.f0, .int .i64 s.f1] 130)).alloc (.cells #[.int .i64 g.f0, .int .i64 g.f1, .int .i64 g.f2, .int .i64 g.f3, .int .i64 g.f4, .int .i64 g.f5, .bool g.f6] 122)) from ((Below.refl _ _).alloc (Nat.le_refl _) _).alloc (by simp) _)
  cases r
  all_goals
    go_enter Try.func91, Try.ntmps91
    go_wp2_with (go_at_call 139; refine Calls.mono (C0.out _) ?_; rintro e w1 ⟨rfl, hb1⟩; (have HB1 := Lib.hid (below_trans HB0.out hb1 (by simp <;> omega))); (have k00 := (K0.out.new hb1).at_ (j := 0) rfl); (have k01 := (K0.out.new hb1).at_ (j := 1) rfl); (have k11 := (K1.out.new hb1).at_ (j := 1) rfl); (have k12 := (K1.out.new hb1).at_ (j := 2) rfl); clear hb1)
  · go_ret
    exact ⟨rfl, HB1.out⟩
  · refine Calls.mono (C1.out _) ?_
    rintro e w2 ⟨rfl, hb2⟩
    have HB2 := Lib.hid (below_trans HB1.out hb2 (Nat.le_refl _))
    clear hb2
    go_wp2_with fail
    go_ret
    exact ⟨by cases q <;> rfl, HB2.out⟩

set_option maxHeartbeats 8000000 in
theorem impl_EndLending (l : List TGrant) (A : Option Addr) (n c lo hi : Nat) (s : TSite) (w : World) (h0 : n ≤ 1048576) (hr : Rd w lo hi 7 A n (cGrant l)) (b0 : Hid (cGrantOk l)) :
    Calls Try.prog 37 #[.slice A n c, .agg #[.int .i64 s.f0, .int .i64 s.f1]] w (Makes 122 7 (l.filter (qNot (pEL s))).length (cGrant (l.filter (qNot (pEL s)))) w) := by
  have hmf : ∀ (fn : Fn) (first cap : Array Value) (w : World), (Instr.makeFunc fn first cap).run Try.prog w = .ok (.func fn first cap) w := fun _ _ _ _ => rfl
  have C0 : Hid (∀ (W : World), w.heap.size < W.heap.size → Rd W lo hi 7 A n (cGrant l) → Calls Try.prog 90 #[.slice A n c] W (fun e w' => ∃ A' c', e = .returned (.slice A' n c') ∧ Fr w' (w.heap.size + 1) w'.heap.size 122 7 A' n c' (cGrant l) ∧ Below W.heap.size W w')) := Lib.hid (fun W hW hrd => by
    refine (clone_Grant l A n c lo hi W h0 hrd).mono ?_
    rintro e w1 ⟨v, rfl, ho, hb⟩
    obtain ⟨A', c', rfl, hF⟩ := fr_of_own ho
    exact ⟨A', c', rfl, hF.mono hW (Nat.le_refl _), hb⟩)
  have HR := Lib.hid hr
  clear hr
  go_enter Try.func37, Try.ntmps37
  go_wp2_with fail
  refine wp_region_held_drew (S := fun w' => BoxAt w' w.heap.size 53 #[.int .i64 s.f0, .int .i64 s.f1] ∧ Below w.heap.size w w') (by kernel_rfl) ?_ (fun hHeld => ?_)
  · exact ⟨(box_new w 53 #[.int .i64 s.f0, .int .i64 s.f1]).drw, ((Below.refl _ _).alloc (Nat.le_refl _) _).drew⟩
  refine wpAnyH_take (i := 0) (oi := ⟨some 5, _, _, _, _, _⟩) (v := ?_) rfl (by kernel_rfl) (by kernel_rfl) (by kernel_rfl) (fun _ _ _ h => h) (Or.inl ⟨by kernel_rfl, ?_⟩) hHeld ?_
  rotate_left
  focus (intro W hS; have c0_0 := (hS.1).at_ (j := 0) rfl; have c0_1 := (hS.1).at_ (j := 1) rfl; clear hS; first | (go_simp; done) | (go_simp; with_reducible rfl))
  try simp only [Act.put, List.setIfInBounds_toArray, List.set_cons_zero, List.set_cons_succ]
  refine wpAnyH_take (i := 2) (oi := ⟨some 7, _, _, _, _, _⟩) (v := ?_) rfl (by kernel_rfl) (by kernel_rfl) (by kernel_rfl) (fun _ _ _ h => h) (Or.inl ⟨by kernel_rfl, ?_⟩) hHeld ?_
  rotate_left
  focus (intro W hS; have c0_0 := (hS.1).at_ (j := 0) rfl; have c0_1 := (hS.1).at_ (j := 1) rfl; clear hS; first | (go_simp; done) | (go_simp; with_reducible rfl))
  try simp only [Act.put, List.setIfInBounds_toArray, List.set_cons_zero, List.set_cons_succ]
  refine wpAnyH_take (i := 3) (oi := ⟨some 8, _, _, _, _, _⟩) (v := ?_) rfl (by kernel_rfl) (by kernel_rfl) (by kernel_rfl) (fun _ _ _ h => h) (Or.inl ⟨by kernel_rfl, ?_⟩) hHeld ?_
  rotate_left
  focus (intro W hS; have c0_0 := (hS.1).at_ (j := 0) rfl; have c0_1 := (hS.1).at_ (j := 1) rfl; clear hS; first | (go_simp; done) | (go_simp; with_reducible rfl))
  try simp only [Act.put, List.setIfInBounds_toArray, List.set_cons_zero, List.set_cons_succ]
  refine wpAnyH_ready (rs := [1]) (by kernel_rfl) (by simp) ?_
  refine AllReadyH.cons (o := ⟨some 6, _, _, _, _, _⟩) rfl (fun K hK => ?_) AllReadyH.nil
  go_simp
  refine Calls.mono (C0.out _ hHeld.1.lt (HR.out.new hHeld.2)) ?_
  rintro e x1 ⟨AK, cK, rfl, GK, hb1⟩
  refine hK.out _ _ ⟨hHeld.1.new hb1, below_trans hHeld.2 hb1 (Nat.le_refl _)⟩ (fun hHeld' => ?_)
  clear hK K hHeld hb1
  have hHeld := hHeld'
  clear hHeld'
  try simp only [Act.put, List.setIfInBounds_toArray, List.set_cons_zero, List.set_cons_succ]
  refine wpAnyH_ready (rs := [4]) (by kernel_rfl) (by simp) ?_
  refine AllReadyH.cons (o := ⟨some 9, _, _, _, _, _⟩) rfl (fun K hK => ?_) AllReadyH.nil
  go_simp
  refine Calls.mono (del_Grant (pEL s) (.agg #[.int .i64 s.f0, .int .i64 s.f1]) l AK n cK (w.heap.size + 1) _ _ h0 (Nat.le_refl _) GK (fun W x => has_lent x s W)) ?_
  rintro e xD ⟨A2, c2, rfl, hD, hC⟩
  have GD := Lib.hid (hD.mono (Nat.le_succ w.heap.size) hC.size)
  have Q1 := hHeld.1.chg hC (by omega)
  have Q2 := hHeld.2.trans (hC.below (Or.inl (Nat.le_succ _)) hHeld.2.size)
  refine hK.out _ _ ⟨Q1, Q2⟩ (fun hHeld' => ?_)
  clear hK K hHeld hC hD Q1 Q2 GK
  have hHeld := hHeld'
  clear hHeld'
  try simp only [Act.put, List.setIfInBounds_toArray, List.set_cons_zero, List.set_cons_succ]
  refine wpAnyH_take (i := 5) (oi := ⟨some 4, _, _, _, _, _⟩) (v := ?_) rfl (by kernel_rfl) (by kernel_rfl) (by kernel_rfl) (fun _ _ _ h => h) (Or.inl ⟨by kernel_rfl, ?_⟩) hHeld ?_
  rotate_left
  focus (intro W hS; have c0_0 := (hS.1).at_ (j := 0) rfl; have c0_1 := (hS.1).at_ (j := 1) rfl; clear hS; first | (go_simp; done) | (go_simp; with_reducible rfl))
  try simp only [Act.put, List.setIfInBounds_toArray, List.set_cons_zero, List.set_cons_succ]
  refine wpAnyH_done (by kernel_rfl) ?_ _
  go_wp2_with fail
  go_ret
  exact ⟨A2, c2, rfl, GD.out, hHeld.2⟩

set_option maxHeartbeats 8000000 in
theorem spec_EndLending (l : List TGrant) (A : Option Addr) (n c lo hi : Nat) (s : TSite) (w : World) (h0 : n ≤ 1048576) (hr : Rd w lo hi 7 A n (cGrant l)) (b0 : Hid (cGrantOk l)) :
    Calls Try.prog 34 #[.slice A n c, .agg #[.int .i64 s.f0, .int .i64 s.f1]] w (Makes 122 7 (l.filter (qNot (pEL s))).length (cGrant (l.filter (qNot (pEL s)))) w) := by
  have HL := Lib.hid (rd_len TGrant.len hr (by decide))
  have HR := Lib.hid (hr.alloc (.cells #[.int .i64 s.f0, .int .i64 s.f1] 53))
  have HBx := Lib.hid (box_new w 53 #[.int .i64 s.f0, .int .i64 s.f1])
  clear hr
  generalize hP : qNot (pEL s) = P
  have HP := Lib.hid (show ∀ x, P x = !(mIsLent x && mMatchSite ⟨x.f1, x.f2⟩ s) by rw [← hP]; intro x; rfl)
  clear hP
  have HS0 := Lib.hid (show (w.alloc (.cells #[.int .i64 s.f0, .int .i64 s.f1] 53)).heap.size = w.heap.size + 1 by simp)
  go_enter Try.func34, Try.ntmps34
  go_wp2_with fail
  go_loopg [5, 6] n (fun gg v i wr => ∃ k : Nat, k ≤ n ∧ n - k ≤ gg ∧ i = .int .i64 k ∧ wr.ownsRow (w.heap.size + 1) 122 7 v ((l.take k).filter P).length (cGrant ((l.take k).filter P)) ∧ Hid (Below (w.heap.size + 1) (w.alloc (.cells #[.int .i64 s.f0, .int .i64 s.f1] 53)) wr))
  case atStart => exact ⟨0, Nat.zero_le _, by omega, rfl, (by
    have h0 : ((w.alloc (.cells #[.int .i64 s.f0, .int .i64 s.f1] 53)).alloc (.cells #[] 122)).ownsRow (w.heap.size + 1) 122 7 (.slice (some ⟨(w.alloc (.cells #[.int .i64 s.f0, .int .i64 s.f1] 53)).heap.size, 0, none⟩) 0 0) 0 ([] : List Value) := World.ownsRow_lit (w.alloc (.cells #[.int .i64 s.f0, .int .i64 s.f1] 53)) #[] 0 (Nat.le_of_eq HS0.out.symm) (by unfold maxLen; omega) rfl
    rw [HS0.out] at h0
    exact h0), Lib.hid ((Below.refl _ _).alloc (by simp) _)⟩
  case round =>
    obtain ⟨k, hk, hg, rfl, hown, HB⟩ := hrel
    have HO := Lib.hid hown
    have HS := Lib.hid (show w.heap.size + 1 ≤ wr.heap.size by have := HB.out.size; simp at this; omega)
    clear hown
    have hbw : Below (w.alloc (.cells #[.int .i64 s.f0, .int .i64 s.f1] 53)).heap.size (w.alloc (.cells #[.int .i64 s.f0, .int .i64 s.f1] 53)) wr := by rw [HS0.out]; exact HB.out
    by_cases hlt : k < n
    · obtain ⟨b, off, x, rfl, _, _, hz, hc⟩ := rd_elem TGrant.len (HR.out.new hbw) HL.out hlt
      have c0 : wr.cell? ⟨b, off + k * 7, none⟩ = _ := hc 0 _ rfl
      have c1 := hc 1 _ rfl
      have c2 := hc 2 _ rfl
      have c3 := hc 3 _ rfl
      have c4 := hc 4 _ rfl
      have c5 := hc 5 _ rfl
      have c6 := hc 6 _ rfl
      have HX := Lib.hid (HBx.out.new hbw)
      have HN := Lib.hid (Nat.le_trans (List.length_filter_le P (l.take k)) (List.length_take_le _ _))
      have hE := filter_sn P hz
      rw [HP.out x] at hE
      clear hc hz hbw
      have C0 := fun W => spec_IsLent x W
      have C1 := fun W => spec_MatchSite ⟨x.f1, x.f2⟩ s W
      have HEt := fun (h : (mIsLent x && mMatchSite ⟨x.f1, x.f2⟩ s) = false) => hE.trans (if_pos (by rw [h]; rfl))
      have HEf := fun (h : (mIsLent x && mMatchSite ⟨x.f1, x.f2⟩ s) = true) => hE.trans (if_neg (by rw [h]; decide))
      clear hE
      generalize mIsLent x = r at C0 HEt HEf
      generalize mMatchSite ⟨x.f1, x.f2⟩ s = q at C1 HEt HEf
      replace C0 := Lib.hid C0
      replace C1 := Lib.hid C1
      replace HEt := Lib.hid HEt
      replace HEf := Lib.hid HEf
      go_wp2_with fail
      refine wp_region_held_drew (S := fun w' => BoxAt w' w.heap.size 53 #[.int .i64 s.f0, .int .i64 s.f1] ∧ Below wr.heap.size wr w') (by kernel_rfl) ?_ (fun hHeld => ?_)
      · exact ⟨HX.out.drw, (Below.refl _ _).drew⟩
      refine wpAnyH_take (i := 0) (oi := ⟨some 14, _, _, _, _, _⟩) (v := ?_) rfl (by kernel_rfl) (by kernel_rfl) (by kernel_rfl) (fun _ _ _ h => h) (Or.inl ⟨by kernel_rfl, ?_⟩) hHeld ?_
      rotate_left
      focus (intro W hS; have c0_0 := (hS.1).at_ (j := 0) rfl; have c0_1 := (hS.1).at_ (j := 1) rfl; have c0' := cell_nw hS.2 c0; have c1' := cell_nw hS.2 c1; have c2' := cell_nw hS.2 c2; have c3' := cell_nw hS.2 c3; have c4' := cell_nw hS.2 c4; have c5' := cell_nw hS.2 c5; have c6' := cell_nw hS.2 c6; clear hS; first | (go_simp; done) | (go_simp; with_reducible rfl))
      try simp only [Act.put, List.setIfInBounds_toArray, List.set_cons_zero, List.set_cons_succ]
      refine wpAnyH_take (i := 1) (oi := ⟨some 15, _, _, _, _, _⟩) (v := ?_) rfl (by kernel_rfl) (by kernel_rfl) (by kernel_rfl) (fun _ _ _ h => h) (Or.inl ⟨by kernel_rfl, ?_⟩) hHeld ?_
      rotate_left
      focus (intro W hS; have c0_0 := (hS.1).at_ (j := 0) rfl; have c0_1 := (hS.1).at_ (j := 1) rfl; have c0' := cell_nw hS.2 c0; have c1' := cell_nw hS.2 c1; have c2' := cell_nw hS.2 c2; have c3' := cell_nw hS.2 c3; have c4' := cell_nw hS.2 c4; have c5' := cell_nw hS.2 c5; have c6' := cell_nw hS.2 c6; clear hS; first | (go_simp; done) | (go_simp; with_reducible rfl))
      try simp only [Act.put, List.setIfInBounds_toArray, List.set_cons_zero, List.set_cons_succ]
      refine wpAnyH_take (i := 2) (oi := ⟨some 16, _, _, _, _, _⟩) (v := ?_) rfl (by kernel_rfl) (by kernel_rfl) (by kernel_rfl) (fun _ _ _ h => h) (Or.inl ⟨by kernel_rfl, ?_⟩) hHeld ?_
      rotate_left
      focus (intro W hS; have c0_0 := (hS.1).at_ (j := 0) rfl; have c0_1 := (hS.1).at_ (j := 1) rfl; have c0' := cell_nw hS.2 c0; have c1' := cell_nw hS.2 c1; have c2' := cell_nw hS.2 c2; have c3' := cell_nw hS.2 c3; have c4' := cell_nw hS.2 c4; have c5' := cell_nw hS.2 c5; have c6' := cell_nw hS.2 c6; clear hS; first | (go_simp; done) | (go_simp; with_reducible rfl))
      try simp only [Act.put, List.setIfInBounds_toArray, List.set_cons_zero, List.set_cons_succ]
      refine wpAnyH_take (i := 3) (oi := ⟨some 17, _, _, _, _, _⟩) (v := ?_) rfl (by kernel_rfl) (by kernel_rfl) (by kernel_rfl) (fun _ _ _ h => h) (Or.inl ⟨by kernel_rfl, ?_⟩) hHeld ?_
      rotate_left
      focus (intro W hS; have c0_0 := (hS.1).at_ (j := 0) rfl; have c0_1 := (hS.1).at_ (j := 1) rfl; have c0' := cell_nw hS.2 c0; have c1' := cell_nw hS.2 c1; have c2' := cell_nw hS.2 c2; have c3' := cell_nw hS.2 c3; have c4' := cell_nw hS.2 c4; have c5' := cell_nw hS.2 c5; have c6' := cell_nw hS.2 c6; clear hS; first | (go_simp; done) | (go_simp; with_reducible rfl))
      try simp only [Act.put, List.setIfInBounds_toArray, List.set_cons_zero, List.set_cons_succ]
      refine wpAnyH_ready (rs := [4]) (by kernel_rfl) (by simp) ?_
      refine AllReadyH.cons (o := ⟨some 18, _, _, _, _, _⟩) rfl (fun K hK => ?_) AllReadyH.nil
      go_simp
      refine Calls.mono (C0.out _) ?_
      rintro e x1 ⟨rfl, hb1⟩
      refine hK.out _ _ ⟨hHeld.1.new hb1, below_trans hHeld.2 hb1 (Nat.le_refl _)⟩ (fun hHeld' => ?_)
      clear hK K hHeld hb1
      have hHeld := hHeld'
      clear hHeld'
      try simp only [Act.put, List.setIfInBounds_toArray, List.set_cons_zero, List.set_cons_succ]
      cases r
      · skip
        refine wpAnyH_take (i := 5) (oi := ⟨some 19, _, _, _, _, _⟩) (v := ?_) rfl (by kernel_rfl) (by kernel_rfl) (by kernel_rfl) (fun _ _ _ h => h) (Or.inl ⟨by kernel_rfl, ?_⟩) hHeld ?_
        rotate_left
        focus (intro W hS; have c0_0 := (hS.1).at_ (j := 0) rfl; have c0_1 := (hS.1).at_ (j := 1) rfl; have c0' := cell_nw hS.2 c0; have c1' := cell_nw hS.2 c1; have c2' := cell_nw hS.2 c2; have c3' := cell_nw hS.2 c3; have c4' := cell_nw hS.2 c4; have c5' := cell_nw hS.2 c5; have c6' := cell_nw hS.2 c6; clear hS; first | (go_simp; done) | (go_simp; with_reducible rfl))
        try simp only [Act.put, List.setIfInBounds_toArray, List.set_cons_zero, List.set_cons_succ]
        refine wpAnyH_take (i := 6) (oi := ⟨some 20, _, _, _, _, _⟩) (v := ?_) rfl (by kernel_rfl) (by kernel_rfl) (by kernel_rfl) (fun _ _ _ h => h) (Or.inl ⟨by kernel_rfl, ?_⟩) hHeld ?_
        rotate_left
        focus (intro W hS; have c0_0 := (hS.1).at_ (j := 0) rfl; have c0_1 := (hS.1).at_ (j := 1) rfl; have c0' := cell_nw hS.2 c0; have c1' := cell_nw hS.2 c1; have c2' := cell_nw hS.2 c2; have c3' := cell_nw hS.2 c3; have c4' := cell_nw hS.2 c4; have c5' := cell_nw hS.2 c5; have c6' := cell_nw hS.2 c6; clear hS; first | (go_simp; done) | (go_simp; with_reducible rfl))
        try simp only [Act.put, List.setIfInBounds_toArray, List.set_cons_zero, List.set_cons_succ]
        refine wpAnyH_take (i := 7) (oi := ⟨some 21, _, _, _, _, _⟩) (v := undef) rfl (by kernel_rfl) (by kernel_rfl) (by kernel_rfl) (fun _ _ _ h => h) (Or.inr ⟨by kernel_rfl, rfl⟩) hHeld ?_
        try simp only [Act.put, List.setIfInBounds_toArray, List.set_cons_zero, List.set_cons_succ]
        refine wpAnyH_take (i := 8) (oi := ⟨some 22, _, _, _, _, _⟩) (v := undef) rfl (by kernel_rfl) (by kernel_rfl) (by kernel_rfl) (fun _ _ _ h => h) (Or.inr ⟨by kernel_rfl, rfl⟩) hHeld ?_
        try simp only [Act.put, List.setIfInBounds_toArray, List.set_cons_zero, List.set_cons_succ]
        refine wpAnyH_take (i := 9) (oi := ⟨some 23, _, _, _, _, _⟩) (v := undef) rfl (by kernel_rfl) (by kernel_rfl) (by kernel_rfl) (fun _ _ _ h => h) (Or.inr ⟨by kernel_rfl, rfl⟩) hHeld ?_
        try simp only [Act.put, List.setIfInBounds_toArray, List.set_cons_zero, List.set_cons_succ]
        refine wpAnyH_take (i := 10) (oi := ⟨some 24, _, _, _, _, _⟩) (v := undef) rfl (by kernel_rfl) (by kernel_rfl) (by kernel_rfl) (fun _ _ _ h => h) (Or.inr ⟨by kernel_rfl, rfl⟩) hHeld ?_
        try simp only [Act.put, List.setIfInBounds_toArray, List.set_cons_zero, List.set_cons_succ]
        refine wpAnyH_take (i := 11) (oi := ⟨some 25, _, _, _, _, _⟩) (v := undef) rfl (by kernel_rfl) (by kernel_rfl) (by kernel_rfl) (fun _ _ _ h => h) (Or.inr ⟨by kernel_rfl, rfl⟩) hHeld ?_
        try simp only [Act.put, List.setIfInBounds_toArray, List.set_cons_zero, List.set_cons_succ]
        refine wpAnyH_take (i := 12) (oi := ⟨some 26, _, _, _, _, _⟩) (v := undef) rfl (by kernel_rfl) (by kernel_rfl) (by kernel_rfl) (fun _ _ _ h => h) (Or.inr ⟨by kernel_rfl, rfl⟩) hHeld ?_
        try simp only [Act.put, List.setIfInBounds_toArray, List.set_cons_zero, List.set_cons_succ]
        refine wpAnyH_take (i := 13) (oi := ⟨some 27, _, _, _, _, _⟩) (v := undef) rfl (by kernel_rfl) (by kernel_rfl) (by kernel_rfl) (fun _ _ _ h => h) (Or.inr ⟨by kernel_rfl, rfl⟩) hHeld ?_
        try simp only [Act.put, List.setIfInBounds_toArray, List.set_cons_zero, List.set_cons_succ]
        refine wpAnyH_take (i := 14) (oi := ⟨some 28, _, _, _, _, _⟩) (v := undef) rfl (by kernel_rfl) (by kernel_rfl) (by kernel_rfl) (fun _ _ _ h => h) (Or.inr ⟨by kernel_rfl, rfl⟩) hHeld ?_
        try simp only [Act.put, List.setIfInBounds_toArray, List.set_cons_zero, List.set_cons_succ]
        refine wpAnyH_take (i := 15) (oi := ⟨some 29, _, _, _, _, _⟩) (v := ?_) rfl (by kernel_rfl) (by kernel_rfl) (by kernel_rfl) (fun _ _ _ h => h) (Or.inl ⟨by kernel_rfl, ?_⟩) hHeld ?_
        rotate_left
        focus (intro W hS; have c0_0 := (hS.1).at_ (j := 0) rfl; have c0_1 := (hS.1).at_ (j := 1) rfl; have c0' := cell_nw hS.2 c0; have c1' := cell_nw hS.2 c1; have c2' := cell_nw hS.2 c2; have c3' := cell_nw hS.2 c3; have c4' := cell_nw hS.2 c4; have c5' := cell_nw hS.2 c5; have c6' := cell_nw hS.2 c6; clear hS; first | (go_simp; done) | (go_simp; with_reducible rfl))
        try simp only [Act.put, List.setIfInBounds_toArray, List.set_cons_zero, List.set_cons_succ]
        refine wpAnyH_done (by kernel_rfl) ?_ _
        have d0 := cell_nw hHeld.2 c0
        have d1 := cell_nw hHeld.2 c1
        have d2 := cell_nw hHeld.2 c2
        have d3 := cell_nw hHeld.2 c3
        have d4 := cell_nw hHeld.2 c4
        have d5 := cell_nw hHeld.2 c5
        have d6 := cell_nw hHeld.2 c6
        have hbx := World.block_lt_of_cell? _ _ d0
        have HO1 := Lib.hid (own_newer HO.out hHeld.2)
        have HB1 := Lib.hid (below_trans HB.out hHeld.2 (Nat.le_of_eq HS0.out.symm))
        have HS1 := Lib.hid HB1.out.size
        clear hHeld c0 c1 c2 c3 c4 c5 c6
        go_wp2_with (at_builtin; refine wp_app_lit rfl _ _ _ rfl (w.heap.size + 1) 122 (.agg #[.int .i64 0, .int .i64 0, .int .i64 0, .int .i64 0, .int .i64 0, .int .i64 0, .bool false]) 7 56 Try.underlying50 infoGrant rfl (by decide) _ _ _ rfl HO1.out #[.int .i64 x.f0, .int .i64 x.f1, .int .i64 x.f2, .int .i64 x.f3, .int .i64 x.f4, .int .i64 x.f5, .bool x.f6] 1 1 _ rfl (by simp) rfl (onesGrant x) (by have := HN.out; unfold maxLen; omega) (by have := HN.out; omega) (by have := HS1.out; simp at this; omega) ?_; intro v1 w2 ho1 hb1)
        have HO2 := Lib.hid (show w2.ownsRow (w.heap.size + 1) 122 7 v1 ((l.take (k + 1)).filter P).length (cGrant ((l.take (k + 1)).filter P)) by
          rw [HEt.out (by simp)]
          simpa [cGrant, TGrant.cells, List.flatMap_append] using ho1)
        have HB2 := Lib.hid (HB1.out.trans hb1)
        clear ho1 hb1
        go_wp2_with fail
        go_roundg (n - (k + 1))
        case measure => omega
        case rel => exact ⟨k + 1, by omega, by omega, by go_num, HO2.out, HB2⟩
      · skip
        refine wpAnyH_take (i := 5) (oi := ⟨some 19, _, _, _, _, _⟩) (v := ?_) rfl (by kernel_rfl) (by kernel_rfl) (by kernel_rfl) (fun _ _ _ h => h) (Or.inl ⟨by kernel_rfl, ?_⟩) hHeld ?_
        rotate_left
        focus (intro W hS; have c0_0 := (hS.1).at_ (j := 0) rfl; have c0_1 := (hS.1).at_ (j := 1) rfl; have c0' := cell_nw hS.2 c0; have c1' := cell_nw hS.2 c1; have c2' := cell_nw hS.2 c2; have c3' := cell_nw hS.2 c3; have c4' := cell_nw hS.2 c4; have c5' := cell_nw hS.2 c5; have c6' := cell_nw hS.2 c6; clear hS; first | (go_simp; done) | (go_simp; with_reducible rfl))
        try simp only [Act.put, List.setIfInBounds_toArray, List.set_cons_zero, List.set_cons_succ]
        refine wpAnyH_take (i := 6) (oi := ⟨some 20, _, _, _, _, _⟩) (v := ?_) rfl (by kernel_rfl) (by kernel_rfl) (by kernel_rfl) (fun _ _ _ h => h) (Or.inl ⟨by kernel_rfl, ?_⟩) hHeld ?_
        rotate_left
        focus (intro W hS; have c0_0 := (hS.1).at_ (j := 0) rfl; have c0_1 := (hS.1).at_ (j := 1) rfl; have c0' := cell_nw hS.2 c0; have c1' := cell_nw hS.2 c1; have c2' := cell_nw hS.2 c2; have c3' := cell_nw hS.2 c3; have c4' := cell_nw hS.2 c4; have c5' := cell_nw hS.2 c5; have c6' := cell_nw hS.2 c6; clear hS; first | (go_simp; done) | (go_simp; with_reducible rfl))
        try simp only [Act.put, List.setIfInBounds_toArray, List.set_cons_zero, List.set_cons_succ]
        refine wpAnyH_take (i := 7) (oi := ⟨some 21, _, _, _, _, _⟩) (v := ?_) rfl (by kernel_rfl) (by kernel_rfl) (by kernel_rfl) (fun _ _ _ h => h) (Or.inl ⟨by kernel_rfl, ?_⟩) hHeld ?_
        rotate_left
        focus (intro W hS; have c0_0 := (hS.1).at_ (j := 0) rfl; have c0_1 := (hS.1).at_ (j := 1) rfl; have c0' := cell_nw hS.2 c0; have c1' := cell_nw hS.2 c1; have c2' := cell_nw hS.2 c2; have c3' := cell_nw hS.2 c3; have c4' := cell_nw hS.2 c4; have c5' := cell_nw hS.2 c5; have c6' := cell_nw hS.2 c6; clear hS; first | (go_simp; done) | (go_simp; with_reducible rfl))
        try simp only [Act.put, List.setIfInBounds_toArray, List.set_cons_zero, List.set_cons_succ]
        refine wpAnyH_take (i := 8) (oi := ⟨some 22, _, _, _, _, _⟩) (v := ?_) rfl (by kernel_rfl) (by kernel_rfl) (by kernel_rfl) (fun _ _ _ h => h) (Or.inl ⟨by kernel_rfl, ?_⟩) hHeld ?_
        rotate_left
        focus (intro W hS; have c0_0 := (hS.1).at_ (j := 0) rfl; have c0_1 := (hS.1).at_ (j := 1) rfl; have c0' := cell_nw hS.2 c0; have c1' := cell_nw hS.2 c1; have c2' := cell_nw hS.2 c2; have c3' := cell_nw hS.2 c3; have c4' := cell_nw hS.2 c4; have c5' := cell_nw hS.2 c5; have c6' := cell_nw hS.2 c6; clear hS; first | (go_simp; done) | (go_simp; with_reducible rfl))
        try simp only [Act.put, List.setIfInBounds_toArray, List.set_cons_zero, List.set_cons_succ]
        refine wpAnyH_take (i := 9) (oi := ⟨some 23, _, _, _, _, _⟩) (v := ?_) rfl (by kernel_rfl) (by kernel_rfl) (by kernel_rfl) (fun _ _ _ h => h) (Or.inl ⟨by kernel_rfl, ?_⟩) hHeld ?_
        rotate_left
        focus (intro W hS; have c0_0 := (hS.1).at_ (j := 0) rfl; have c0_1 := (hS.1).at_ (j := 1) rfl; have c0' := cell_nw hS.2 c0; have c1' := cell_nw hS.2 c1; have c2' := cell_nw hS.2 c2; have c3' := cell_nw hS.2 c3; have c4' := cell_nw hS.2 c4; have c5' := cell_nw hS.2 c5; have c6' := cell_nw hS.2 c6; clear hS; first | (go_simp; done) | (go_simp; with_reducible rfl))
        try simp only [Act.put, List.setIfInBounds_toArray, List.set_cons_zero, List.set_cons_succ]
        refine wpAnyH_take (i := 10) (oi := ⟨some 24, _, _, _, _, _⟩) (v := ?_) rfl (by kernel_rfl) (by kernel_rfl) (by kernel_rfl) (fun _ _ _ h => h) (Or.inl ⟨by kernel_rfl, ?_⟩) hHeld ?_
        rotate_left
        focus (intro W hS; have c0_0 := (hS.1).at_ (j := 0) rfl; have c0_1 := (hS.1).at_ (j := 1) rfl; have c0' := cell_nw hS.2 c0; have c1' := cell_nw hS.2 c1; have c2' := cell_nw hS.2 c2; have c3' := cell_nw hS.2 c3; have c4' := cell_nw hS.2 c4; have c5' := cell_nw hS.2 c5; have c6' := cell_nw hS.2 c6; clear hS; first | (go_simp; done) | (go_simp; with_reducible rfl))
        try simp only [Act.put, List.setIfInBounds_toArray, List.set_cons_zero, List.set_cons_succ]
        refine wpAnyH_take (i := 11) (oi := ⟨some 25, _, _, _, _, _⟩) (v := ?_) rfl (by kernel_rfl) (by kernel_rfl) (by kernel_rfl) (fun _ _ _ h => h) (Or.inl ⟨by kernel_rfl, ?_⟩) hHeld ?_
        rotate_left
        focus (intro W hS; have c0_0 := (hS.1).at_ (j := 0) rfl; have c0_1 := (hS.1).at_ (j := 1) rfl; have c0' := cell_nw hS.2 c0; have c1' := cell_nw hS.2 c1; have c2' := cell_nw hS.2 c2; have c3' := cell_nw hS.2 c3; have c4' := cell_nw hS.2 c4; have c5' := cell_nw hS.2 c5; have c6' := cell_nw hS.2 c6; clear hS; first | (go_simp; done) | (go_simp; with_reducible rfl))
        try simp only [Act.put, List.setIfInBounds_toArray, List.set_cons_zero, List.set_cons_succ]
        refine wpAnyH_take (i := 12) (oi := ⟨some 26, _, _, _, _, _⟩) (v := ?_) rfl (by kernel_rfl) (by kernel_rfl) (by kernel_rfl) (fun _ _ _ h => h) (Or.inl ⟨by kernel_rfl, ?_⟩) hHeld ?_
        rotate_left
        focus (intro W hS; have c0_0 := (hS.1).at_ (j := 0) rfl; have c0_1 := (hS.1).at_ (j := 1) rfl; have c0' := cell_nw hS.2 c0; have c1' := cell_nw hS.2 c1; have c2' := cell_nw hS.2 c2; have c3' := cell_nw hS.2 c3; have c4' := cell_nw hS.2 c4; have c5' := cell_nw hS.2 c5; have c6' := cell_nw hS.2 c6; clear hS; first | (go_simp; done) | (go_simp; with_reducible rfl))
        try simp only [Act.put, List.setIfInBounds_toArray, List.set_cons_zero, List.set_cons_succ]
        refine wpAnyH_ready (rs := [13]) (by kernel_rfl) (by simp) ?_
        refine AllReadyH.cons (o := ⟨some 27, _, _, _, _, _⟩) rfl (fun K hK => ?_) AllReadyH.nil
        go_simp
        refine Calls.mono (C1.out _) ?_
        rintro e x2 ⟨rfl, hb1⟩
        refine hK.out _ _ ⟨hHeld.1.new hb1, below_trans hHeld.2 hb1 (Nat.le_refl _)⟩ (fun hHeld' => ?_)
        clear hK K hHeld hb1
        have hHeld := hHeld'
        clear hHeld'
        try simp only [Act.put, List.setIfInBounds_toArray, List.set_cons_zero, List.set_cons_succ]
        cases q
        · skip
          refine wpAnyH_take (i := 14) (oi := ⟨some 28, _, _, _, _, _⟩) (v := ?_) rfl (by kernel_rfl) (by kernel_rfl) (by kernel_rfl) (fun _ _ _ h => h) (Or.inl ⟨by kernel_rfl, ?_⟩) hHeld ?_
          rotate_left
          focus (intro W hS; have c0_0 := (hS.1).at_ (j := 0) rfl; have c0_1 := (hS.1).at_ (j := 1) rfl; have c0' := cell_nw hS.2 c0; have c1' := cell_nw hS.2 c1; have c2' := cell_nw hS.2 c2; have c3' := cell_nw hS.2 c3; have c4' := cell_nw hS.2 c4; have c5' := cell_nw hS.2 c5; have c6' := cell_nw hS.2 c6; clear hS; first | (go_simp; done) | (go_simp; with_reducible rfl))
          try simp only [Act.put, List.setIfInBounds_toArray, List.set_cons_zero, List.set_cons_succ]
          refine wpAnyH_take (i := 15) (oi := ⟨some 29, _, _, _, _, _⟩) (v := ?_) rfl (by kernel_rfl) (by kernel_rfl) (by kernel_rfl) (fun _ _ _ h => h) (Or.inl ⟨by kernel_rfl, ?_⟩) hHeld ?_
          rotate_left
          focus (intro W hS; have c0_0 := (hS.1).at_ (j := 0) rfl; have c0_1 := (hS.1).at_ (j := 1) rfl; have c0' := cell_nw hS.2 c0; have c1' := cell_nw hS.2 c1; have c2' := cell_nw hS.2 c2; have c3' := cell_nw hS.2 c3; have c4' := cell_nw hS.2 c4; have c5' := cell_nw hS.2 c5; have c6' := cell_nw hS.2 c6; clear hS; first | (go_simp; done) | (go_simp; with_reducible rfl))
          try simp only [Act.put, List.setIfInBounds_toArray, List.set_cons_zero, List.set_cons_succ]
          refine wpAnyH_done (by kernel_rfl) ?_ _
          have d0 := cell_nw hHeld.2 c0
          have d1 := cell_nw hHeld.2 c1
          have d2 := cell_nw hHeld.2 c2
          have d3 := cell_nw hHeld.2 c3
          have d4 := cell_nw hHeld.2 c4
          have d5 := cell_nw hHeld.2 c5
          have d6 := cell_nw hHeld.2 c6
          have hbx := World.block_lt_of_cell? _ _ d0
          have HO1 := Lib.hid (own_newer HO.out hHeld.2)
          have HB1 := Lib.hid (below_trans HB.out hHeld.2 (Nat.le_of_eq HS0.out.symm))
          have HS1 := Lib.hid HB1.out.size
          clear hHeld c0 c1 c2 c3 c4 c5 c6
          go_wp2_with (at_builtin; refine wp_app_lit rfl _ _ _ rfl (w.heap.size + 1) 122 (.agg #[.int .i64 0, .int .i64 0, .int .i64 0, .int .i64 0, .int .i64 0, .int .i64 0, .bool false]) 7 56 Try.underlying50 infoGrant rfl (by decide) _ _ _ rfl HO1.out #[.int .i64 x.f0, .int .i64 x.f1, .int .i64 x.f2, .int .i64 x.f3, .int .i64 x.f4, .int .i64 x.f5, .bool x.f6] 1 1 _ rfl (by simp) rfl (onesGrant x) (by have := HN.out; unfold maxLen; omega) (by have := HN.out; omega) (by have := HS1.out; simp at this; omega) ?_; intro v1 w2 ho1 hb1)
          have HO2 := Lib.hid (show w2.ownsRow (w.heap.size + 1) 122 7 v1 ((l.take (k + 1)).filter P).length (cGrant ((l.take (k + 1)).filter P)) by
            rw [HEt.out (by simp)]
            simpa [cGrant, TGrant.cells, List.flatMap_append] using ho1)
          have HB2 := Lib.hid (HB1.out.trans hb1)
          clear ho1 hb1
          go_wp2_with fail
          go_roundg (n - (k + 1))
          case measure => omega
          case rel => exact ⟨k + 1, by omega, by omega, by go_num, HO2.out, HB2⟩
        · skip
          refine wpAnyH_take (i := 14) (oi := ⟨some 28, _, _, _, _, _⟩) (v := ?_) rfl (by kernel_rfl) (by kernel_rfl) (by kernel_rfl) (fun _ _ _ h => h) (Or.inl ⟨by kernel_rfl, ?_⟩) hHeld ?_
          rotate_left
          focus (intro W hS; have c0_0 := (hS.1).at_ (j := 0) rfl; have c0_1 := (hS.1).at_ (j := 1) rfl; have c0' := cell_nw hS.2 c0; have c1' := cell_nw hS.2 c1; have c2' := cell_nw hS.2 c2; have c3' := cell_nw hS.2 c3; have c4' := cell_nw hS.2 c4; have c5' := cell_nw hS.2 c5; have c6' := cell_nw hS.2 c6; clear hS; first | (go_simp; done) | (go_simp; with_reducible rfl))
          try simp only [Act.put, List.setIfInBounds_toArray, List.set_cons_zero, List.set_cons_succ]
          refine wpAnyH_take (i := 15) (oi := ⟨some 29, _, _, _, _, _⟩) (v := ?_) rfl (by kernel_rfl) (by kernel_rfl) (by kernel_rfl) (fun _ _ _ h => h) (Or.inl ⟨by kernel_rfl, ?_⟩) hHeld ?_
          rotate_left
          focus (intro W hS; have c0_0 := (hS.1).at_ (j := 0) rfl; have c0_1 := (hS.1).at_ (j := 1) rfl; have c0' := cell_nw hS.2 c0; have c1' := cell_nw hS.2 c1; have c2' := cell_nw hS.2 c2; have c3' := cell_nw hS.2 c3; have c4' := cell_nw hS.2 c4; have c5' := cell_nw hS.2 c5; have c6' := cell_nw hS.2 c6; clear hS; first | (go_simp; done) | (go_simp; with_reducible rfl))
          try simp only [Act.put, List.setIfInBounds_toArray, List.set_cons_zero, List.set_cons_succ]
          refine wpAnyH_done (by kernel_rfl) ?_ _
          have HO1 := Lib.hid (own_newer HO.out hHeld.2)
          have HB1 := Lib.hid (below_trans HB.out hHeld.2 (Nat.le_of_eq HS0.out.symm))
          clear hHeld
          go_wp2_with fail
          go_roundg (n - (k + 1))
          case measure => omega
          case rel => exact ⟨k + 1, by omega, by omega, by go_num, by rw [HEf.out (by simp)]; exact HO1.out, HB1⟩
    · obtain rfl : k = n := by omega
      have HO2 := HO.out
      rw [List.take_of_length_le (by rw [HL.out]; omega)] at HO2
      replace HO2 := Lib.hid HO2
      have HBe := Lib.hid (below_trans ((Below.refl w.heap.size w).alloc (Nat.le_refl _) (.cells #[.int .i64 s.f0, .int .i64 s.f1] 53)) hbw (Nat.le_refl _))
      clear hbw
      go_wp2_with fail
      go_ret
      exact makes_of_own (own_base HO2.out (Nat.le_succ _)) HBe.out

end Go.Proofs.Ythipflbjnnplaab
