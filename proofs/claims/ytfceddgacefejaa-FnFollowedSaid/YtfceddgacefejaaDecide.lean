/- DecideRule, of the program and of the model. -/
import Derived.Test.YtfceddgacefejaaBest
import Derived.Deep.RegionHeld3
import Derived.Deep.LoopGhost
namespace Go.Proofs.Ytfceddgacefejaa
open Go Go.ChangeShapes Go.WideShapes Go.ChangeAt Go.RowKit Go.Lib
set_option linter.unusedVariables false
set_option linter.unusedSimpArgs false
set_option maxRecDepth 100000
set_option maxHeartbeats 4000000 in
theorem clo_Decide (q : TRequest) (B : Nat) (l : List TRule) (w0 : World) (h0 : BoxAt w0 B 57 #[.int .i64 q.f0, .int .i64 q.f1, .int .i64 q.f2]) :
    PredB Try.prog 140 #[.pointer (some ⟨B, 0, none⟩)] vRule (fun r => mApplies r q) l w0 := fun w x _ hb => by
  have C0 := Lib.hid (fun W => impl_Applies x q W)
  have J := h0.new hb
  have hlt := J.lt
  have c0 := J.at_ (j := 0) rfl
  have c1 := J.at_ (j := 1) rfl
  have c2 := J.at_ (j := 2) rfl
  clear h0 hb J
  change Calls Try.prog _ #[vRule x, .pointer (some ⟨B, 0, none⟩)] _ (Says (.bool (mApplies x q)) w)
  generalize mApplies x q = r at C0 ⊢
  go_enter Try.func140, Try.ntmps140
  go_wp2_with fail
  refine Calls.mono (C0.out _) ?_
  rintro e w1 ⟨rfl, hb1⟩
  have HB1 := Lib.hid (below_trans ((Below.refl _ _).alloc (Nat.le_refl _) _) hb1 (by simp))
  clear hb1
  go_wp2_with fail
  go_ret
  exact ⟨rfl, HB1.out⟩
set_option maxHeartbeats 4000000 in
theorem impl_DecideRule (l : List TRule) (A : Option Addr) (n c lo hi : Nat) (q : TRequest) (w : World) (hn : n ≤ 1048576) (hr : Rd w lo hi 8 A n (cRule l)) (H : Hid (cRuleOk l)) :
    Calls Try.prog 36 #[.slice A n c, vReq q] w (Says (.int .i64 (mDecide l q)) w) := by
  have hmf : ∀ (fn : Fn) (first cap : Array Value) (w : World), (Instr.makeFunc fn first cap).run Try.prog w = .ok (.func fn first cap) w := fun _ _ _ _ => rfl
  have HC := foremost_Rule (fun r => mApplies r q) _ l A n c lo hi _ (by omega) (hr.alloc _) (clo_Decide q w.heap.size l _ (box_new w 57 #[.int .i64 q.f0, .int .i64 q.f1, .int .i64 q.f2]))
  change Calls _ _ _ _ (Says (.int .i64 (mDecide l q)) _) at HC
  generalize mDecide l q = z at HC ⊢
  clear hr
  replace HC := Lib.hid HC
  go_enter Try.func36, Try.ntmps36
  go_wp2_with fail
  refine Calls.mono HC.out ?_
  rintro e w1 ⟨rfl, hb1⟩
  have HB1 := Lib.hid (below_trans ((Below.refl _ _).alloc (Nat.le_refl _) _) hb1 (by simp))
  clear hb1
  go_wp2_with fail
  go_ret
  exact ⟨rfl, HB1.out⟩

set_option maxHeartbeats 40000000 in
theorem spec_DecideRule (l : List TRule) (A : Option Addr) (n c lo hi : Nat) (q : TRequest) (w : World) (hn : n ≤ 1048576) (hr : Rd w lo hi 8 A n (cRule l)) (H : Hid (cRuleOk l)) :
    Calls Try.prog 37 #[.slice A n c, vReq q] w (Says (.int .i64 (mDecide l q)) w) := by
  have HL := Lib.hid (rd_len TRule.len hr (by decide))
  have HR := Lib.hid hr
  clear hr
  have HBx := Lib.hid (box_new w 57 #[.int .i64 q.f0, .int .i64 q.f1, .int .i64 q.f2])
  generalize hp : (fun r => mApplies r q) = p
  have HP := Lib.hid hp
  have HM := Lib.hid (show mDecide l q = bestOf p mIsBefore l l.length by rw [← hp]; rfl)
  clear hp
  go_enter Try.func37, Try.ntmps37
  go_wp2_with fail
  go_loopg [5, 6] n (fun gg bv i wr => ∃ (k : Nat) (z : Int), k ≤ n ∧ n - k ≤ gg ∧ i = .int .i64 k ∧ bv = .int .i64 z ∧ Hid (bestOf p mIsBefore l k = z) ∧ Hid (Below w.heap.size w wr) ∧ Hid (BoxAt wr w.heap.size 57 #[.int .i64 q.f0, .int .i64 q.f1, .int .i64 q.f2]))
  case atStart => exact ⟨0, -1, Nat.zero_le _, by omega, rfl, rfl, Lib.hid rfl, Lib.hid ((Below.refl _ _).alloc (Nat.le_refl _) _), HBx⟩
  case round =>
    obtain ⟨k, z, hk, hg, rfl, rfl, HZb, HB, HX⟩ := hrel
    by_cases hlt : k < n
    · obtain ⟨b, off, x, rfl, _, _, hz, hc⟩ := rd_elem TRule.len (HR.out.new HB.out) HL.out hlt
      have c0 : wr.cell? ⟨b, off + k * 8, none⟩ = _ := hc 0 _ rfl
      have c1 : wr.cell? ⟨b, off + k * 8 + 1, none⟩ = _ := hc 1 _ rfl
      have c2 : wr.cell? ⟨b, off + k * 8 + 2, none⟩ = _ := hc 2 _ rfl
      have c3 : wr.cell? ⟨b, off + k * 8 + 3, none⟩ = _ := hc 3 _ rfl
      have c4 : wr.cell? ⟨b, off + k * 8 + 4, none⟩ = _ := hc 4 _ rfl
      have c5 : wr.cell? ⟨b, off + k * 8 + 5, none⟩ = _ := hc 5 _ rfl
      have c6 : wr.cell? ⟨b, off + k * 8 + 6, none⟩ = _ := hc 6 _ rfl
      have c7 : wr.cell? ⟨b, off + k * 8 + 7, none⟩ = _ := hc 7 _ rfl
      have HZ := Lib.hid hz
      have HD := Lib.hid (fun m y (h : l[m]? = some y) (hm : m < n) => (rd_at8 (HR.out.new HB.out) HL.out h hm))
      clear hc hz
      have C0 := fun W => spec_Applies x q W
      have hpx : mApplies x q = p x := by rw [← HP.out]
      rw [hpx] at C0
      clear hpx
      have hzb := best_bd (p := p) (lt := mIsBefore) (l := l) k
      rw [HZb.out] at hzb
      have HEn := best_no (lt := mIsBefore) (p := p) HZ.out
      rw [HZb.out] at HEn
      rcases (by omega : z = -1 ∨ 0 ≤ z) with rfl | hz0
      · have HEy := fun h => best_first (lt := mIsBefore) (p := p) HZ.out h HZb.out
        have C1 := fun W => spec_IsBefore x x W
        generalize p x = r1 at C0 HEn HEy
        generalize mIsBefore x x = r2 at C1
        replace C0 := Lib.hid C0
        replace C1 := Lib.hid C1
        replace HEn := Lib.hid HEn
        replace HEy := Lib.hid HEy
        clear hzb
        go_wp2_with fail
        refine wp_region_held_drew (S := fun w' => BoxAt w' w.heap.size 57 #[.int .i64 q.f0, .int .i64 q.f1, .int .i64 q.f2] ∧ Below wr.heap.size wr w') (by kernel_rfl) ?_ (fun hHeld => ?_)
        · exact ⟨HX.out.drw, (Below.refl _ _).drew⟩
        refine wpAnyH_take (i := 0) (oi := ⟨some 13, _, _, _, _, _⟩) (v := ?_) rfl (by kernel_rfl) (by kernel_rfl) (by kernel_rfl) (fun _ _ _ h => h) (Or.inl ⟨by kernel_rfl, ?_⟩) hHeld ?_
        rotate_left
        focus (intro W hS; have c0_0 := (hS.1).at_ (j := 0) rfl; have c0_1 := (hS.1).at_ (j := 1) rfl; have c0_2 := (hS.1).at_ (j := 2) rfl; have c0' := cell_nw hS.2 c0; have c1' := cell_nw hS.2 c1; have c2' := cell_nw hS.2 c2; have c3' := cell_nw hS.2 c3; have c4' := cell_nw hS.2 c4; have c5' := cell_nw hS.2 c5; have c6' := cell_nw hS.2 c6; have c7' := cell_nw hS.2 c7; clear hS; first | (go_simp; done) | (go_simp; with_reducible rfl))
        try simp only [Act.put, List.setIfInBounds_toArray, List.set_cons_zero, List.set_cons_succ]
        refine wpAnyH_take (i := 1) (oi := ⟨some 14, _, _, _, _, _⟩) (v := ?_) rfl (by kernel_rfl) (by kernel_rfl) (by kernel_rfl) (fun _ _ _ h => h) (Or.inl ⟨by kernel_rfl, ?_⟩) hHeld ?_
        rotate_left
        focus (intro W hS; have c0_0 := (hS.1).at_ (j := 0) rfl; have c0_1 := (hS.1).at_ (j := 1) rfl; have c0_2 := (hS.1).at_ (j := 2) rfl; have c0' := cell_nw hS.2 c0; have c1' := cell_nw hS.2 c1; have c2' := cell_nw hS.2 c2; have c3' := cell_nw hS.2 c3; have c4' := cell_nw hS.2 c4; have c5' := cell_nw hS.2 c5; have c6' := cell_nw hS.2 c6; have c7' := cell_nw hS.2 c7; clear hS; first | (go_simp; done) | (go_simp; with_reducible rfl))
        try simp only [Act.put, List.setIfInBounds_toArray, List.set_cons_zero, List.set_cons_succ]
        refine wpAnyH_take (i := 2) (oi := ⟨some 15, _, _, _, _, _⟩) (v := ?_) rfl (by kernel_rfl) (by kernel_rfl) (by kernel_rfl) (fun _ _ _ h => h) (Or.inl ⟨by kernel_rfl, ?_⟩) hHeld ?_
        rotate_left
        focus (intro W hS; have c0_0 := (hS.1).at_ (j := 0) rfl; have c0_1 := (hS.1).at_ (j := 1) rfl; have c0_2 := (hS.1).at_ (j := 2) rfl; have c0' := cell_nw hS.2 c0; have c1' := cell_nw hS.2 c1; have c2' := cell_nw hS.2 c2; have c3' := cell_nw hS.2 c3; have c4' := cell_nw hS.2 c4; have c5' := cell_nw hS.2 c5; have c6' := cell_nw hS.2 c6; have c7' := cell_nw hS.2 c7; clear hS; first | (go_simp; done) | (go_simp; with_reducible rfl))
        try simp only [Act.put, List.setIfInBounds_toArray, List.set_cons_zero, List.set_cons_succ]
        refine wpAnyH_take (i := 3) (oi := ⟨some 16, _, _, _, _, _⟩) (v := ?_) rfl (by kernel_rfl) (by kernel_rfl) (by kernel_rfl) (fun _ _ _ h => h) (Or.inl ⟨by kernel_rfl, ?_⟩) hHeld ?_
        rotate_left
        focus (intro W hS; have c0_0 := (hS.1).at_ (j := 0) rfl; have c0_1 := (hS.1).at_ (j := 1) rfl; have c0_2 := (hS.1).at_ (j := 2) rfl; have c0' := cell_nw hS.2 c0; have c1' := cell_nw hS.2 c1; have c2' := cell_nw hS.2 c2; have c3' := cell_nw hS.2 c3; have c4' := cell_nw hS.2 c4; have c5' := cell_nw hS.2 c5; have c6' := cell_nw hS.2 c6; have c7' := cell_nw hS.2 c7; clear hS; first | (go_simp; done) | (go_simp; with_reducible rfl))
        try simp only [Act.put, List.setIfInBounds_toArray, List.set_cons_zero, List.set_cons_succ]
        refine wpAnyH_take (i := 4) (oi := ⟨some 17, _, _, _, _, _⟩) (v := ?_) rfl (by kernel_rfl) (by kernel_rfl) (by kernel_rfl) (fun _ _ _ h => h) (Or.inl ⟨by kernel_rfl, ?_⟩) hHeld ?_
        rotate_left
        focus (intro W hS; have c0_0 := (hS.1).at_ (j := 0) rfl; have c0_1 := (hS.1).at_ (j := 1) rfl; have c0_2 := (hS.1).at_ (j := 2) rfl; have c0' := cell_nw hS.2 c0; have c1' := cell_nw hS.2 c1; have c2' := cell_nw hS.2 c2; have c3' := cell_nw hS.2 c3; have c4' := cell_nw hS.2 c4; have c5' := cell_nw hS.2 c5; have c6' := cell_nw hS.2 c6; have c7' := cell_nw hS.2 c7; clear hS; first | (go_simp; done) | (go_simp; with_reducible rfl))
        try simp only [Act.put, List.setIfInBounds_toArray, List.set_cons_zero, List.set_cons_succ]
        refine wpAnyH_ready (rs := [5]) (by kernel_rfl) (by simp) ?_
        refine AllReadyH.cons (o := ⟨some 18, _, _, _, _, _⟩) rfl (fun K hK => ?_) AllReadyH.nil
        go_simp
        refine Calls.mono (C0.out _) ?_
        rintro e x1 ⟨rfl, hb1⟩
        refine hK.out _ _ ⟨hHeld.1.new hb1, below_trans hHeld.2 hb1 (Nat.le_refl _)⟩ (fun hHeld' => ?_)
        clear hK K hHeld hb1
        have hHeld := hHeld'
        clear hHeld'
        try simp only [Act.put, List.setIfInBounds_toArray, List.set_cons_zero, List.set_cons_succ]
        cases r1
        · skip
          refine wpAnyH_take (i := 6) (oi := ⟨some 19, _, _, _, _, _⟩) (v := ?_) rfl (by kernel_rfl) (by kernel_rfl) (by kernel_rfl) (fun _ _ _ h => h) (Or.inl ⟨by kernel_rfl, ?_⟩) hHeld ?_
          rotate_left
          focus (intro W hS; have c0_0 := (hS.1).at_ (j := 0) rfl; have c0_1 := (hS.1).at_ (j := 1) rfl; have c0_2 := (hS.1).at_ (j := 2) rfl; have c0' := cell_nw hS.2 c0; have c1' := cell_nw hS.2 c1; have c2' := cell_nw hS.2 c2; have c3' := cell_nw hS.2 c3; have c4' := cell_nw hS.2 c4; have c5' := cell_nw hS.2 c5; have c6' := cell_nw hS.2 c6; have c7' := cell_nw hS.2 c7; clear hS; first | (go_simp; done) | (go_simp; with_reducible rfl))
          try simp only [Act.put, List.setIfInBounds_toArray, List.set_cons_zero, List.set_cons_succ]
          refine wpAnyH_take (i := 7) (oi := ⟨some 20, _, _, _, _, _⟩) (v := undef) rfl (by kernel_rfl) (by kernel_rfl) (by kernel_rfl) (fun _ _ _ h => h) (Or.inr ⟨by kernel_rfl, rfl⟩) hHeld ?_
          try simp only [Act.put, List.setIfInBounds_toArray, List.set_cons_zero, List.set_cons_succ]
          refine wpAnyH_take (i := 8) (oi := ⟨some 21, _, _, _, _, _⟩) (v := undef) rfl (by kernel_rfl) (by kernel_rfl) (by kernel_rfl) (fun _ _ _ h => h) (Or.inr ⟨by kernel_rfl, rfl⟩) hHeld ?_
          try simp only [Act.put, List.setIfInBounds_toArray, List.set_cons_zero, List.set_cons_succ]
          refine wpAnyH_take (i := 9) (oi := ⟨some 22, _, _, _, _, _⟩) (v := undef) rfl (by kernel_rfl) (by kernel_rfl) (by kernel_rfl) (fun _ _ _ h => h) (Or.inr ⟨by kernel_rfl, rfl⟩) hHeld ?_
          try simp only [Act.put, List.setIfInBounds_toArray, List.set_cons_zero, List.set_cons_succ]
          refine wpAnyH_take (i := 10) (oi := ⟨some 23, _, _, _, _, _⟩) (v := undef) rfl (by kernel_rfl) (by kernel_rfl) (by kernel_rfl) (fun _ _ _ h => h) (Or.inr ⟨by kernel_rfl, rfl⟩) hHeld ?_
          try simp only [Act.put, List.setIfInBounds_toArray, List.set_cons_zero, List.set_cons_succ]
          refine wpAnyH_take (i := 11) (oi := ⟨some 24, _, _, _, _, _⟩) (v := undef) rfl (by kernel_rfl) (by kernel_rfl) (by kernel_rfl) (fun _ _ _ h => h) (Or.inr ⟨by kernel_rfl, rfl⟩) hHeld ?_
          try simp only [Act.put, List.setIfInBounds_toArray, List.set_cons_zero, List.set_cons_succ]
          refine wpAnyH_take (i := 12) (oi := ⟨some 25, _, _, _, _, _⟩) (v := undef) rfl (by kernel_rfl) (by kernel_rfl) (by kernel_rfl) (fun _ _ _ h => h) (Or.inr ⟨by kernel_rfl, rfl⟩) hHeld ?_
          try simp only [Act.put, List.setIfInBounds_toArray, List.set_cons_zero, List.set_cons_succ]
          refine wpAnyH_take (i := 13) (oi := ⟨some 26, _, _, _, _, _⟩) (v := undef) rfl (by kernel_rfl) (by kernel_rfl) (by kernel_rfl) (fun _ _ _ h => h) (Or.inr ⟨by kernel_rfl, rfl⟩) hHeld ?_
          try simp only [Act.put, List.setIfInBounds_toArray, List.set_cons_zero, List.set_cons_succ]
          refine wpAnyH_take (i := 14) (oi := ⟨some 27, _, _, _, _, _⟩) (v := undef) rfl (by kernel_rfl) (by kernel_rfl) (by kernel_rfl) (fun _ _ _ h => h) (Or.inr ⟨by kernel_rfl, rfl⟩) hHeld ?_
          try simp only [Act.put, List.setIfInBounds_toArray, List.set_cons_zero, List.set_cons_succ]
          refine wpAnyH_take (i := 15) (oi := ⟨some 28, _, _, _, _, _⟩) (v := undef) rfl (by kernel_rfl) (by kernel_rfl) (by kernel_rfl) (fun _ _ _ h => h) (Or.inr ⟨by kernel_rfl, rfl⟩) hHeld ?_
          try simp only [Act.put, List.setIfInBounds_toArray, List.set_cons_zero, List.set_cons_succ]
          refine wpAnyH_take (i := 16) (oi := ⟨some 29, _, _, _, _, _⟩) (v := undef) rfl (by kernel_rfl) (by kernel_rfl) (by kernel_rfl) (fun _ _ _ h => h) (Or.inr ⟨by kernel_rfl, rfl⟩) hHeld ?_
          try simp only [Act.put, List.setIfInBounds_toArray, List.set_cons_zero, List.set_cons_succ]
          refine wpAnyH_take (i := 17) (oi := ⟨some 30, _, _, _, _, _⟩) (v := undef) rfl (by kernel_rfl) (by kernel_rfl) (by kernel_rfl) (fun _ _ _ h => h) (Or.inr ⟨by kernel_rfl, rfl⟩) hHeld ?_
          try simp only [Act.put, List.setIfInBounds_toArray, List.set_cons_zero, List.set_cons_succ]
          refine wpAnyH_take (i := 18) (oi := ⟨some 31, _, _, _, _, _⟩) (v := undef) rfl (by kernel_rfl) (by kernel_rfl) (by kernel_rfl) (fun _ _ _ h => h) (Or.inr ⟨by kernel_rfl, rfl⟩) hHeld ?_
          try simp only [Act.put, List.setIfInBounds_toArray, List.set_cons_zero, List.set_cons_succ]
          refine wpAnyH_take (i := 19) (oi := ⟨some 32, _, _, _, _, _⟩) (v := undef) rfl (by kernel_rfl) (by kernel_rfl) (by kernel_rfl) (fun _ _ _ h => h) (Or.inr ⟨by kernel_rfl, rfl⟩) hHeld ?_
          try simp only [Act.put, List.setIfInBounds_toArray, List.set_cons_zero, List.set_cons_succ]
          refine wpAnyH_take (i := 20) (oi := ⟨some 33, _, _, _, _, _⟩) (v := ?_) rfl (by kernel_rfl) (by kernel_rfl) (by kernel_rfl) (fun _ _ _ h => h) (Or.inl ⟨by kernel_rfl, ?_⟩) hHeld ?_
          rotate_left
          focus (intro W hS; have c0_0 := (hS.1).at_ (j := 0) rfl; have c0_1 := (hS.1).at_ (j := 1) rfl; have c0_2 := (hS.1).at_ (j := 2) rfl; have c0' := cell_nw hS.2 c0; have c1' := cell_nw hS.2 c1; have c2' := cell_nw hS.2 c2; have c3' := cell_nw hS.2 c3; have c4' := cell_nw hS.2 c4; have c5' := cell_nw hS.2 c5; have c6' := cell_nw hS.2 c6; have c7' := cell_nw hS.2 c7; clear hS; first | (go_simp; done) | (go_simp; with_reducible rfl))
          try simp only [Act.put, List.setIfInBounds_toArray, List.set_cons_zero, List.set_cons_succ]
          refine wpAnyH_done (by kernel_rfl) ?_ _
          go_wp2_with fail
          go_roundg (n - (k + 1))
          case measure => omega
          case rel => exact ⟨k + 1, -1, by omega, by omega, by go_num, by first | rfl | go_num, Lib.hid (HEn.out (by simp)), Lib.hid (below_trans HB.out hHeld.2 (Nat.le_refl _)), Lib.hid hHeld.1⟩
        · skip
          refine wpAnyH_take (i := 6) (oi := ⟨some 19, _, _, _, _, _⟩) (v := ?_) rfl (by kernel_rfl) (by kernel_rfl) (by kernel_rfl) (fun _ _ _ h => h) (Or.inl ⟨by kernel_rfl, ?_⟩) hHeld ?_
          rotate_left
          focus (intro W hS; have c0_0 := (hS.1).at_ (j := 0) rfl; have c0_1 := (hS.1).at_ (j := 1) rfl; have c0_2 := (hS.1).at_ (j := 2) rfl; have c0' := cell_nw hS.2 c0; have c1' := cell_nw hS.2 c1; have c2' := cell_nw hS.2 c2; have c3' := cell_nw hS.2 c3; have c4' := cell_nw hS.2 c4; have c5' := cell_nw hS.2 c5; have c6' := cell_nw hS.2 c6; have c7' := cell_nw hS.2 c7; clear hS; first | (go_simp; done) | (go_simp; with_reducible rfl))
          try simp only [Act.put, List.setIfInBounds_toArray, List.set_cons_zero, List.set_cons_succ]
          refine wpAnyH_take (i := 7) (oi := ⟨some 20, _, _, _, _, _⟩) (v := ?_) rfl (by kernel_rfl) (by kernel_rfl) (by kernel_rfl) (fun _ _ _ h => h) (Or.inl ⟨by kernel_rfl, ?_⟩) hHeld ?_
          rotate_left
          focus (intro W hS; have c0_0 := (hS.1).at_ (j := 0) rfl; have c0_1 := (hS.1).at_ (j := 1) rfl; have c0_2 := (hS.1).at_ (j := 2) rfl; have c0' := cell_nw hS.2 c0; have c1' := cell_nw hS.2 c1; have c2' := cell_nw hS.2 c2; have c3' := cell_nw hS.2 c3; have c4' := cell_nw hS.2 c4; have c5' := cell_nw hS.2 c5; have c6' := cell_nw hS.2 c6; have c7' := cell_nw hS.2 c7; clear hS; first | (go_simp; done) | (go_simp; with_reducible rfl))
          try simp only [Act.put, List.setIfInBounds_toArray, List.set_cons_zero, List.set_cons_succ]
          refine wpAnyH_take (i := 8) (oi := ⟨some 21, _, _, _, _, _⟩) (v := ?_) rfl (by kernel_rfl) (by kernel_rfl) (by kernel_rfl) (fun _ _ _ h => h) (Or.inl ⟨by kernel_rfl, ?_⟩) hHeld ?_
          rotate_left
          focus (intro W hS; have c0_0 := (hS.1).at_ (j := 0) rfl; have c0_1 := (hS.1).at_ (j := 1) rfl; have c0_2 := (hS.1).at_ (j := 2) rfl; have c0' := cell_nw hS.2 c0; have c1' := cell_nw hS.2 c1; have c2' := cell_nw hS.2 c2; have c3' := cell_nw hS.2 c3; have c4' := cell_nw hS.2 c4; have c5' := cell_nw hS.2 c5; have c6' := cell_nw hS.2 c6; have c7' := cell_nw hS.2 c7; clear hS; first | (go_simp; done) | (go_simp; with_reducible rfl))
          try simp only [Act.put, List.setIfInBounds_toArray, List.set_cons_zero, List.set_cons_succ]
          refine wpAnyH_take (i := 9) (oi := ⟨some 22, _, _, _, _, _⟩) (v := ?_) rfl (by kernel_rfl) (by kernel_rfl) (by kernel_rfl) (fun _ _ _ h => h) (Or.inl ⟨by kernel_rfl, ?_⟩) hHeld ?_
          rotate_left
          focus (intro W hS; have c0_0 := (hS.1).at_ (j := 0) rfl; have c0_1 := (hS.1).at_ (j := 1) rfl; have c0_2 := (hS.1).at_ (j := 2) rfl; have c0' := cell_nw hS.2 c0; have c1' := cell_nw hS.2 c1; have c2' := cell_nw hS.2 c2; have c3' := cell_nw hS.2 c3; have c4' := cell_nw hS.2 c4; have c5' := cell_nw hS.2 c5; have c6' := cell_nw hS.2 c6; have c7' := cell_nw hS.2 c7; clear hS; first | (go_simp; done) | (go_simp; with_reducible rfl))
          try simp only [Act.put, List.setIfInBounds_toArray, List.set_cons_zero, List.set_cons_succ]
          refine wpAnyH_take (i := 10) (oi := ⟨some 23, _, _, _, _, _⟩) (v := undef) rfl (by kernel_rfl) (by kernel_rfl) (by kernel_rfl) (fun _ _ _ h => h) (Or.inr ⟨by kernel_rfl, rfl⟩) hHeld ?_
          try simp only [Act.put, List.setIfInBounds_toArray, List.set_cons_zero, List.set_cons_succ]
          refine wpAnyH_take (i := 11) (oi := ⟨some 24, _, _, _, _, _⟩) (v := undef) rfl (by kernel_rfl) (by kernel_rfl) (by kernel_rfl) (fun _ _ _ h => h) (Or.inr ⟨by kernel_rfl, rfl⟩) hHeld ?_
          try simp only [Act.put, List.setIfInBounds_toArray, List.set_cons_zero, List.set_cons_succ]
          refine wpAnyH_take (i := 12) (oi := ⟨some 25, _, _, _, _, _⟩) (v := undef) rfl (by kernel_rfl) (by kernel_rfl) (by kernel_rfl) (fun _ _ _ h => h) (Or.inr ⟨by kernel_rfl, rfl⟩) hHeld ?_
          try simp only [Act.put, List.setIfInBounds_toArray, List.set_cons_zero, List.set_cons_succ]
          refine wpAnyH_take (i := 13) (oi := ⟨some 26, _, _, _, _, _⟩) (v := undef) rfl (by kernel_rfl) (by kernel_rfl) (by kernel_rfl) (fun _ _ _ h => h) (Or.inr ⟨by kernel_rfl, rfl⟩) hHeld ?_
          try simp only [Act.put, List.setIfInBounds_toArray, List.set_cons_zero, List.set_cons_succ]
          refine wpAnyH_take (i := 14) (oi := ⟨some 27, _, _, _, _, _⟩) (v := undef) rfl (by kernel_rfl) (by kernel_rfl) (by kernel_rfl) (fun _ _ _ h => h) (Or.inr ⟨by kernel_rfl, rfl⟩) hHeld ?_
          try simp only [Act.put, List.setIfInBounds_toArray, List.set_cons_zero, List.set_cons_succ]
          refine wpAnyH_take (i := 15) (oi := ⟨some 28, _, _, _, _, _⟩) (v := undef) rfl (by kernel_rfl) (by kernel_rfl) (by kernel_rfl) (fun _ _ _ h => h) (Or.inr ⟨by kernel_rfl, rfl⟩) hHeld ?_
          try simp only [Act.put, List.setIfInBounds_toArray, List.set_cons_zero, List.set_cons_succ]
          refine wpAnyH_take (i := 16) (oi := ⟨some 29, _, _, _, _, _⟩) (v := undef) rfl (by kernel_rfl) (by kernel_rfl) (by kernel_rfl) (fun _ _ _ h => h) (Or.inr ⟨by kernel_rfl, rfl⟩) hHeld ?_
          try simp only [Act.put, List.setIfInBounds_toArray, List.set_cons_zero, List.set_cons_succ]
          refine wpAnyH_take (i := 17) (oi := ⟨some 30, _, _, _, _, _⟩) (v := undef) rfl (by kernel_rfl) (by kernel_rfl) (by kernel_rfl) (fun _ _ _ h => h) (Or.inr ⟨by kernel_rfl, rfl⟩) hHeld ?_
          try simp only [Act.put, List.setIfInBounds_toArray, List.set_cons_zero, List.set_cons_succ]
          refine wpAnyH_take (i := 18) (oi := ⟨some 31, _, _, _, _, _⟩) (v := undef) rfl (by kernel_rfl) (by kernel_rfl) (by kernel_rfl) (fun _ _ _ h => h) (Or.inr ⟨by kernel_rfl, rfl⟩) hHeld ?_
          try simp only [Act.put, List.setIfInBounds_toArray, List.set_cons_zero, List.set_cons_succ]
          refine wpAnyH_take (i := 19) (oi := ⟨some 32, _, _, _, _, _⟩) (v := ?_) rfl (by kernel_rfl) (by kernel_rfl) (by kernel_rfl) (fun _ _ _ h => h) (Or.inl ⟨by kernel_rfl, ?_⟩) hHeld ?_
          rotate_left
          focus (intro W hS; have c0_0 := (hS.1).at_ (j := 0) rfl; have c0_1 := (hS.1).at_ (j := 1) rfl; have c0_2 := (hS.1).at_ (j := 2) rfl; have c0' := cell_nw hS.2 c0; have c1' := cell_nw hS.2 c1; have c2' := cell_nw hS.2 c2; have c3' := cell_nw hS.2 c3; have c4' := cell_nw hS.2 c4; have c5' := cell_nw hS.2 c5; have c6' := cell_nw hS.2 c6; have c7' := cell_nw hS.2 c7; clear hS; first | (go_simp; done) | (go_simp; with_reducible rfl))
          try simp only [Act.put, List.setIfInBounds_toArray, List.set_cons_zero, List.set_cons_succ]
          refine wpAnyH_take (i := 20) (oi := ⟨some 33, _, _, _, _, _⟩) (v := ?_) rfl (by kernel_rfl) (by kernel_rfl) (by kernel_rfl) (fun _ _ _ h => h) (Or.inl ⟨by kernel_rfl, ?_⟩) hHeld ?_
          rotate_left
          focus (intro W hS; have c0_0 := (hS.1).at_ (j := 0) rfl; have c0_1 := (hS.1).at_ (j := 1) rfl; have c0_2 := (hS.1).at_ (j := 2) rfl; have c0' := cell_nw hS.2 c0; have c1' := cell_nw hS.2 c1; have c2' := cell_nw hS.2 c2; have c3' := cell_nw hS.2 c3; have c4' := cell_nw hS.2 c4; have c5' := cell_nw hS.2 c5; have c6' := cell_nw hS.2 c6; have c7' := cell_nw hS.2 c7; clear hS; first | (go_simp; done) | (go_simp; with_reducible rfl))
          try simp only [Act.put, List.setIfInBounds_toArray, List.set_cons_zero, List.set_cons_succ]
          refine wpAnyH_done (by kernel_rfl) ?_ _
          go_wp2_with fail
          go_roundg (n - (k + 1))
          case measure => omega
          case rel => exact ⟨k + 1, (k : Int), by omega, by omega, by go_num, by first | rfl | go_num, Lib.hid (HEy.out (by simp)), Lib.hid (below_trans HB.out hHeld.2 (Nat.le_refl _)), Lib.hid hHeld.1⟩
      · obtain ⟨m, rfl⟩ : ∃ m : Nat, z = m := ⟨z.toNat, by omega⟩
        have hm : m < n := by omega
        obtain ⟨y, hy⟩ : ∃ y, l[m]? = some y := ⟨l[m]'(by have := HL.out; omega), List.getElem?_eq_getElem _⟩
        have hd := HD.out m y hy hm
        have d0 : wr.cell? ⟨b, off + m * 8, none⟩ = _ := hd 0 _ rfl
        have d1 : wr.cell? ⟨b, off + m * 8 + 1, none⟩ = _ := hd 1 _ rfl
        have d2 : wr.cell? ⟨b, off + m * 8 + 2, none⟩ = _ := hd 2 _ rfl
        have d3 : wr.cell? ⟨b, off + m * 8 + 3, none⟩ = _ := hd 3 _ rfl
        have d4 : wr.cell? ⟨b, off + m * 8 + 4, none⟩ = _ := hd 4 _ rfl
        have d5 : wr.cell? ⟨b, off + m * 8 + 5, none⟩ = _ := hd 5 _ rfl
        have d6 : wr.cell? ⟨b, off + m * 8 + 6, none⟩ = _ := hd 6 _ rfl
        have d7 : wr.cell? ⟨b, off + m * 8 + 7, none⟩ = _ := hd 7 _ rfl
        have HEt := fun h => best_yes (lt := mIsBefore) (p := p) HZ.out h HZb.out hy
        have HEf := fun h => best_less (lt := mIsBefore) (p := p) HZ.out h HZb.out hy
        have C1 := fun W => spec_IsBefore x y W
        generalize p x = r1 at C0 HEn HEt HEf
        generalize mIsBefore x y = r2 at C1 HEt HEf
        replace C0 := Lib.hid C0
        replace C1 := Lib.hid C1
        replace HEn := Lib.hid HEn
        replace HEt := Lib.hid HEt
        replace HEf := Lib.hid HEf
        have hg1 : decide ((m : Int) < 0) = false := by simp
        clear hy hd hzb
        go_wp2_with fail
        refine wp_region_held_drew (S := fun w' => BoxAt w' w.heap.size 57 #[.int .i64 q.f0, .int .i64 q.f1, .int .i64 q.f2] ∧ Below wr.heap.size wr w') (by kernel_rfl) ?_ (fun hHeld => ?_)
        · exact ⟨HX.out.drw, (Below.refl _ _).drew⟩
        refine wpAnyH_take (i := 0) (oi := ⟨some 13, _, _, _, _, _⟩) (v := ?_) rfl (by kernel_rfl) (by kernel_rfl) (by kernel_rfl) (fun _ _ _ h => h) (Or.inl ⟨by kernel_rfl, ?_⟩) hHeld ?_
        rotate_left
        focus (intro W hS; have c0_0 := (hS.1).at_ (j := 0) rfl; have c0_1 := (hS.1).at_ (j := 1) rfl; have c0_2 := (hS.1).at_ (j := 2) rfl; have c0' := cell_nw hS.2 c0; have c1' := cell_nw hS.2 c1; have c2' := cell_nw hS.2 c2; have c3' := cell_nw hS.2 c3; have c4' := cell_nw hS.2 c4; have c5' := cell_nw hS.2 c5; have c6' := cell_nw hS.2 c6; have c7' := cell_nw hS.2 c7; have d0' := cell_nw hS.2 d0; have d1' := cell_nw hS.2 d1; have d2' := cell_nw hS.2 d2; have d3' := cell_nw hS.2 d3; have d4' := cell_nw hS.2 d4; have d5' := cell_nw hS.2 d5; have d6' := cell_nw hS.2 d6; have d7' := cell_nw hS.2 d7; clear hS; first | (go_simp; done) | (go_simp; with_reducible rfl))
        try simp only [Act.put, List.setIfInBounds_toArray, List.set_cons_zero, List.set_cons_succ]
        refine wpAnyH_take (i := 1) (oi := ⟨some 14, _, _, _, _, _⟩) (v := ?_) rfl (by kernel_rfl) (by kernel_rfl) (by kernel_rfl) (fun _ _ _ h => h) (Or.inl ⟨by kernel_rfl, ?_⟩) hHeld ?_
        rotate_left
        focus (intro W hS; have c0_0 := (hS.1).at_ (j := 0) rfl; have c0_1 := (hS.1).at_ (j := 1) rfl; have c0_2 := (hS.1).at_ (j := 2) rfl; have c0' := cell_nw hS.2 c0; have c1' := cell_nw hS.2 c1; have c2' := cell_nw hS.2 c2; have c3' := cell_nw hS.2 c3; have c4' := cell_nw hS.2 c4; have c5' := cell_nw hS.2 c5; have c6' := cell_nw hS.2 c6; have c7' := cell_nw hS.2 c7; have d0' := cell_nw hS.2 d0; have d1' := cell_nw hS.2 d1; have d2' := cell_nw hS.2 d2; have d3' := cell_nw hS.2 d3; have d4' := cell_nw hS.2 d4; have d5' := cell_nw hS.2 d5; have d6' := cell_nw hS.2 d6; have d7' := cell_nw hS.2 d7; clear hS; first | (go_simp; done) | (go_simp; with_reducible rfl))
        try simp only [Act.put, List.setIfInBounds_toArray, List.set_cons_zero, List.set_cons_succ]
        refine wpAnyH_take (i := 2) (oi := ⟨some 15, _, _, _, _, _⟩) (v := ?_) rfl (by kernel_rfl) (by kernel_rfl) (by kernel_rfl) (fun _ _ _ h => h) (Or.inl ⟨by kernel_rfl, ?_⟩) hHeld ?_
        rotate_left
        focus (intro W hS; have c0_0 := (hS.1).at_ (j := 0) rfl; have c0_1 := (hS.1).at_ (j := 1) rfl; have c0_2 := (hS.1).at_ (j := 2) rfl; have c0' := cell_nw hS.2 c0; have c1' := cell_nw hS.2 c1; have c2' := cell_nw hS.2 c2; have c3' := cell_nw hS.2 c3; have c4' := cell_nw hS.2 c4; have c5' := cell_nw hS.2 c5; have c6' := cell_nw hS.2 c6; have c7' := cell_nw hS.2 c7; have d0' := cell_nw hS.2 d0; have d1' := cell_nw hS.2 d1; have d2' := cell_nw hS.2 d2; have d3' := cell_nw hS.2 d3; have d4' := cell_nw hS.2 d4; have d5' := cell_nw hS.2 d5; have d6' := cell_nw hS.2 d6; have d7' := cell_nw hS.2 d7; clear hS; first | (go_simp; done) | (go_simp; with_reducible rfl))
        try simp only [Act.put, List.setIfInBounds_toArray, List.set_cons_zero, List.set_cons_succ]
        refine wpAnyH_take (i := 3) (oi := ⟨some 16, _, _, _, _, _⟩) (v := ?_) rfl (by kernel_rfl) (by kernel_rfl) (by kernel_rfl) (fun _ _ _ h => h) (Or.inl ⟨by kernel_rfl, ?_⟩) hHeld ?_
        rotate_left
        focus (intro W hS; have c0_0 := (hS.1).at_ (j := 0) rfl; have c0_1 := (hS.1).at_ (j := 1) rfl; have c0_2 := (hS.1).at_ (j := 2) rfl; have c0' := cell_nw hS.2 c0; have c1' := cell_nw hS.2 c1; have c2' := cell_nw hS.2 c2; have c3' := cell_nw hS.2 c3; have c4' := cell_nw hS.2 c4; have c5' := cell_nw hS.2 c5; have c6' := cell_nw hS.2 c6; have c7' := cell_nw hS.2 c7; have d0' := cell_nw hS.2 d0; have d1' := cell_nw hS.2 d1; have d2' := cell_nw hS.2 d2; have d3' := cell_nw hS.2 d3; have d4' := cell_nw hS.2 d4; have d5' := cell_nw hS.2 d5; have d6' := cell_nw hS.2 d6; have d7' := cell_nw hS.2 d7; clear hS; first | (go_simp; done) | (go_simp; with_reducible rfl))
        try simp only [Act.put, List.setIfInBounds_toArray, List.set_cons_zero, List.set_cons_succ]
        refine wpAnyH_take (i := 4) (oi := ⟨some 17, _, _, _, _, _⟩) (v := ?_) rfl (by kernel_rfl) (by kernel_rfl) (by kernel_rfl) (fun _ _ _ h => h) (Or.inl ⟨by kernel_rfl, ?_⟩) hHeld ?_
        rotate_left
        focus (intro W hS; have c0_0 := (hS.1).at_ (j := 0) rfl; have c0_1 := (hS.1).at_ (j := 1) rfl; have c0_2 := (hS.1).at_ (j := 2) rfl; have c0' := cell_nw hS.2 c0; have c1' := cell_nw hS.2 c1; have c2' := cell_nw hS.2 c2; have c3' := cell_nw hS.2 c3; have c4' := cell_nw hS.2 c4; have c5' := cell_nw hS.2 c5; have c6' := cell_nw hS.2 c6; have c7' := cell_nw hS.2 c7; have d0' := cell_nw hS.2 d0; have d1' := cell_nw hS.2 d1; have d2' := cell_nw hS.2 d2; have d3' := cell_nw hS.2 d3; have d4' := cell_nw hS.2 d4; have d5' := cell_nw hS.2 d5; have d6' := cell_nw hS.2 d6; have d7' := cell_nw hS.2 d7; clear hS; first | (go_simp; done) | (go_simp; with_reducible rfl))
        try simp only [Act.put, List.setIfInBounds_toArray, List.set_cons_zero, List.set_cons_succ]
        refine wpAnyH_ready (rs := [5]) (by kernel_rfl) (by simp) ?_
        refine AllReadyH.cons (o := ⟨some 18, _, _, _, _, _⟩) rfl (fun K hK => ?_) AllReadyH.nil
        go_simp
        refine Calls.mono (C0.out _) ?_
        rintro e x1 ⟨rfl, hb1⟩
        refine hK.out _ _ ⟨hHeld.1.new hb1, below_trans hHeld.2 hb1 (Nat.le_refl _)⟩ (fun hHeld' => ?_)
        clear hK K hHeld hb1
        have hHeld := hHeld'
        clear hHeld'
        try simp only [Act.put, List.setIfInBounds_toArray, List.set_cons_zero, List.set_cons_succ]
        cases r1
        · skip
          refine wpAnyH_take (i := 6) (oi := ⟨some 19, _, _, _, _, _⟩) (v := ?_) rfl (by kernel_rfl) (by kernel_rfl) (by kernel_rfl) (fun _ _ _ h => h) (Or.inl ⟨by kernel_rfl, ?_⟩) hHeld ?_
          rotate_left
          focus (intro W hS; have c0_0 := (hS.1).at_ (j := 0) rfl; have c0_1 := (hS.1).at_ (j := 1) rfl; have c0_2 := (hS.1).at_ (j := 2) rfl; have c0' := cell_nw hS.2 c0; have c1' := cell_nw hS.2 c1; have c2' := cell_nw hS.2 c2; have c3' := cell_nw hS.2 c3; have c4' := cell_nw hS.2 c4; have c5' := cell_nw hS.2 c5; have c6' := cell_nw hS.2 c6; have c7' := cell_nw hS.2 c7; have d0' := cell_nw hS.2 d0; have d1' := cell_nw hS.2 d1; have d2' := cell_nw hS.2 d2; have d3' := cell_nw hS.2 d3; have d4' := cell_nw hS.2 d4; have d5' := cell_nw hS.2 d5; have d6' := cell_nw hS.2 d6; have d7' := cell_nw hS.2 d7; clear hS; first | (go_simp; done) | (go_simp; with_reducible rfl))
          try simp only [Act.put, List.setIfInBounds_toArray, List.set_cons_zero, List.set_cons_succ]
          refine wpAnyH_take (i := 7) (oi := ⟨some 20, _, _, _, _, _⟩) (v := undef) rfl (by kernel_rfl) (by kernel_rfl) (by kernel_rfl) (fun _ _ _ h => h) (Or.inr ⟨by kernel_rfl, rfl⟩) hHeld ?_
          try simp only [Act.put, List.setIfInBounds_toArray, List.set_cons_zero, List.set_cons_succ]
          refine wpAnyH_take (i := 8) (oi := ⟨some 21, _, _, _, _, _⟩) (v := undef) rfl (by kernel_rfl) (by kernel_rfl) (by kernel_rfl) (fun _ _ _ h => h) (Or.inr ⟨by kernel_rfl, rfl⟩) hHeld ?_
          try simp only [Act.put, List.setIfInBounds_toArray, List.set_cons_zero, List.set_cons_succ]
          refine wpAnyH_take (i := 9) (oi := ⟨some 22, _, _, _, _, _⟩) (v := undef) rfl (by kernel_rfl) (by kernel_rfl) (by kernel_rfl) (fun _ _ _ h => h) (Or.inr ⟨by kernel_rfl, rfl⟩) hHeld ?_
          try simp only [Act.put, List.setIfInBounds_toArray, List.set_cons_zero, List.set_cons_succ]
          refine wpAnyH_take (i := 10) (oi := ⟨some 23, _, _, _, _, _⟩) (v := undef) rfl (by kernel_rfl) (by kernel_rfl) (by kernel_rfl) (fun _ _ _ h => h) (Or.inr ⟨by kernel_rfl, rfl⟩) hHeld ?_
          try simp only [Act.put, List.setIfInBounds_toArray, List.set_cons_zero, List.set_cons_succ]
          refine wpAnyH_take (i := 11) (oi := ⟨some 24, _, _, _, _, _⟩) (v := undef) rfl (by kernel_rfl) (by kernel_rfl) (by kernel_rfl) (fun _ _ _ h => h) (Or.inr ⟨by kernel_rfl, rfl⟩) hHeld ?_
          try simp only [Act.put, List.setIfInBounds_toArray, List.set_cons_zero, List.set_cons_succ]
          refine wpAnyH_take (i := 12) (oi := ⟨some 25, _, _, _, _, _⟩) (v := undef) rfl (by kernel_rfl) (by kernel_rfl) (by kernel_rfl) (fun _ _ _ h => h) (Or.inr ⟨by kernel_rfl, rfl⟩) hHeld ?_
          try simp only [Act.put, List.setIfInBounds_toArray, List.set_cons_zero, List.set_cons_succ]
          refine wpAnyH_take (i := 13) (oi := ⟨some 26, _, _, _, _, _⟩) (v := undef) rfl (by kernel_rfl) (by kernel_rfl) (by kernel_rfl) (fun _ _ _ h => h) (Or.inr ⟨by kernel_rfl, rfl⟩) hHeld ?_
          try simp only [Act.put, List.setIfInBounds_toArray, List.set_cons_zero, List.set_cons_succ]
          refine wpAnyH_take (i := 14) (oi := ⟨some 27, _, _, _, _, _⟩) (v := undef) rfl (by kernel_rfl) (by kernel_rfl) (by kernel_rfl) (fun _ _ _ h => h) (Or.inr ⟨by kernel_rfl, rfl⟩) hHeld ?_
          try simp only [Act.put, List.setIfInBounds_toArray, List.set_cons_zero, List.set_cons_succ]
          refine wpAnyH_take (i := 15) (oi := ⟨some 28, _, _, _, _, _⟩) (v := undef) rfl (by kernel_rfl) (by kernel_rfl) (by kernel_rfl) (fun _ _ _ h => h) (Or.inr ⟨by kernel_rfl, rfl⟩) hHeld ?_
          try simp only [Act.put, List.setIfInBounds_toArray, List.set_cons_zero, List.set_cons_succ]
          refine wpAnyH_take (i := 16) (oi := ⟨some 29, _, _, _, _, _⟩) (v := undef) rfl (by kernel_rfl) (by kernel_rfl) (by kernel_rfl) (fun _ _ _ h => h) (Or.inr ⟨by kernel_rfl, rfl⟩) hHeld ?_
          try simp only [Act.put, List.setIfInBounds_toArray, List.set_cons_zero, List.set_cons_succ]
          refine wpAnyH_take (i := 17) (oi := ⟨some 30, _, _, _, _, _⟩) (v := undef) rfl (by kernel_rfl) (by kernel_rfl) (by kernel_rfl) (fun _ _ _ h => h) (Or.inr ⟨by kernel_rfl, rfl⟩) hHeld ?_
          try simp only [Act.put, List.setIfInBounds_toArray, List.set_cons_zero, List.set_cons_succ]
          refine wpAnyH_take (i := 18) (oi := ⟨some 31, _, _, _, _, _⟩) (v := undef) rfl (by kernel_rfl) (by kernel_rfl) (by kernel_rfl) (fun _ _ _ h => h) (Or.inr ⟨by kernel_rfl, rfl⟩) hHeld ?_
          try simp only [Act.put, List.setIfInBounds_toArray, List.set_cons_zero, List.set_cons_succ]
          refine wpAnyH_take (i := 19) (oi := ⟨some 32, _, _, _, _, _⟩) (v := undef) rfl (by kernel_rfl) (by kernel_rfl) (by kernel_rfl) (fun _ _ _ h => h) (Or.inr ⟨by kernel_rfl, rfl⟩) hHeld ?_
          try simp only [Act.put, List.setIfInBounds_toArray, List.set_cons_zero, List.set_cons_succ]
          refine wpAnyH_take (i := 20) (oi := ⟨some 33, _, _, _, _, _⟩) (v := ?_) rfl (by kernel_rfl) (by kernel_rfl) (by kernel_rfl) (fun _ _ _ h => h) (Or.inl ⟨by kernel_rfl, ?_⟩) hHeld ?_
          rotate_left
          focus (intro W hS; have c0_0 := (hS.1).at_ (j := 0) rfl; have c0_1 := (hS.1).at_ (j := 1) rfl; have c0_2 := (hS.1).at_ (j := 2) rfl; have c0' := cell_nw hS.2 c0; have c1' := cell_nw hS.2 c1; have c2' := cell_nw hS.2 c2; have c3' := cell_nw hS.2 c3; have c4' := cell_nw hS.2 c4; have c5' := cell_nw hS.2 c5; have c6' := cell_nw hS.2 c6; have c7' := cell_nw hS.2 c7; have d0' := cell_nw hS.2 d0; have d1' := cell_nw hS.2 d1; have d2' := cell_nw hS.2 d2; have d3' := cell_nw hS.2 d3; have d4' := cell_nw hS.2 d4; have d5' := cell_nw hS.2 d5; have d6' := cell_nw hS.2 d6; have d7' := cell_nw hS.2 d7; clear hS; first | (go_simp; done) | (go_simp; with_reducible rfl))
          try simp only [Act.put, List.setIfInBounds_toArray, List.set_cons_zero, List.set_cons_succ]
          refine wpAnyH_done (by kernel_rfl) ?_ _
          go_wp2_with fail
          go_roundg (n - (k + 1))
          case measure => omega
          case rel => exact ⟨k + 1, (m : Int), by omega, by omega, by go_num, by first | rfl | go_num, Lib.hid (HEn.out (by simp)), Lib.hid (below_trans HB.out hHeld.2 (Nat.le_refl _)), Lib.hid hHeld.1⟩
        · skip
          refine wpAnyH_take (i := 6) (oi := ⟨some 19, _, _, _, _, _⟩) (v := ?_) rfl (by kernel_rfl) (by kernel_rfl) (by kernel_rfl) (fun _ _ _ h => h) (Or.inl ⟨by kernel_rfl, ?_⟩) hHeld ?_
          rotate_left
          focus (intro W hS; have c0_0 := (hS.1).at_ (j := 0) rfl; have c0_1 := (hS.1).at_ (j := 1) rfl; have c0_2 := (hS.1).at_ (j := 2) rfl; have c0' := cell_nw hS.2 c0; have c1' := cell_nw hS.2 c1; have c2' := cell_nw hS.2 c2; have c3' := cell_nw hS.2 c3; have c4' := cell_nw hS.2 c4; have c5' := cell_nw hS.2 c5; have c6' := cell_nw hS.2 c6; have c7' := cell_nw hS.2 c7; have d0' := cell_nw hS.2 d0; have d1' := cell_nw hS.2 d1; have d2' := cell_nw hS.2 d2; have d3' := cell_nw hS.2 d3; have d4' := cell_nw hS.2 d4; have d5' := cell_nw hS.2 d5; have d6' := cell_nw hS.2 d6; have d7' := cell_nw hS.2 d7; clear hS; first | (go_simp; done) | (go_simp; with_reducible rfl))
          try simp only [Act.put, List.setIfInBounds_toArray, List.set_cons_zero, List.set_cons_succ]
          refine wpAnyH_take (i := 7) (oi := ⟨some 20, _, _, _, _, _⟩) (v := ?_) rfl (by kernel_rfl) (by kernel_rfl) (by kernel_rfl) (fun _ _ _ h => h) (Or.inl ⟨by kernel_rfl, ?_⟩) hHeld ?_
          rotate_left
          focus (intro W hS; have c0_0 := (hS.1).at_ (j := 0) rfl; have c0_1 := (hS.1).at_ (j := 1) rfl; have c0_2 := (hS.1).at_ (j := 2) rfl; have c0' := cell_nw hS.2 c0; have c1' := cell_nw hS.2 c1; have c2' := cell_nw hS.2 c2; have c3' := cell_nw hS.2 c3; have c4' := cell_nw hS.2 c4; have c5' := cell_nw hS.2 c5; have c6' := cell_nw hS.2 c6; have c7' := cell_nw hS.2 c7; have d0' := cell_nw hS.2 d0; have d1' := cell_nw hS.2 d1; have d2' := cell_nw hS.2 d2; have d3' := cell_nw hS.2 d3; have d4' := cell_nw hS.2 d4; have d5' := cell_nw hS.2 d5; have d6' := cell_nw hS.2 d6; have d7' := cell_nw hS.2 d7; clear hS; first | (go_simp; done) | (go_simp; with_reducible rfl))
          try simp only [Act.put, List.setIfInBounds_toArray, List.set_cons_zero, List.set_cons_succ]
          refine wpAnyH_take (i := 8) (oi := ⟨some 21, _, _, _, _, _⟩) (v := ?_) rfl (by kernel_rfl) (by kernel_rfl) (by kernel_rfl) (fun _ _ _ h => h) (Or.inl ⟨by kernel_rfl, ?_⟩) hHeld ?_
          rotate_left
          focus (intro W hS; have c0_0 := (hS.1).at_ (j := 0) rfl; have c0_1 := (hS.1).at_ (j := 1) rfl; have c0_2 := (hS.1).at_ (j := 2) rfl; have c0' := cell_nw hS.2 c0; have c1' := cell_nw hS.2 c1; have c2' := cell_nw hS.2 c2; have c3' := cell_nw hS.2 c3; have c4' := cell_nw hS.2 c4; have c5' := cell_nw hS.2 c5; have c6' := cell_nw hS.2 c6; have c7' := cell_nw hS.2 c7; have d0' := cell_nw hS.2 d0; have d1' := cell_nw hS.2 d1; have d2' := cell_nw hS.2 d2; have d3' := cell_nw hS.2 d3; have d4' := cell_nw hS.2 d4; have d5' := cell_nw hS.2 d5; have d6' := cell_nw hS.2 d6; have d7' := cell_nw hS.2 d7; clear hS; first | (go_simp; done) | (go_simp; with_reducible rfl))
          try simp only [Act.put, List.setIfInBounds_toArray, List.set_cons_zero, List.set_cons_succ]
          refine wpAnyH_take (i := 9) (oi := ⟨some 22, _, _, _, _, _⟩) (v := ?_) rfl (by kernel_rfl) (by kernel_rfl) (by kernel_rfl) (fun _ _ _ h => h) (Or.inl ⟨by kernel_rfl, ?_⟩) hHeld ?_
          rotate_left
          focus (intro W hS; have c0_0 := (hS.1).at_ (j := 0) rfl; have c0_1 := (hS.1).at_ (j := 1) rfl; have c0_2 := (hS.1).at_ (j := 2) rfl; have c0' := cell_nw hS.2 c0; have c1' := cell_nw hS.2 c1; have c2' := cell_nw hS.2 c2; have c3' := cell_nw hS.2 c3; have c4' := cell_nw hS.2 c4; have c5' := cell_nw hS.2 c5; have c6' := cell_nw hS.2 c6; have c7' := cell_nw hS.2 c7; have d0' := cell_nw hS.2 d0; have d1' := cell_nw hS.2 d1; have d2' := cell_nw hS.2 d2; have d3' := cell_nw hS.2 d3; have d4' := cell_nw hS.2 d4; have d5' := cell_nw hS.2 d5; have d6' := cell_nw hS.2 d6; have d7' := cell_nw hS.2 d7; clear hS; first | (go_simp; done) | (go_simp; with_reducible rfl))
          try simp only [Act.put, List.setIfInBounds_toArray, List.set_cons_zero, List.set_cons_succ]
          refine wpAnyH_take (i := 10) (oi := ⟨some 23, _, _, _, _, _⟩) (v := ?_) rfl (by kernel_rfl) (by kernel_rfl) (by kernel_rfl) (fun _ _ _ h => h) (Or.inl ⟨by kernel_rfl, ?_⟩) hHeld ?_
          rotate_left
          focus (intro W hS; have c0_0 := (hS.1).at_ (j := 0) rfl; have c0_1 := (hS.1).at_ (j := 1) rfl; have c0_2 := (hS.1).at_ (j := 2) rfl; have c0' := cell_nw hS.2 c0; have c1' := cell_nw hS.2 c1; have c2' := cell_nw hS.2 c2; have c3' := cell_nw hS.2 c3; have c4' := cell_nw hS.2 c4; have c5' := cell_nw hS.2 c5; have c6' := cell_nw hS.2 c6; have c7' := cell_nw hS.2 c7; have d0' := cell_nw hS.2 d0; have d1' := cell_nw hS.2 d1; have d2' := cell_nw hS.2 d2; have d3' := cell_nw hS.2 d3; have d4' := cell_nw hS.2 d4; have d5' := cell_nw hS.2 d5; have d6' := cell_nw hS.2 d6; have d7' := cell_nw hS.2 d7; clear hS; first | (go_simp; done) | (go_simp; with_reducible rfl))
          try simp only [Act.put, List.setIfInBounds_toArray, List.set_cons_zero, List.set_cons_succ]
          refine wpAnyH_take (i := 11) (oi := ⟨some 24, _, _, _, _, _⟩) (v := ?_) rfl (by kernel_rfl) (by kernel_rfl) (by kernel_rfl) (fun _ _ _ h => h) (Or.inl ⟨by kernel_rfl, ?_⟩) hHeld ?_
          rotate_left
          focus (intro W hS; have c0_0 := (hS.1).at_ (j := 0) rfl; have c0_1 := (hS.1).at_ (j := 1) rfl; have c0_2 := (hS.1).at_ (j := 2) rfl; have c0' := cell_nw hS.2 c0; have c1' := cell_nw hS.2 c1; have c2' := cell_nw hS.2 c2; have c3' := cell_nw hS.2 c3; have c4' := cell_nw hS.2 c4; have c5' := cell_nw hS.2 c5; have c6' := cell_nw hS.2 c6; have c7' := cell_nw hS.2 c7; have d0' := cell_nw hS.2 d0; have d1' := cell_nw hS.2 d1; have d2' := cell_nw hS.2 d2; have d3' := cell_nw hS.2 d3; have d4' := cell_nw hS.2 d4; have d5' := cell_nw hS.2 d5; have d6' := cell_nw hS.2 d6; have d7' := cell_nw hS.2 d7; clear hS; first | (go_simp; done) | (go_simp; with_reducible rfl))
          try simp only [Act.put, List.setIfInBounds_toArray, List.set_cons_zero, List.set_cons_succ]
          refine wpAnyH_take (i := 12) (oi := ⟨some 25, _, _, _, _, _⟩) (v := ?_) rfl (by kernel_rfl) (by kernel_rfl) (by kernel_rfl) (fun _ _ _ h => h) (Or.inl ⟨by kernel_rfl, ?_⟩) hHeld ?_
          rotate_left
          focus (intro W hS; have c0_0 := (hS.1).at_ (j := 0) rfl; have c0_1 := (hS.1).at_ (j := 1) rfl; have c0_2 := (hS.1).at_ (j := 2) rfl; have c0' := cell_nw hS.2 c0; have c1' := cell_nw hS.2 c1; have c2' := cell_nw hS.2 c2; have c3' := cell_nw hS.2 c3; have c4' := cell_nw hS.2 c4; have c5' := cell_nw hS.2 c5; have c6' := cell_nw hS.2 c6; have c7' := cell_nw hS.2 c7; have d0' := cell_nw hS.2 d0; have d1' := cell_nw hS.2 d1; have d2' := cell_nw hS.2 d2; have d3' := cell_nw hS.2 d3; have d4' := cell_nw hS.2 d4; have d5' := cell_nw hS.2 d5; have d6' := cell_nw hS.2 d6; have d7' := cell_nw hS.2 d7; clear hS; first | (go_simp; done) | (go_simp; with_reducible rfl))
          try simp only [Act.put, List.setIfInBounds_toArray, List.set_cons_zero, List.set_cons_succ]
          refine wpAnyH_take (i := 13) (oi := ⟨some 26, _, _, _, _, _⟩) (v := ?_) rfl (by kernel_rfl) (by kernel_rfl) (by kernel_rfl) (fun _ _ _ h => h) (Or.inl ⟨by kernel_rfl, ?_⟩) hHeld ?_
          rotate_left
          focus (intro W hS; have c0_0 := (hS.1).at_ (j := 0) rfl; have c0_1 := (hS.1).at_ (j := 1) rfl; have c0_2 := (hS.1).at_ (j := 2) rfl; have c0' := cell_nw hS.2 c0; have c1' := cell_nw hS.2 c1; have c2' := cell_nw hS.2 c2; have c3' := cell_nw hS.2 c3; have c4' := cell_nw hS.2 c4; have c5' := cell_nw hS.2 c5; have c6' := cell_nw hS.2 c6; have c7' := cell_nw hS.2 c7; have d0' := cell_nw hS.2 d0; have d1' := cell_nw hS.2 d1; have d2' := cell_nw hS.2 d2; have d3' := cell_nw hS.2 d3; have d4' := cell_nw hS.2 d4; have d5' := cell_nw hS.2 d5; have d6' := cell_nw hS.2 d6; have d7' := cell_nw hS.2 d7; clear hS; first | (go_simp; done) | (go_simp; with_reducible rfl))
          try simp only [Act.put, List.setIfInBounds_toArray, List.set_cons_zero, List.set_cons_succ]
          refine wpAnyH_take (i := 14) (oi := ⟨some 27, _, _, _, _, _⟩) (v := ?_) rfl (by kernel_rfl) (by kernel_rfl) (by kernel_rfl) (fun _ _ _ h => h) (Or.inl ⟨by kernel_rfl, ?_⟩) hHeld ?_
          rotate_left
          focus (intro W hS; have c0_0 := (hS.1).at_ (j := 0) rfl; have c0_1 := (hS.1).at_ (j := 1) rfl; have c0_2 := (hS.1).at_ (j := 2) rfl; have c0' := cell_nw hS.2 c0; have c1' := cell_nw hS.2 c1; have c2' := cell_nw hS.2 c2; have c3' := cell_nw hS.2 c3; have c4' := cell_nw hS.2 c4; have c5' := cell_nw hS.2 c5; have c6' := cell_nw hS.2 c6; have c7' := cell_nw hS.2 c7; have d0' := cell_nw hS.2 d0; have d1' := cell_nw hS.2 d1; have d2' := cell_nw hS.2 d2; have d3' := cell_nw hS.2 d3; have d4' := cell_nw hS.2 d4; have d5' := cell_nw hS.2 d5; have d6' := cell_nw hS.2 d6; have d7' := cell_nw hS.2 d7; clear hS; first | (go_simp; done) | (go_simp; with_reducible rfl))
          try simp only [Act.put, List.setIfInBounds_toArray, List.set_cons_zero, List.set_cons_succ]
          refine wpAnyH_take (i := 15) (oi := ⟨some 28, _, _, _, _, _⟩) (v := ?_) rfl (by kernel_rfl) (by kernel_rfl) (by kernel_rfl) (fun _ _ _ h => h) (Or.inl ⟨by kernel_rfl, ?_⟩) hHeld ?_
          rotate_left
          focus (intro W hS; have c0_0 := (hS.1).at_ (j := 0) rfl; have c0_1 := (hS.1).at_ (j := 1) rfl; have c0_2 := (hS.1).at_ (j := 2) rfl; have c0' := cell_nw hS.2 c0; have c1' := cell_nw hS.2 c1; have c2' := cell_nw hS.2 c2; have c3' := cell_nw hS.2 c3; have c4' := cell_nw hS.2 c4; have c5' := cell_nw hS.2 c5; have c6' := cell_nw hS.2 c6; have c7' := cell_nw hS.2 c7; have d0' := cell_nw hS.2 d0; have d1' := cell_nw hS.2 d1; have d2' := cell_nw hS.2 d2; have d3' := cell_nw hS.2 d3; have d4' := cell_nw hS.2 d4; have d5' := cell_nw hS.2 d5; have d6' := cell_nw hS.2 d6; have d7' := cell_nw hS.2 d7; clear hS; first | (go_simp; done) | (go_simp; with_reducible rfl))
          try simp only [Act.put, List.setIfInBounds_toArray, List.set_cons_zero, List.set_cons_succ]
          refine wpAnyH_take (i := 16) (oi := ⟨some 29, _, _, _, _, _⟩) (v := ?_) rfl (by kernel_rfl) (by kernel_rfl) (by kernel_rfl) (fun _ _ _ h => h) (Or.inl ⟨by kernel_rfl, ?_⟩) hHeld ?_
          rotate_left
          focus (intro W hS; have c0_0 := (hS.1).at_ (j := 0) rfl; have c0_1 := (hS.1).at_ (j := 1) rfl; have c0_2 := (hS.1).at_ (j := 2) rfl; have c0' := cell_nw hS.2 c0; have c1' := cell_nw hS.2 c1; have c2' := cell_nw hS.2 c2; have c3' := cell_nw hS.2 c3; have c4' := cell_nw hS.2 c4; have c5' := cell_nw hS.2 c5; have c6' := cell_nw hS.2 c6; have c7' := cell_nw hS.2 c7; have d0' := cell_nw hS.2 d0; have d1' := cell_nw hS.2 d1; have d2' := cell_nw hS.2 d2; have d3' := cell_nw hS.2 d3; have d4' := cell_nw hS.2 d4; have d5' := cell_nw hS.2 d5; have d6' := cell_nw hS.2 d6; have d7' := cell_nw hS.2 d7; clear hS; first | (go_simp; done) | (go_simp; with_reducible rfl))
          try simp only [Act.put, List.setIfInBounds_toArray, List.set_cons_zero, List.set_cons_succ]
          refine wpAnyH_take (i := 17) (oi := ⟨some 30, _, _, _, _, _⟩) (v := ?_) rfl (by kernel_rfl) (by kernel_rfl) (by kernel_rfl) (fun _ _ _ h => h) (Or.inl ⟨by kernel_rfl, ?_⟩) hHeld ?_
          rotate_left
          focus (intro W hS; have c0_0 := (hS.1).at_ (j := 0) rfl; have c0_1 := (hS.1).at_ (j := 1) rfl; have c0_2 := (hS.1).at_ (j := 2) rfl; have c0' := cell_nw hS.2 c0; have c1' := cell_nw hS.2 c1; have c2' := cell_nw hS.2 c2; have c3' := cell_nw hS.2 c3; have c4' := cell_nw hS.2 c4; have c5' := cell_nw hS.2 c5; have c6' := cell_nw hS.2 c6; have c7' := cell_nw hS.2 c7; have d0' := cell_nw hS.2 d0; have d1' := cell_nw hS.2 d1; have d2' := cell_nw hS.2 d2; have d3' := cell_nw hS.2 d3; have d4' := cell_nw hS.2 d4; have d5' := cell_nw hS.2 d5; have d6' := cell_nw hS.2 d6; have d7' := cell_nw hS.2 d7; clear hS; first | (go_simp; done) | (go_simp; with_reducible rfl))
          try simp only [Act.put, List.setIfInBounds_toArray, List.set_cons_zero, List.set_cons_succ]
          refine wpAnyH_ready (rs := [18]) (by kernel_rfl) (by simp) ?_
          refine AllReadyH.cons (o := ⟨some 31, _, _, _, _, _⟩) rfl (fun K hK => ?_) AllReadyH.nil
          go_simp
          refine Calls.mono (C1.out _) ?_
          rintro e x2 ⟨rfl, hb1⟩
          refine hK.out _ _ ⟨hHeld.1.new hb1, below_trans hHeld.2 hb1 (Nat.le_refl _)⟩ (fun hHeld' => ?_)
          clear hK K hHeld hb1
          have hHeld := hHeld'
          clear hHeld'
          try simp only [Act.put, List.setIfInBounds_toArray, List.set_cons_zero, List.set_cons_succ]
          cases r2
          · skip
            refine wpAnyH_take (i := 19) (oi := ⟨some 32, _, _, _, _, _⟩) (v := ?_) rfl (by kernel_rfl) (by kernel_rfl) (by kernel_rfl) (fun _ _ _ h => h) (Or.inl ⟨by kernel_rfl, ?_⟩) hHeld ?_
            rotate_left
            focus (intro W hS; have c0_0 := (hS.1).at_ (j := 0) rfl; have c0_1 := (hS.1).at_ (j := 1) rfl; have c0_2 := (hS.1).at_ (j := 2) rfl; have c0' := cell_nw hS.2 c0; have c1' := cell_nw hS.2 c1; have c2' := cell_nw hS.2 c2; have c3' := cell_nw hS.2 c3; have c4' := cell_nw hS.2 c4; have c5' := cell_nw hS.2 c5; have c6' := cell_nw hS.2 c6; have c7' := cell_nw hS.2 c7; have d0' := cell_nw hS.2 d0; have d1' := cell_nw hS.2 d1; have d2' := cell_nw hS.2 d2; have d3' := cell_nw hS.2 d3; have d4' := cell_nw hS.2 d4; have d5' := cell_nw hS.2 d5; have d6' := cell_nw hS.2 d6; have d7' := cell_nw hS.2 d7; clear hS; first | (go_simp; done) | (go_simp; with_reducible rfl))
            try simp only [Act.put, List.setIfInBounds_toArray, List.set_cons_zero, List.set_cons_succ]
            refine wpAnyH_take (i := 20) (oi := ⟨some 33, _, _, _, _, _⟩) (v := ?_) rfl (by kernel_rfl) (by kernel_rfl) (by kernel_rfl) (fun _ _ _ h => h) (Or.inl ⟨by kernel_rfl, ?_⟩) hHeld ?_
            rotate_left
            focus (intro W hS; have c0_0 := (hS.1).at_ (j := 0) rfl; have c0_1 := (hS.1).at_ (j := 1) rfl; have c0_2 := (hS.1).at_ (j := 2) rfl; have c0' := cell_nw hS.2 c0; have c1' := cell_nw hS.2 c1; have c2' := cell_nw hS.2 c2; have c3' := cell_nw hS.2 c3; have c4' := cell_nw hS.2 c4; have c5' := cell_nw hS.2 c5; have c6' := cell_nw hS.2 c6; have c7' := cell_nw hS.2 c7; have d0' := cell_nw hS.2 d0; have d1' := cell_nw hS.2 d1; have d2' := cell_nw hS.2 d2; have d3' := cell_nw hS.2 d3; have d4' := cell_nw hS.2 d4; have d5' := cell_nw hS.2 d5; have d6' := cell_nw hS.2 d6; have d7' := cell_nw hS.2 d7; clear hS; first | (go_simp; done) | (go_simp; with_reducible rfl))
            try simp only [Act.put, List.setIfInBounds_toArray, List.set_cons_zero, List.set_cons_succ]
            refine wpAnyH_done (by kernel_rfl) ?_ _
            go_wp2_with fail
            go_roundg (n - (k + 1))
            case measure => omega
            case rel => exact ⟨k + 1, (m : Int), by omega, by omega, by go_num, by first | rfl | go_num, Lib.hid (HEf.out (by simp) (by simp)), Lib.hid (below_trans HB.out hHeld.2 (Nat.le_refl _)), Lib.hid hHeld.1⟩
          · skip
            refine wpAnyH_take (i := 19) (oi := ⟨some 32, _, _, _, _, _⟩) (v := ?_) rfl (by kernel_rfl) (by kernel_rfl) (by kernel_rfl) (fun _ _ _ h => h) (Or.inl ⟨by kernel_rfl, ?_⟩) hHeld ?_
            rotate_left
            focus (intro W hS; have c0_0 := (hS.1).at_ (j := 0) rfl; have c0_1 := (hS.1).at_ (j := 1) rfl; have c0_2 := (hS.1).at_ (j := 2) rfl; have c0' := cell_nw hS.2 c0; have c1' := cell_nw hS.2 c1; have c2' := cell_nw hS.2 c2; have c3' := cell_nw hS.2 c3; have c4' := cell_nw hS.2 c4; have c5' := cell_nw hS.2 c5; have c6' := cell_nw hS.2 c6; have c7' := cell_nw hS.2 c7; have d0' := cell_nw hS.2 d0; have d1' := cell_nw hS.2 d1; have d2' := cell_nw hS.2 d2; have d3' := cell_nw hS.2 d3; have d4' := cell_nw hS.2 d4; have d5' := cell_nw hS.2 d5; have d6' := cell_nw hS.2 d6; have d7' := cell_nw hS.2 d7; clear hS; first | (go_simp; done) | (go_simp; with_reducible rfl))
            try simp only [Act.put, List.setIfInBounds_toArray, List.set_cons_zero, List.set_cons_succ]
            refine wpAnyH_take (i := 20) (oi := ⟨some 33, _, _, _, _, _⟩) (v := ?_) rfl (by kernel_rfl) (by kernel_rfl) (by kernel_rfl) (fun _ _ _ h => h) (Or.inl ⟨by kernel_rfl, ?_⟩) hHeld ?_
            rotate_left
            focus (intro W hS; have c0_0 := (hS.1).at_ (j := 0) rfl; have c0_1 := (hS.1).at_ (j := 1) rfl; have c0_2 := (hS.1).at_ (j := 2) rfl; have c0' := cell_nw hS.2 c0; have c1' := cell_nw hS.2 c1; have c2' := cell_nw hS.2 c2; have c3' := cell_nw hS.2 c3; have c4' := cell_nw hS.2 c4; have c5' := cell_nw hS.2 c5; have c6' := cell_nw hS.2 c6; have c7' := cell_nw hS.2 c7; have d0' := cell_nw hS.2 d0; have d1' := cell_nw hS.2 d1; have d2' := cell_nw hS.2 d2; have d3' := cell_nw hS.2 d3; have d4' := cell_nw hS.2 d4; have d5' := cell_nw hS.2 d5; have d6' := cell_nw hS.2 d6; have d7' := cell_nw hS.2 d7; clear hS; first | (go_simp; done) | (go_simp; with_reducible rfl))
            try simp only [Act.put, List.setIfInBounds_toArray, List.set_cons_zero, List.set_cons_succ]
            refine wpAnyH_done (by kernel_rfl) ?_ _
            go_wp2_with fail
            go_roundg (n - (k + 1))
            case measure => omega
            case rel => exact ⟨k + 1, (k : Int), by omega, by omega, by go_num, by first | rfl | go_num, Lib.hid (HEt.out (by simp) (by simp)), Lib.hid (below_trans HB.out hHeld.2 (Nat.le_refl _)), Lib.hid hHeld.1⟩
    · obtain rfl : k = n := by omega
      have HE := Lib.hid (show mDecide l q = z by rw [HM.out, HL.out]; exact HZb.out)
      go_wp2_with fail
      go_ret
      exact ⟨by rw [HE.out]; rfl, HB.out⟩
end Go.Proofs.Ytfceddgacefejaa
