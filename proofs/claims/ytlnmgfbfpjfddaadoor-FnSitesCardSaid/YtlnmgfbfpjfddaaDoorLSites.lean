/- The law FnSites answers true for every argument, and leaves each argument as it was. No condition. -/
import Derived.Test.YtlnmgfbfpjfddaaDoorDFrame
import Derived.Test.YtlnmgfbfpjfddaaDoorSitM
import Derived.Test.YtlnmgfbfpjfddaaDoorDrP
import Derived.Deep.DeepCutAuto
import Derived.Deep.RegionHeld3
namespace Go.Proofs.YtlnmgfbfpjfddaaDoor.fnSites
open Go Go.ChangeShapes Go.WideShapes Go.ChangeAt Go.RowKit Go.Lib
open Go.ChangeMaps (open_string)
set_option linter.unusedVariables false
set_option linter.unusedSimpArgs false
set_option maxRecDepth 100000
set_option maxHeartbeats 16000000 in

theorem walk (A0 : Option Addr) (n0 c0 : Nat) (w0 : n0 ≤ maxLen) (w : World) (m0 : BytesAt w w.heap.size A0 n0) (hT : Pow10 w) :
    Calls Tryd.prog 3 #[.slice A0 n0 c0] w fun e w' => e = .returned (.bool true) ∧ Below w.heap.size w w' := by
  have hn0 : n0 ≤ 9223372036854775807 := w0
  by_cases h : n0 ≤ 1048576
  · skip
    have g : decide ((1048576 : Int) < n0) = false := by simp; omega
    have M0 := Lib.hid m0
    have HT := Lib.hid hT
    clear m0 hT
    go_enter Tryd.func3, Tryd.ntmps3
    go_wp2_with fail
    refine (big_any n0 c0 A0 _ w0).mono ?_
    rintro e w1 ⟨rfl, rfl⟩
    rw [g]
    have HB := Lib.hid (Below.refl w.heap.size w)
    go_wp2_with fail
    refine Calls.mono (drawMP_any n0 c0 A0 _ (by omega) (bytes_below M0.out HB.out)) ?_
    rintro e w2 ⟨p, q, hp, hq, rfl, hb⟩
    replace HB := Lib.hid (below_trans HB.out hb (Nat.le_refl _))
    clear hb
    have hsz1 : w.heap.size ≤ w2.heap.size := HB.out.size
    have HP := Lib.hid hp
    clear hp hq
    have KP := Lib.hid (show BoxAt (World.alloc w2 (.cells #[.int .i64 0, .int .i64 0] 25)) w2.heap.size 25 #[.int .i64 0, .int .i64 0] from by simpa using box_new w2 25 #[.int .i64 0, .int .i64 0])
    replace HB := Lib.hid (HB.out.alloc (by have := HB.out.size; (try simp at this ⊢); omega) (.cells #[.int .i64 0, .int .i64 0] 25))
    have KQ := Lib.hid (show BoxAt (World.alloc (World.alloc w2 (.cells #[.int .i64 0, .int .i64 0] 25)) (.cells #[.int .i64 0, .int .i64 0] 25)) (w2.heap.size + 1) 25 #[.int .i64 0, .int .i64 0] from by simpa using box_new (World.alloc w2 (.cells #[.int .i64 0, .int .i64 0] 25)) 25 #[.int .i64 0, .int .i64 0])
    replace KP := Lib.hid (KP.out.alloc_ (.cells #[.int .i64 0, .int .i64 0] 25))
    replace HB := Lib.hid (HB.out.alloc (by have := HB.out.size; (try simp at this ⊢); omega) (.cells #[.int .i64 0, .int .i64 0] 25))
    obtain ⟨w3, hx⟩ : ∃ x, x = World.setRow (World.alloc (World.alloc w2 (.cells #[.int .i64 0, .int .i64 0] 25)) (.cells #[.int .i64 0, .int .i64 0] 25)) w2.heap.size #[.int .i64 p.f0, .int .i64 p.f1] := ⟨_, rfl⟩
    have HX3 := Lib.hid hx
    have OLD3 := KP
    replace KP := Lib.hid (show BoxAt w3 w2.heap.size 25 #[.int .i64 p.f0, .int .i64 p.f1] by rw [hx]; exact box_row KP.out)
    replace KQ := Lib.hid (show BoxAt w3 (w2.heap.size + 1) 25 #[.int .i64 0, .int .i64 0] by rw [hx]; exact box_far KQ.out (by omega))
    replace HB := Lib.hid (show Below w.heap.size w w3 by rw [hx]; exact below_setRow HB.out (by omega) _)
    clear hx
    obtain ⟨w4, hx⟩ : ∃ x, x = World.setRow w3 (w2.heap.size + 1) #[.int .i64 q.f0, .int .i64 q.f1] := ⟨_, rfl⟩
    have HX4 := Lib.hid hx
    have OLD4 := KQ
    replace KP := Lib.hid (show BoxAt w4 w2.heap.size 25 #[.int .i64 p.f0, .int .i64 p.f1] by rw [hx]; exact box_far KP.out (by omega))
    replace KQ := Lib.hid (show BoxAt w4 (w2.heap.size + 1) 25 #[.int .i64 q.f0, .int .i64 q.f1] by rw [hx]; exact box_row KQ.out)
    replace HB := Lib.hid (show Below w.heap.size w w4 by rw [hx]; exact below_setRow HB.out (by omega) _)
    clear hx
    have lKP : w2.heap.size < w4.heap.size := KP.out.lt
    have lKQ : (w2.heap.size + 1) < w4.heap.size := KQ.out.lt
    have kKP0 := KP.out.at_ (j := 0) rfl
    have kKP1 := KP.out.at_ (j := 1) rfl
    have kKQ0 := KQ.out.at_ (j := 0) rfl
    have kKQ1 := KQ.out.at_ (j := 1) rfl
    go_wp2_with (first | (refine wpList_store_row rfl 25 _ _ rfl w2.heap.size #[.int .i64 p.f0, .int .i64 p.f1] rfl rfl 25 _ OLD3.out (by kernel_rfl) (by kernel_rfl) (by kernel_rfl) ?_; rw [← HX3.out]; clear HX3 OLD3) | (refine wpList_store_row rfl 25 _ _ rfl (w2.heap.size + 1) #[.int .i64 q.f0, .int .i64 q.f1] rfl rfl 25 _ OLD4.out (by kernel_rfl) (by kernel_rfl) (by kernel_rfl) ?_; rw [← HX4.out]; clear HX4 OLD4))
    clear kKP0 kKP1 kKQ0 kKQ1
    refine Calls.mono (impl_MeetPatterns p q _) ?_
    rintro e w5 ⟨rfl, hb⟩
    replace KP := Lib.hid (KP.out.new hb)
    replace KQ := Lib.hid (KQ.out.new hb)
    replace HB := Lib.hid (below_trans HB.out hb (Nat.le_refl _))
    clear hb
    have lKP : w2.heap.size < w5.heap.size := KP.out.lt
    have lKQ : (w2.heap.size + 1) < w5.heap.size := KQ.out.lt
    have hsz2 : w.heap.size ≤ w5.heap.size := HB.out.size
    have EB := Lib.hid (meet_both p q)
    have ES := Lib.hid (some_meet p q)
    have EL := Lib.hid (less_narrow p q)
    have EI : mIsNarrower p q = mIsNarrower p q := rfl
    generalize hok : mMeetOk p q = ok at EB ES ⊢
    clear hok
    generalize mMeet p q = m at EB ⊢
    obtain ⟨nr, ENR⟩ : ∃ v, mIsNarrower p q = v := ⟨_, rfl⟩
    obtain ⟨ip, EP⟩ : ∃ v, mIsPattern p = v := ⟨_, rfl⟩
    obtain ⟨iq, EQ⟩ : ∃ v, mIsPattern q = v := ⟨_, rfl⟩
    have KM := Lib.hid (show BoxAt (World.alloc w5 (.cells #[.int .i64 0, .int .i64 0] 25)) w5.heap.size 25 #[.int .i64 0, .int .i64 0] from by simpa using box_new w5 25 #[.int .i64 0, .int .i64 0])
    replace KP := Lib.hid (KP.out.alloc_ (.cells #[.int .i64 0, .int .i64 0] 25))
    replace KQ := Lib.hid (KQ.out.alloc_ (.cells #[.int .i64 0, .int .i64 0] 25))
    replace HB := Lib.hid (HB.out.alloc (by have := HB.out.size; (try simp at this ⊢); omega) (.cells #[.int .i64 0, .int .i64 0] 25))
    obtain ⟨w6, hx⟩ : ∃ x, x = World.setRow (World.alloc w5 (.cells #[.int .i64 0, .int .i64 0] 25)) w5.heap.size #[.int .i64 m.f0, .int .i64 m.f1] := ⟨_, rfl⟩
    have HX6 := Lib.hid hx
    have OLD6 := KM
    replace KP := Lib.hid (show BoxAt w6 w2.heap.size 25 #[.int .i64 p.f0, .int .i64 p.f1] by rw [hx]; exact box_far KP.out (by omega))
    replace KQ := Lib.hid (show BoxAt w6 (w2.heap.size + 1) 25 #[.int .i64 q.f0, .int .i64 q.f1] by rw [hx]; exact box_far KQ.out (by omega))
    replace KM := Lib.hid (show BoxAt w6 w5.heap.size 25 #[.int .i64 m.f0, .int .i64 m.f1] by rw [hx]; exact box_row KM.out)
    replace HB := Lib.hid (show Below w.heap.size w w6 by rw [hx]; exact below_setRow HB.out (by omega) _)
    clear hx
    have lKP : w2.heap.size < w6.heap.size := KP.out.lt
    have lKQ : (w2.heap.size + 1) < w6.heap.size := KQ.out.lt
    have lKM : w5.heap.size < w6.heap.size := KM.out.lt
    go_upto_region 5 with (refine wpList_store_row rfl 25 _ _ rfl w5.heap.size #[.int .i64 m.f0, .int .i64 m.f1] rfl rfl 25 _ OLD6.out (by kernel_rfl) (by kernel_rfl) (by kernel_rfl) ?_; rw [← HX6.out]; clear HX6 OLD6)
    try simp only [Act.put]
    go_cut [29] (fun s29 wx => s29 = .bool false ∧ Hid (BoxAt wx w2.heap.size 25 #[.int .i64 p.f0, .int .i64 p.f1]) ∧ Hid (BoxAt wx (w2.heap.size + 1) 25 #[.int .i64 q.f0, .int .i64 q.f1]) ∧ Hid (BoxAt wx w5.heap.size 25 #[.int .i64 m.f0, .int .i64 m.f1]) ∧ Hid (Below w.heap.size w wx))
    case first =>
      cases ip with
      | false =>
        refine wp_region_held_drew (S := fun w' => BoxAt w' w2.heap.size 25 #[.int .i64 p.f0, .int .i64 p.f1] ∧ BoxAt w' (w2.heap.size + 1) 25 #[.int .i64 q.f0, .int .i64 q.f1] ∧ BoxAt w' w5.heap.size 25 #[.int .i64 m.f0, .int .i64 m.f1] ∧ Below w.heap.size w w') (by kernel_rfl) ?_ (fun hHeld => ?_)
        · exact ⟨KP.out.drw, KQ.out.drw, KM.out.drw, HB.out.drew⟩
        refine wpAnyH_take (i := 0) (oi := ⟨some 25, _, _, _, _, _⟩) (v := ?_) rfl (by kernel_rfl) (by kernel_rfl) (by kernel_rfl) (fun _ _ _ h => h) (Or.inl ⟨by kernel_rfl, ?_⟩) hHeld ?_
        rotate_left
        focus (intro W hS; have c0_0 := (hS.1).at_ (j := 0) rfl; have c0_1 := (hS.1).at_ (j := 1) rfl; have c1_0 := (hS.2.1).at_ (j := 0) rfl; have c1_1 := (hS.2.1).at_ (j := 1) rfl; have c2_0 := (hS.2.2.1).at_ (j := 0) rfl; have c2_1 := (hS.2.2.1).at_ (j := 1) rfl; clear hS; first | (go_simp; done) | (go_simp; with_reducible rfl))
        try simp only [Act.put, List.setIfInBounds_toArray, List.set_cons_zero, List.set_cons_succ]
        refine wpAnyH_take (i := 2) (oi := ⟨some 27, _, _, _, _, _⟩) (v := ?_) rfl (by kernel_rfl) (by kernel_rfl) (by kernel_rfl) (fun _ _ _ h => h) (Or.inl ⟨by kernel_rfl, ?_⟩) hHeld ?_
        rotate_left
        focus (intro W hS; have c0_0 := (hS.1).at_ (j := 0) rfl; have c0_1 := (hS.1).at_ (j := 1) rfl; have c1_0 := (hS.2.1).at_ (j := 0) rfl; have c1_1 := (hS.2.1).at_ (j := 1) rfl; have c2_0 := (hS.2.2.1).at_ (j := 0) rfl; have c2_1 := (hS.2.2.1).at_ (j := 1) rfl; clear hS; first | (go_simp; done) | (go_simp; with_reducible rfl))
        try simp only [Act.put, List.setIfInBounds_toArray, List.set_cons_zero, List.set_cons_succ]
        refine wpAnyH_ready (rs := [1]) (by kernel_rfl) (by simp) ?_
        refine AllReadyH.cons (o := ⟨some 26, _, _, _, _, _⟩) rfl (fun K hK => ?_) AllReadyH.nil
        go_simp
        refine Calls.mono (ipat_eq p _ EP _) ?_
        rintro e x1 ⟨rfl, hb1⟩
        refine hK.out _ _ ⟨hHeld.1.new hb1, hHeld.2.1.new hb1, hHeld.2.2.1.new hb1, below_trans hHeld.2.2.2 hb1 (Nat.le_refl _)⟩ (fun hHeld' => ?_)
        clear hK K hHeld hb1
        have hHeld := hHeld'
        clear hHeld'
        try simp only [Act.put, List.setIfInBounds_toArray, List.set_cons_zero, List.set_cons_succ]
        refine wpAnyH_ready (rs := [3]) (by kernel_rfl) (by simp) ?_
        refine AllReadyH.cons (o := ⟨some 28, _, _, _, _, _⟩) rfl (fun K hK => ?_) AllReadyH.nil
        go_simp
        refine Calls.mono (spat_eq p _ EP _) ?_
        rintro e x2 ⟨rfl, hb1⟩
        refine hK.out _ _ ⟨hHeld.1.new hb1, hHeld.2.1.new hb1, hHeld.2.2.1.new hb1, below_trans hHeld.2.2.2 hb1 (Nat.le_refl _)⟩ (fun hHeld' => ?_)
        clear hK K hHeld hb1
        have hHeld := hHeld'
        clear hHeld'
        try simp only [Act.put, List.setIfInBounds_toArray, List.set_cons_zero, List.set_cons_succ]
        refine wpAnyH_take (i := 4) (oi := ⟨some 29, _, _, _, _, _⟩) (v := ?_) rfl (by kernel_rfl) (by kernel_rfl) (by kernel_rfl) (fun _ _ _ h => h) (Or.inl ⟨by kernel_rfl, ?_⟩) hHeld ?_
        rotate_left
        focus (intro W hS; skip; clear hS; first | (go_simp; done) | (go_simp; with_reducible rfl))
        try simp only [Act.put, List.setIfInBounds_toArray, List.set_cons_zero, List.set_cons_succ]
        refine wpAnyH_done (by kernel_rfl) ?_ _
        have HH := hHeld
        clear hHeld
        have KP := Lib.hid HH.1
        have KQ := Lib.hid HH.2.1
        have KM := Lib.hid HH.2.2.1
        have HB := Lib.hid HH.2.2.2
        clear HH
        go_wp2_with fail
        go_meet
        case rel => exact ⟨rfl, KP, KQ, KM, HB⟩
      | true =>
        refine wp_region_held_drew (S := fun w' => BoxAt w' w2.heap.size 25 #[.int .i64 p.f0, .int .i64 p.f1] ∧ BoxAt w' (w2.heap.size + 1) 25 #[.int .i64 q.f0, .int .i64 q.f1] ∧ BoxAt w' w5.heap.size 25 #[.int .i64 m.f0, .int .i64 m.f1] ∧ Below w.heap.size w w') (by kernel_rfl) ?_ (fun hHeld => ?_)
        · exact ⟨KP.out.drw, KQ.out.drw, KM.out.drw, HB.out.drew⟩
        refine wpAnyH_take (i := 0) (oi := ⟨some 25, _, _, _, _, _⟩) (v := ?_) rfl (by kernel_rfl) (by kernel_rfl) (by kernel_rfl) (fun _ _ _ h => h) (Or.inl ⟨by kernel_rfl, ?_⟩) hHeld ?_
        rotate_left
        focus (intro W hS; have c0_0 := (hS.1).at_ (j := 0) rfl; have c0_1 := (hS.1).at_ (j := 1) rfl; have c1_0 := (hS.2.1).at_ (j := 0) rfl; have c1_1 := (hS.2.1).at_ (j := 1) rfl; have c2_0 := (hS.2.2.1).at_ (j := 0) rfl; have c2_1 := (hS.2.2.1).at_ (j := 1) rfl; clear hS; first | (go_simp; done) | (go_simp; with_reducible rfl))
        try simp only [Act.put, List.setIfInBounds_toArray, List.set_cons_zero, List.set_cons_succ]
        refine wpAnyH_take (i := 2) (oi := ⟨some 27, _, _, _, _, _⟩) (v := ?_) rfl (by kernel_rfl) (by kernel_rfl) (by kernel_rfl) (fun _ _ _ h => h) (Or.inl ⟨by kernel_rfl, ?_⟩) hHeld ?_
        rotate_left
        focus (intro W hS; have c0_0 := (hS.1).at_ (j := 0) rfl; have c0_1 := (hS.1).at_ (j := 1) rfl; have c1_0 := (hS.2.1).at_ (j := 0) rfl; have c1_1 := (hS.2.1).at_ (j := 1) rfl; have c2_0 := (hS.2.2.1).at_ (j := 0) rfl; have c2_1 := (hS.2.2.1).at_ (j := 1) rfl; clear hS; first | (go_simp; done) | (go_simp; with_reducible rfl))
        try simp only [Act.put, List.setIfInBounds_toArray, List.set_cons_zero, List.set_cons_succ]
        refine wpAnyH_ready (rs := [1]) (by kernel_rfl) (by simp) ?_
        refine AllReadyH.cons (o := ⟨some 26, _, _, _, _, _⟩) rfl (fun K hK => ?_) AllReadyH.nil
        go_simp
        refine Calls.mono (ipat_eq p _ EP _) ?_
        rintro e x1 ⟨rfl, hb1⟩
        refine hK.out _ _ ⟨hHeld.1.new hb1, hHeld.2.1.new hb1, hHeld.2.2.1.new hb1, below_trans hHeld.2.2.2 hb1 (Nat.le_refl _)⟩ (fun hHeld' => ?_)
        clear hK K hHeld hb1
        have hHeld := hHeld'
        clear hHeld'
        try simp only [Act.put, List.setIfInBounds_toArray, List.set_cons_zero, List.set_cons_succ]
        refine wpAnyH_ready (rs := [3]) (by kernel_rfl) (by simp) ?_
        refine AllReadyH.cons (o := ⟨some 28, _, _, _, _, _⟩) rfl (fun K hK => ?_) AllReadyH.nil
        go_simp
        refine Calls.mono (spat_eq p _ EP _) ?_
        rintro e x2 ⟨rfl, hb1⟩
        refine hK.out _ _ ⟨hHeld.1.new hb1, hHeld.2.1.new hb1, hHeld.2.2.1.new hb1, below_trans hHeld.2.2.2 hb1 (Nat.le_refl _)⟩ (fun hHeld' => ?_)
        clear hK K hHeld hb1
        have hHeld := hHeld'
        clear hHeld'
        try simp only [Act.put, List.setIfInBounds_toArray, List.set_cons_zero, List.set_cons_succ]
        refine wpAnyH_take (i := 4) (oi := ⟨some 29, _, _, _, _, _⟩) (v := ?_) rfl (by kernel_rfl) (by kernel_rfl) (by kernel_rfl) (fun _ _ _ h => h) (Or.inl ⟨by kernel_rfl, ?_⟩) hHeld ?_
        rotate_left
        focus (intro W hS; skip; clear hS; first | (go_simp; done) | (go_simp; with_reducible rfl))
        try simp only [Act.put, List.setIfInBounds_toArray, List.set_cons_zero, List.set_cons_succ]
        refine wpAnyH_done (by kernel_rfl) ?_ _
        have HH := hHeld
        clear hHeld
        have KP := Lib.hid HH.1
        have KQ := Lib.hid HH.2.1
        have KM := Lib.hid HH.2.2.1
        have HB := Lib.hid HH.2.2.2
        clear HH
        go_wp2_with fail
        go_meet
        case rel => exact ⟨rfl, KP, KQ, KM, HB⟩
    case rest =>
      obtain ⟨rfl, KP, KQ, KM, HB⟩ := hcut
      have lKP : w2.heap.size < wc.heap.size := KP.out.lt
      have lKQ : (w2.heap.size + 1) < wc.heap.size := KQ.out.lt
      have lKM : w5.heap.size < wc.heap.size := KM.out.lt
      go_upto_region 7 with fail
      try simp only [Act.put]
      go_cut [7] (fun s7 wx => s7 = .bool (ip && iq) ∧ Hid (BoxAt wx w2.heap.size 25 #[.int .i64 p.f0, .int .i64 p.f1]) ∧ Hid (BoxAt wx (w2.heap.size + 1) 25 #[.int .i64 q.f0, .int .i64 q.f1]) ∧ Hid (BoxAt wx w5.heap.size 25 #[.int .i64 m.f0, .int .i64 m.f1]) ∧ Hid (Below w.heap.size w wx))
      case first =>
        have kKP0 := KP.out.at_ (j := 0) rfl
        have kKP1 := KP.out.at_ (j := 1) rfl
        have kKQ0 := KQ.out.at_ (j := 0) rfl
        have kKQ1 := KQ.out.at_ (j := 1) rfl
        go_wp2_with fail
        clear kKP0 kKP1 kKQ0 kKQ1
        refine Calls.mono (ipat_eq p _ EP _) ?_
        rintro e w8 ⟨rfl, hb⟩
        replace KP := Lib.hid (KP.out.new hb)
        replace KQ := Lib.hid (KQ.out.new hb)
        replace KM := Lib.hid (KM.out.new hb)
        replace HB := Lib.hid (below_trans HB.out hb (Nat.le_refl _))
        clear hb
        have lKP : w2.heap.size < w8.heap.size := KP.out.lt
        have lKQ : (w2.heap.size + 1) < w8.heap.size := KQ.out.lt
        have lKM : w5.heap.size < w8.heap.size := KM.out.lt
        cases ip with
        | false =>
          go_wp2_with fail
          go_meet
          case rel => exact ⟨rfl, KP, KQ, KM, HB⟩
        | true =>
          have kKP0 := KP.out.at_ (j := 0) rfl
          have kKP1 := KP.out.at_ (j := 1) rfl
          have kKQ0 := KQ.out.at_ (j := 0) rfl
          have kKQ1 := KQ.out.at_ (j := 1) rfl
          go_wp2_with fail
          clear kKP0 kKP1 kKQ0 kKQ1
          refine Calls.mono (ipat_eq q _ EQ _) ?_
          rintro e w9 ⟨rfl, hb⟩
          replace KP := Lib.hid (KP.out.new hb)
          replace KQ := Lib.hid (KQ.out.new hb)
          replace KM := Lib.hid (KM.out.new hb)
          replace HB := Lib.hid (below_trans HB.out hb (Nat.le_refl _))
          clear hb
          have lKP : w2.heap.size < w9.heap.size := KP.out.lt
          have lKQ : (w2.heap.size + 1) < w9.heap.size := KQ.out.lt
          have lKM : w5.heap.size < w9.heap.size := KM.out.lt
          go_wp2_with fail
          go_meet
          case rel => exact ⟨rfl, KP, KQ, KM, HB⟩
      case rest =>
        obtain ⟨rfl, KP, KQ, KM, HB⟩ := hcut
        have lKP : w2.heap.size < wc.heap.size := KP.out.lt
        have lKQ : (w2.heap.size + 1) < wc.heap.size := KQ.out.lt
        have lKM : w5.heap.size < wc.heap.size := KM.out.lt
        replace EL := Lib.hid (show ((ip && iq) && (List.range 90).all (mLess p q)) = nr by rw [← ENR, ← EL.out, EP, EQ])
        generalize (ip && iq) = n0r at EL ⊢
        go_wp2_with fail
        go_loopg [7, 8, 9] 90 (fun gg s7 s8 s9 wr => ∃ k : Nat, k ≤ 90 ∧ 90 - k ≤ gg ∧ s7 = .bool (n0r && (List.range k).all (mLess p q)) ∧ s8 = .bool ((List.range k).any (mBoth p q)) ∧ s9 = .int .i64 k ∧ Hid (BoxAt wr w2.heap.size 25 #[.int .i64 p.f0, .int .i64 p.f1]) ∧ Hid (BoxAt wr (w2.heap.size + 1) 25 #[.int .i64 q.f0, .int .i64 q.f1]) ∧ Hid (BoxAt wr w5.heap.size 25 #[.int .i64 m.f0, .int .i64 m.f1]) ∧ Hid (Below w.heap.size w wr))
        case atStart => exact ⟨0, Nat.zero_le _, by omega, by simp, by simp, rfl, KP, KQ, KM, HB⟩
        case round =>
          clear KP KQ KM HB lKP lKQ lKM
          obtain ⟨k, hk, hg, rfl, rfl, rfl, KP, KQ, KM, HB⟩ := hrel
          have lKP : w2.heap.size < wr.heap.size := KP.out.lt
          have lKQ : (w2.heap.size + 1) < wr.heap.size := KQ.out.lt
          have lKM : w5.heap.size < wr.heap.size := KM.out.lt
          have hszr : w.heap.size ≤ wr.heap.size := HB.out.size
          by_cases hlt : k < 90
          · skip
            have e1 : Int.tdiv (k : Int) 10 = ((k / 10 : Nat) : Int) := by rw [Int.tdiv_eq_ediv_of_nonneg (by omega)]; omega
            have e2 : Int.tmod (k : Int) 10 = ((k % 10 : Nat) : Int) := by rw [Int.tmod_eq_emod_of_nonneg (by omega)]; omega
            have e3 : (k : Int) / 10 = ((k / 10 : Nat) : Int) := by omega
            have e4 : (k : Int) % 10 = ((k % 10 : Nat) : Int) := by omega
            have ER := Lib.hid (any_snoc (f := mBoth p q) k)
            have EA := Lib.hid (all_snoc (f := mLess p q) k)
            have hs : nSite k = ⟨1 + ((k / 10 : Nat) : Int), ((k % 10 : Nat) : Int)⟩ := rfl
            have EBk := Lib.hid (EB.out (nSite k))
            have DB : mBoth p q k = (mMatchSite p (nSite k) && mMatchSite q (nSite k)) := rfl
            have DL : mLess p q k = (!mMatchSite p (nSite k) || mMatchSite q (nSite k)) := rfl
            have Hs := Lib.hid hs
            clear hs
            generalize nSite k = s at EBk DB DL Hs
            generalize mBoth p q k = bt at ER DB
            generalize mLess p q k = ls at EA DL
            generalize (List.range k).any (mBoth p q) = sv at ER ⊢
            generalize (List.range k).all (mLess p q) = lv at EA ⊢
            generalize hnv : (n0r && lv) = nv
            have HNV := Lib.hid hnv
            clear hnv
            obtain ⟨t1, E1⟩ : ∃ v, mMatchSite p s = v := ⟨_, rfl⟩
            obtain ⟨t2, E2⟩ : ∃ v, mMatchSite q s = v := ⟨_, rfl⟩
            obtain ⟨t3, E3⟩ : ∃ v, mMatchSite m s = v := ⟨_, rfl⟩
            replace DB := Lib.hid (show bt = (t1 && t2) by rw [DB, E1, E2])
            replace DL := Lib.hid (show ls = (!t1 || t2) by rw [DL, E1, E2])
            replace EBk := Lib.hid (show bt = (ok && t3) by rw [DB.out, ← E1, ← E2, EBk.out, E3])
            have hk1 : 1 + ((k / 10 : Nat) : Int) = s.f0 := by rw [Hs.out]
            have hk2 : ((k % 10 : Nat) : Int) = s.f1 := by rw [Hs.out]
            clear Hs
            generalize ((k / 10 : Nat) : Int) = d1 at e1 e3 hk1
            generalize ((k % 10 : Nat) : Int) = d2 at e2 e4 hk2
            subst hk2
            have KS := Lib.hid (show BoxAt (World.alloc wr (.cells #[.int .i64 0, .int .i64 0] 31)) wr.heap.size 31 #[.int .i64 0, .int .i64 0] from by simpa using box_new wr 31 #[.int .i64 0, .int .i64 0])
            replace KP := Lib.hid (KP.out.alloc_ (.cells #[.int .i64 0, .int .i64 0] 31))
            replace KQ := Lib.hid (KQ.out.alloc_ (.cells #[.int .i64 0, .int .i64 0] 31))
            replace KM := Lib.hid (KM.out.alloc_ (.cells #[.int .i64 0, .int .i64 0] 31))
            replace HB := Lib.hid (HB.out.alloc (by have := HB.out.size; (try simp at this ⊢); omega) (.cells #[.int .i64 0, .int .i64 0] 31))
            obtain ⟨w9, hx⟩ : ∃ x, x = World.setRow (World.alloc wr (.cells #[.int .i64 0, .int .i64 0] 31)) wr.heap.size #[.int .i64 s.f0, .int .i64 s.f1] := ⟨_, rfl⟩
            have HX9 := Lib.hid hx
            have OLD9 := KS
            replace KP := Lib.hid (show BoxAt w9 w2.heap.size 25 #[.int .i64 p.f0, .int .i64 p.f1] by rw [hx]; exact box_far KP.out (by omega))
            replace KQ := Lib.hid (show BoxAt w9 (w2.heap.size + 1) 25 #[.int .i64 q.f0, .int .i64 q.f1] by rw [hx]; exact box_far KQ.out (by omega))
            replace KM := Lib.hid (show BoxAt w9 w5.heap.size 25 #[.int .i64 m.f0, .int .i64 m.f1] by rw [hx]; exact box_far KM.out (by omega))
            replace KS := Lib.hid (show BoxAt w9 wr.heap.size 31 #[.int .i64 s.f0, .int .i64 s.f1] by rw [hx]; exact box_row KS.out)
            replace HB := Lib.hid (show Below w.heap.size w w9 by rw [hx]; exact below_setRow HB.out (by omega) _)
            clear hx
            have lKP : w2.heap.size < w9.heap.size := KP.out.lt
            have lKQ : (w2.heap.size + 1) < w9.heap.size := KQ.out.lt
            have lKM : w5.heap.size < w9.heap.size := KM.out.lt
            have lKS : wr.heap.size < w9.heap.size := KS.out.lt
            go_upto_region 13 with (refine wpList_store_row rfl 31 _ _ rfl wr.heap.size #[.int .i64 s.f0, .int .i64 s.f1] rfl rfl 31 _ OLD9.out (by kernel_rfl) (by kernel_rfl) (by kernel_rfl) ?_; rw [← HX9.out]; clear HX9 OLD9)
            try simp only [Act.put]
            clear e1 e2 e3 e4 hk1
            go_cut [11] (fun s11 wx => s11 = .bool bt ∧ Hid (BoxAt wx w2.heap.size 25 #[.int .i64 p.f0, .int .i64 p.f1]) ∧ Hid (BoxAt wx (w2.heap.size + 1) 25 #[.int .i64 q.f0, .int .i64 q.f1]) ∧ Hid (BoxAt wx w5.heap.size 25 #[.int .i64 m.f0, .int .i64 m.f1]) ∧ Hid (BoxAt wx wr.heap.size 31 #[.int .i64 s.f0, .int .i64 s.f1]) ∧ Hid (Below w.heap.size w wx))
            case first =>
              have kKP0 := KP.out.at_ (j := 0) rfl
              have kKP1 := KP.out.at_ (j := 1) rfl
              have kKS0 := KS.out.at_ (j := 0) rfl
              have kKS1 := KS.out.at_ (j := 1) rfl
              go_wp2_with fail
              clear kKP0 kKP1 kKS0 kKS1
              refine Calls.mono (mats_eq p s _ E1 _) ?_
              rintro e w10 ⟨rfl, hb⟩
              replace KP := Lib.hid (KP.out.new hb)
              replace KQ := Lib.hid (KQ.out.new hb)
              replace KM := Lib.hid (KM.out.new hb)
              replace KS := Lib.hid (KS.out.new hb)
              replace HB := Lib.hid (below_trans HB.out hb (Nat.le_refl _))
              clear hb
              have lKP : w2.heap.size < w10.heap.size := KP.out.lt
              have lKQ : (w2.heap.size + 1) < w10.heap.size := KQ.out.lt
              have lKM : w5.heap.size < w10.heap.size := KM.out.lt
              have lKS : wr.heap.size < w10.heap.size := KS.out.lt
              cases t1 with
              | false =>
                go_wp2_with fail
                go_meet
                case rel => exact ⟨by rw [DB.out]; rfl, KP, KQ, KM, KS, HB⟩
              | true =>
                have kKQ0 := KQ.out.at_ (j := 0) rfl
                have kKQ1 := KQ.out.at_ (j := 1) rfl
                have kKS0 := KS.out.at_ (j := 0) rfl
                have kKS1 := KS.out.at_ (j := 1) rfl
                go_wp2_with fail
                clear kKQ0 kKQ1 kKS0 kKS1
                refine Calls.mono (mats_eq q s _ E2 _) ?_
                rintro e w11 ⟨rfl, hb⟩
                replace KP := Lib.hid (KP.out.new hb)
                replace KQ := Lib.hid (KQ.out.new hb)
                replace KM := Lib.hid (KM.out.new hb)
                replace KS := Lib.hid (KS.out.new hb)
                replace HB := Lib.hid (below_trans HB.out hb (Nat.le_refl _))
                clear hb
                have lKP : w2.heap.size < w11.heap.size := KP.out.lt
                have lKQ : (w2.heap.size + 1) < w11.heap.size := KQ.out.lt
                have lKM : w5.heap.size < w11.heap.size := KM.out.lt
                have lKS : wr.heap.size < w11.heap.size := KS.out.lt
                go_wp2_with fail
                go_meet
                case rel => exact ⟨by rw [DB.out]; rfl, KP, KQ, KM, KS, HB⟩
            case rest =>
              obtain ⟨rfl, KP, KQ, KM, KS, HB⟩ := hcut
              have lKP : w2.heap.size < wc.heap.size := KP.out.lt
              have lKQ : (w2.heap.size + 1) < wc.heap.size := KQ.out.lt
              have lKM : w5.heap.size < wc.heap.size := KM.out.lt
              have lKS : wr.heap.size < wc.heap.size := KS.out.lt
              go_upto_region 14 with fail
              try simp only [Act.put]
              go_cut [61] (fun s61 wx => s61 = .bool false ∧ Hid (BoxAt wx w2.heap.size 25 #[.int .i64 p.f0, .int .i64 p.f1]) ∧ Hid (BoxAt wx (w2.heap.size + 1) 25 #[.int .i64 q.f0, .int .i64 q.f1]) ∧ Hid (BoxAt wx w5.heap.size 25 #[.int .i64 m.f0, .int .i64 m.f1]) ∧ Hid (BoxAt wx wr.heap.size 31 #[.int .i64 s.f0, .int .i64 s.f1]) ∧ Hid (Below w.heap.size w wx))
              case first =>
                cases ok with
                | false =>
                  have hbt : bt = false := by rw [EBk.out]; rfl
                  subst hbt
                  go_wp2_with fail
                  go_meet
                  case rel => exact ⟨rfl, KP, KQ, KM, KS, HB⟩
                | true =>
                  have hbt : t3 = bt := by rw [EBk.out]; rfl
                  subst hbt
                  have kKM0 := KM.out.at_ (j := 0) rfl
                  have kKM1 := KM.out.at_ (j := 1) rfl
                  have kKS0 := KS.out.at_ (j := 0) rfl
                  have kKS1 := KS.out.at_ (j := 1) rfl
                  go_wp2_with fail
                  clear kKM0 kKM1 kKS0 kKS1
                  refine Calls.mono (mats_eq m s _ E3 _) ?_
                  rintro e w11 ⟨rfl, hb⟩
                  replace KP := Lib.hid (KP.out.new hb)
                  replace KQ := Lib.hid (KQ.out.new hb)
                  replace KM := Lib.hid (KM.out.new hb)
                  replace KS := Lib.hid (KS.out.new hb)
                  replace HB := Lib.hid (below_trans HB.out hb (Nat.le_refl _))
                  clear hb
                  have lKP : w2.heap.size < w11.heap.size := KP.out.lt
                  have lKQ : (w2.heap.size + 1) < w11.heap.size := KQ.out.lt
                  have lKM : w5.heap.size < w11.heap.size := KM.out.lt
                  have lKS : wr.heap.size < w11.heap.size := KS.out.lt
                  go_wp2_with fail
                  go_meet
                  case rel => exact ⟨by first | rfl | simp, KP, KQ, KM, KS, HB⟩
              case rest =>
                obtain ⟨rfl, KP, KQ, KM, KS, HB⟩ := hcut
                have lKP : w2.heap.size < wc.heap.size := KP.out.lt
                have lKQ : (w2.heap.size + 1) < wc.heap.size := KQ.out.lt
                have lKM : w5.heap.size < wc.heap.size := KM.out.lt
                have lKS : wr.heap.size < wc.heap.size := KS.out.lt
                go_upto_region 16 with fail
                try simp only [Act.put]
                go_cut [8] (fun s8 wx => s8 = .bool (sv || bt) ∧ Hid (BoxAt wx w2.heap.size 25 #[.int .i64 p.f0, .int .i64 p.f1]) ∧ Hid (BoxAt wx (w2.heap.size + 1) 25 #[.int .i64 q.f0, .int .i64 q.f1]) ∧ Hid (BoxAt wx w5.heap.size 25 #[.int .i64 m.f0, .int .i64 m.f1]) ∧ Hid (BoxAt wx wr.heap.size 31 #[.int .i64 s.f0, .int .i64 s.f1]) ∧ Hid (Below w.heap.size w wx))
                case first =>
                  cases sv with
                  | false =>
                    go_wp2_with fail
                    go_meet
                    case rel => exact ⟨by first | rfl | simp, KP, KQ, KM, KS, HB⟩
                  | true =>
                    go_wp2_with fail
                    go_meet
                    case rel => exact ⟨by first | rfl | simp, KP, KQ, KM, KS, HB⟩
                case rest =>
                  obtain ⟨rfl, KP, KQ, KM, KS, HB⟩ := hcut
                  have lKP : w2.heap.size < wc.heap.size := KP.out.lt
                  have lKQ : (w2.heap.size + 1) < wc.heap.size := KQ.out.lt
                  have lKM : w5.heap.size < wc.heap.size := KM.out.lt
                  have lKS : wr.heap.size < wc.heap.size := KS.out.lt
                  cases nv with
                  | false =>
                    go_wp2_with fail
                    go_roundg (90 - (k + 1))
                    case measure => omega
                    case rel => exact ⟨k + 1, by omega, by omega, by rw [EA.out, ← Bool.and_assoc, HNV.out] <;> rfl, by rw [ER.out], by go_num, KP, KQ, KM, HB⟩
                  | true =>
                    have kKP0 := KP.out.at_ (j := 0) rfl
                    have kKP1 := KP.out.at_ (j := 1) rfl
                    have kKS0 := KS.out.at_ (j := 0) rfl
                    have kKS1 := KS.out.at_ (j := 1) rfl
                    go_wp2_with fail
                    clear kKP0 kKP1 kKS0 kKS1
                    refine Calls.mono (mats_eq p s _ E1 _) ?_
                    rintro e w13 ⟨rfl, hb⟩
                    replace KP := Lib.hid (KP.out.new hb)
                    replace KQ := Lib.hid (KQ.out.new hb)
                    replace KM := Lib.hid (KM.out.new hb)
                    replace KS := Lib.hid (KS.out.new hb)
                    replace HB := Lib.hid (below_trans HB.out hb (Nat.le_refl _))
                    clear hb
                    have lKP : w2.heap.size < w13.heap.size := KP.out.lt
                    have lKQ : (w2.heap.size + 1) < w13.heap.size := KQ.out.lt
                    have lKM : w5.heap.size < w13.heap.size := KM.out.lt
                    have lKS : wr.heap.size < w13.heap.size := KS.out.lt
                    cases t1 with
                    | false =>
                      go_wp2_with fail
                      go_roundg (90 - (k + 1))
                      case measure => omega
                      case rel => exact ⟨k + 1, by omega, by omega, by rw [EA.out, ← Bool.and_assoc, HNV.out, DL.out] <;> rfl, by rw [ER.out], by go_num, KP, KQ, KM, HB⟩
                    | true =>
                      have kKQ0 := KQ.out.at_ (j := 0) rfl
                      have kKQ1 := KQ.out.at_ (j := 1) rfl
                      have kKS0 := KS.out.at_ (j := 0) rfl
                      have kKS1 := KS.out.at_ (j := 1) rfl
                      go_wp2_with fail
                      clear kKQ0 kKQ1 kKS0 kKS1
                      refine Calls.mono (mats_eq q s _ E2 _) ?_
                      rintro e w14 ⟨rfl, hb⟩
                      replace KP := Lib.hid (KP.out.new hb)
                      replace KQ := Lib.hid (KQ.out.new hb)
                      replace KM := Lib.hid (KM.out.new hb)
                      replace KS := Lib.hid (KS.out.new hb)
                      replace HB := Lib.hid (below_trans HB.out hb (Nat.le_refl _))
                      clear hb
                      have lKP : w2.heap.size < w14.heap.size := KP.out.lt
                      have lKQ : (w2.heap.size + 1) < w14.heap.size := KQ.out.lt
                      have lKM : w5.heap.size < w14.heap.size := KM.out.lt
                      have lKS : wr.heap.size < w14.heap.size := KS.out.lt
                      go_wp2_with fail
                      go_roundg (90 - (k + 1))
                      case measure => omega
                      case rel => exact ⟨k + 1, by omega, by omega, by rw [EA.out, ← Bool.and_assoc, HNV.out, DL.out] <;> rfl, by rw [ER.out], by go_num, KP, KQ, KM, HB⟩
          · obtain rfl : k = 90 := by omega
            rw [ES.out, EL.out]
            obtain ⟨st, hst⟩ : ∃ st : ByteArray, st = ⟨(tPat p).toArray⟩ := ⟨_, rfl⟩
            have HS : st.toList.isEmpty = !ip := by rw [hst, tPat_str, EP]
            have CT := Lib.hid (fun (W : World) (hb : Below w.heap.size w W) => show Calls Tryd.prog 14 #[.agg #[.int .i64 p.f0, .int .i64 p.f1]] W (Says (.string st) W) by rw [hst]; exact impl_PatternText p W (pow10_below HT.out hb) HP)
            clear hst ES EL EB
            cases ok <;> cases nr <;> cases ip <;> simp only [Bool.not_true, Bool.not_false] at HS
            · skip
              go_wp2_with fail
              refine wp_region_held_drew (S := fun w' => BoxAt w' w2.heap.size 25 #[.int .i64 p.f0, .int .i64 p.f1] ∧ BoxAt w' (w2.heap.size + 1) 25 #[.int .i64 q.f0, .int .i64 q.f1] ∧ BoxAt w' w5.heap.size 25 #[.int .i64 m.f0, .int .i64 m.f1] ∧ Below w.heap.size w w') (by kernel_rfl) ?_ (fun hHeld => ?_)
              · exact ⟨KP.out.drw, KQ.out.drw, KM.out.drw, HB.out.drew⟩
              refine wpAnyH_take (i := 0) (oi := ⟨some 78, _, _, _, _, _⟩) (v := ?_) rfl (by kernel_rfl) (by kernel_rfl) (by kernel_rfl) (fun _ _ _ h => h) (Or.inl ⟨by kernel_rfl, ?_⟩) hHeld ?_
              rotate_left
              focus (intro W hS; skip; clear hS; first | (go_simp; done) | (go_simp; with_reducible rfl))
              try simp only [Act.put, List.setIfInBounds_toArray, List.set_cons_zero, List.set_cons_succ]
              refine wpAnyH_take (i := 1) (oi := ⟨some 79, _, _, _, _, _⟩) (v := ?_) rfl (by kernel_rfl) (by kernel_rfl) (by kernel_rfl) (fun _ _ _ h => h) (Or.inl ⟨by kernel_rfl, ?_⟩) hHeld ?_
              rotate_left
              focus (intro W hS; skip; clear hS; first | (go_simp; done) | (go_simp; with_reducible rfl))
              try simp only [Act.put, List.setIfInBounds_toArray, List.set_cons_zero, List.set_cons_succ]
              refine wpAnyH_take (i := 2) (oi := ⟨some 80, _, _, _, _, _⟩) (v := ?_) rfl (by kernel_rfl) (by kernel_rfl) (by kernel_rfl) (fun _ _ _ h => h) (Or.inl ⟨by kernel_rfl, ?_⟩) hHeld ?_
              rotate_left
              focus (intro W hS; skip; clear hS; first | (go_simp; done) | (go_simp; with_reducible rfl))
              try simp only [Act.put, List.setIfInBounds_toArray, List.set_cons_zero, List.set_cons_succ]
              refine wpAnyH_take (i := 3) (oi := ⟨some 81, _, _, _, _, _⟩) (v := ?_) rfl (by kernel_rfl) (by kernel_rfl) (by kernel_rfl) (fun _ _ _ h => h) (Or.inl ⟨by kernel_rfl, ?_⟩) hHeld ?_
              rotate_left
              focus (intro W hS; skip; clear hS; first | (go_simp; done) | (go_simp; with_reducible rfl))
              try simp only [Act.put, List.setIfInBounds_toArray, List.set_cons_zero, List.set_cons_succ]
              refine wpAnyH_take (i := 4) (oi := ⟨some 82, _, _, _, _, _⟩) (v := ?_) rfl (by kernel_rfl) (by kernel_rfl) (by kernel_rfl) (fun _ _ _ h => h) (Or.inl ⟨by kernel_rfl, ?_⟩) hHeld ?_
              rotate_left
              focus (intro W hS; skip; clear hS; first | (go_simp; done) | (go_simp; with_reducible rfl))
              try simp only [Act.put, List.setIfInBounds_toArray, List.set_cons_zero, List.set_cons_succ]
              refine wpAnyH_take (i := 5) (oi := ⟨some 83, _, _, _, _, _⟩) (v := ?_) rfl (by kernel_rfl) (by kernel_rfl) (by kernel_rfl) (fun _ _ _ h => h) (Or.inl ⟨by kernel_rfl, ?_⟩) hHeld ?_
              rotate_left
              focus (intro W hS; have c0_0 := (hS.1).at_ (j := 0) rfl; have c0_1 := (hS.1).at_ (j := 1) rfl; have c1_0 := (hS.2.1).at_ (j := 0) rfl; have c1_1 := (hS.2.1).at_ (j := 1) rfl; have c2_0 := (hS.2.2.1).at_ (j := 0) rfl; have c2_1 := (hS.2.2.1).at_ (j := 1) rfl; clear hS; first | (go_simp; done) | (go_simp; with_reducible rfl))
              try simp only [Act.put, List.setIfInBounds_toArray, List.set_cons_zero, List.set_cons_succ]
              refine wpAnyH_take (i := 6) (oi := ⟨some 84, _, _, _, _, _⟩) (v := ?_) rfl (by kernel_rfl) (by kernel_rfl) (by kernel_rfl) (fun _ _ _ h => h) (Or.inl ⟨by kernel_rfl, ?_⟩) hHeld ?_
              rotate_left
              focus (intro W hS; have c0_0 := (hS.1).at_ (j := 0) rfl; have c0_1 := (hS.1).at_ (j := 1) rfl; have c1_0 := (hS.2.1).at_ (j := 0) rfl; have c1_1 := (hS.2.1).at_ (j := 1) rfl; have c2_0 := (hS.2.2.1).at_ (j := 0) rfl; have c2_1 := (hS.2.2.1).at_ (j := 1) rfl; clear hS; first | (go_simp; done) | (go_simp; with_reducible rfl))
              try simp only [Act.put, List.setIfInBounds_toArray, List.set_cons_zero, List.set_cons_succ]
              refine wpAnyH_ready (rs := [7]) (by kernel_rfl) (by simp) ?_
              refine AllReadyH.cons (o := ⟨some 85, _, _, _, _, _⟩) rfl (fun K hK => ?_) AllReadyH.nil
              go_simp
              refine Calls.mono (inar_eq p q _ ENR _) ?_
              rintro e x1 ⟨rfl, hb1⟩
              refine hK.out _ _ ⟨hHeld.1.new hb1, hHeld.2.1.new hb1, hHeld.2.2.1.new hb1, below_trans hHeld.2.2.2 hb1 (Nat.le_refl _)⟩ (fun hHeld' => ?_)
              clear hK K hHeld hb1
              have hHeld := hHeld'
              clear hHeld'
              try simp only [Act.put, List.setIfInBounds_toArray, List.set_cons_zero, List.set_cons_succ]
              refine wpAnyH_take (i := 8) (oi := ⟨some 86, _, _, _, _, _⟩) (v := ?_) rfl (by kernel_rfl) (by kernel_rfl) (by kernel_rfl) (fun _ _ _ h => h) (Or.inl ⟨by kernel_rfl, ?_⟩) hHeld ?_
              rotate_left
              focus (intro W hS; skip; clear hS; first | (go_simp; done) | (go_simp; with_reducible rfl))
              try simp only [Act.put, List.setIfInBounds_toArray, List.set_cons_zero, List.set_cons_succ]
              refine wpAnyH_take (i := 9) (oi := ⟨some 87, _, _, _, _, _⟩) (v := ?_) rfl (by kernel_rfl) (by kernel_rfl) (by kernel_rfl) (fun _ _ _ h => h) (Or.inl ⟨by kernel_rfl, ?_⟩) hHeld ?_
              rotate_left
              focus (intro W hS; skip; clear hS; first | (go_simp; done) | (go_simp; with_reducible rfl))
              try simp only [Act.put, List.setIfInBounds_toArray, List.set_cons_zero, List.set_cons_succ]
              refine wpAnyH_take (i := 10) (oi := ⟨some 88, _, _, _, _, _⟩) (v := ?_) rfl (by kernel_rfl) (by kernel_rfl) (by kernel_rfl) (fun _ _ _ h => h) (Or.inl ⟨by kernel_rfl, ?_⟩) hHeld ?_
              rotate_left
              focus (intro W hS; skip; clear hS; first | (go_simp; done) | (go_simp; with_reducible rfl))
              try simp only [Act.put, List.setIfInBounds_toArray, List.set_cons_zero, List.set_cons_succ]
              refine wpAnyH_take (i := 11) (oi := ⟨some 89, _, _, _, _, _⟩) (v := ?_) rfl (by kernel_rfl) (by kernel_rfl) (by kernel_rfl) (fun _ _ _ h => h) (Or.inl ⟨by kernel_rfl, ?_⟩) hHeld ?_
              rotate_left
              focus (intro W hS; have c0_0 := (hS.1).at_ (j := 0) rfl; have c0_1 := (hS.1).at_ (j := 1) rfl; have c1_0 := (hS.2.1).at_ (j := 0) rfl; have c1_1 := (hS.2.1).at_ (j := 1) rfl; have c2_0 := (hS.2.2.1).at_ (j := 0) rfl; have c2_1 := (hS.2.2.1).at_ (j := 1) rfl; clear hS; first | (go_simp; done) | (go_simp; with_reducible rfl))
              try simp only [Act.put, List.setIfInBounds_toArray, List.set_cons_zero, List.set_cons_succ]
              refine wpAnyH_take (i := 14) (oi := ⟨some 92, _, _, _, _, _⟩) (v := ?_) rfl (by kernel_rfl) (by kernel_rfl) (by kernel_rfl) (fun _ _ _ h => h) (Or.inl ⟨by kernel_rfl, ?_⟩) hHeld ?_
              rotate_left
              focus (intro W hS; have c0_0 := (hS.1).at_ (j := 0) rfl; have c0_1 := (hS.1).at_ (j := 1) rfl; have c1_0 := (hS.2.1).at_ (j := 0) rfl; have c1_1 := (hS.2.1).at_ (j := 1) rfl; have c2_0 := (hS.2.2.1).at_ (j := 0) rfl; have c2_1 := (hS.2.2.1).at_ (j := 1) rfl; clear hS; first | (go_simp; done) | (go_simp; with_reducible rfl))
              try simp only [Act.put, List.setIfInBounds_toArray, List.set_cons_zero, List.set_cons_succ]
              refine wpAnyH_ready (rs := [12]) (by kernel_rfl) (by simp) ?_
              refine AllReadyH.cons (o := ⟨some 90, _, _, _, _, _⟩) rfl (fun K hK => ?_) AllReadyH.nil
              go_simp
              refine Calls.mono (CT.out _ hHeld.2.2.2) ?_
              rintro e x2 ⟨rfl, hb1⟩
              refine hK.out _ _ ⟨hHeld.1.new hb1, hHeld.2.1.new hb1, hHeld.2.2.1.new hb1, below_trans hHeld.2.2.2 hb1 (Nat.le_refl _)⟩ (fun hHeld' => ?_)
              clear hK K hHeld hb1
              have hHeld := hHeld'
              clear hHeld'
              try simp only [Act.put, List.setIfInBounds_toArray, List.set_cons_zero, List.set_cons_succ]
              refine wpAnyH_take (i := 13) (oi := ⟨some 91, _, _, _, _, _⟩) (v := ?_) rfl (by kernel_rfl) (by kernel_rfl) (by kernel_rfl) (fun _ _ _ h => h) (Or.inl ⟨by kernel_rfl, ?_⟩) hHeld ?_
              rotate_left
              focus (intro W hS; skip; clear hS; first | (go_simp; done) | (go_simp; with_reducible rfl))
              try simp only [Act.put, List.setIfInBounds_toArray, List.set_cons_zero, List.set_cons_succ]
              refine wpAnyH_ready (rs := [15]) (by kernel_rfl) (by simp) ?_
              refine AllReadyH.cons (o := ⟨some 93, _, _, _, _, _⟩) rfl (fun K hK => ?_) AllReadyH.nil
              go_simp
              refine Calls.mono (ipat_eq p _ EP _) ?_
              rintro e x3 ⟨rfl, hb1⟩
              refine hK.out _ _ ⟨hHeld.1.new hb1, hHeld.2.1.new hb1, hHeld.2.2.1.new hb1, below_trans hHeld.2.2.2 hb1 (Nat.le_refl _)⟩ (fun hHeld' => ?_)
              clear hK K hHeld hb1
              have hHeld := hHeld'
              clear hHeld'
              try simp only [Act.put, List.setIfInBounds_toArray, List.set_cons_zero, List.set_cons_succ]
              refine wpAnyH_take (i := 16) (oi := ⟨some 94, _, _, _, _, _⟩) (v := ?_) rfl (by kernel_rfl) (by kernel_rfl) (by kernel_rfl) (fun _ _ _ h => h) (Or.inl ⟨by kernel_rfl, ?_⟩) hHeld ?_
              rotate_left
              focus (intro W hS; skip; clear hS; first | (go_simp; done) | (go_simp; with_reducible rfl))
              try simp only [Act.put, List.setIfInBounds_toArray, List.set_cons_zero, List.set_cons_succ]
              refine wpAnyH_take (i := 17) (oi := ⟨some 95, _, _, _, _, _⟩) (v := ?_) rfl (by kernel_rfl) (by kernel_rfl) (by kernel_rfl) (fun _ _ _ h => h) (Or.inl ⟨by kernel_rfl, ?_⟩) hHeld ?_
              rotate_left
              focus (intro W hS; skip; clear hS; first | (go_simp; done) | (go_simp; with_reducible rfl))
              try simp only [Act.put, List.setIfInBounds_toArray, List.set_cons_zero, List.set_cons_succ]
              refine wpAnyH_take (i := 18) (oi := ⟨some 2, _, _, _, _, _⟩) (v := ?_) rfl (by kernel_rfl) (by kernel_rfl) (by kernel_rfl) (fun _ _ _ h => h) (Or.inl ⟨by kernel_rfl, ?_⟩) hHeld ?_
              rotate_left
              focus (intro W hS; skip; clear hS; first | (go_simp; done) | (go_simp; with_reducible rfl))
              try simp only [Act.put, List.setIfInBounds_toArray, List.set_cons_zero, List.set_cons_succ]
              refine wpAnyH_done (by kernel_rfl) ?_ _
              go_wp2_with fail
              go_ret
              exact ⟨by first | rfl | simp [HS], hHeld.2.2.2⟩
            · skip
              go_wp2_with fail
              refine wp_region_held_drew (S := fun w' => BoxAt w' w2.heap.size 25 #[.int .i64 p.f0, .int .i64 p.f1] ∧ BoxAt w' (w2.heap.size + 1) 25 #[.int .i64 q.f0, .int .i64 q.f1] ∧ BoxAt w' w5.heap.size 25 #[.int .i64 m.f0, .int .i64 m.f1] ∧ Below w.heap.size w w') (by kernel_rfl) ?_ (fun hHeld => ?_)
              · exact ⟨KP.out.drw, KQ.out.drw, KM.out.drw, HB.out.drew⟩
              refine wpAnyH_take (i := 0) (oi := ⟨some 78, _, _, _, _, _⟩) (v := ?_) rfl (by kernel_rfl) (by kernel_rfl) (by kernel_rfl) (fun _ _ _ h => h) (Or.inl ⟨by kernel_rfl, ?_⟩) hHeld ?_
              rotate_left
              focus (intro W hS; skip; clear hS; first | (go_simp; done) | (go_simp; with_reducible rfl))
              try simp only [Act.put, List.setIfInBounds_toArray, List.set_cons_zero, List.set_cons_succ]
              refine wpAnyH_take (i := 1) (oi := ⟨some 79, _, _, _, _, _⟩) (v := ?_) rfl (by kernel_rfl) (by kernel_rfl) (by kernel_rfl) (fun _ _ _ h => h) (Or.inl ⟨by kernel_rfl, ?_⟩) hHeld ?_
              rotate_left
              focus (intro W hS; skip; clear hS; first | (go_simp; done) | (go_simp; with_reducible rfl))
              try simp only [Act.put, List.setIfInBounds_toArray, List.set_cons_zero, List.set_cons_succ]
              refine wpAnyH_take (i := 2) (oi := ⟨some 80, _, _, _, _, _⟩) (v := ?_) rfl (by kernel_rfl) (by kernel_rfl) (by kernel_rfl) (fun _ _ _ h => h) (Or.inl ⟨by kernel_rfl, ?_⟩) hHeld ?_
              rotate_left
              focus (intro W hS; skip; clear hS; first | (go_simp; done) | (go_simp; with_reducible rfl))
              try simp only [Act.put, List.setIfInBounds_toArray, List.set_cons_zero, List.set_cons_succ]
              refine wpAnyH_take (i := 3) (oi := ⟨some 81, _, _, _, _, _⟩) (v := ?_) rfl (by kernel_rfl) (by kernel_rfl) (by kernel_rfl) (fun _ _ _ h => h) (Or.inl ⟨by kernel_rfl, ?_⟩) hHeld ?_
              rotate_left
              focus (intro W hS; skip; clear hS; first | (go_simp; done) | (go_simp; with_reducible rfl))
              try simp only [Act.put, List.setIfInBounds_toArray, List.set_cons_zero, List.set_cons_succ]
              refine wpAnyH_take (i := 4) (oi := ⟨some 82, _, _, _, _, _⟩) (v := ?_) rfl (by kernel_rfl) (by kernel_rfl) (by kernel_rfl) (fun _ _ _ h => h) (Or.inl ⟨by kernel_rfl, ?_⟩) hHeld ?_
              rotate_left
              focus (intro W hS; skip; clear hS; first | (go_simp; done) | (go_simp; with_reducible rfl))
              try simp only [Act.put, List.setIfInBounds_toArray, List.set_cons_zero, List.set_cons_succ]
              refine wpAnyH_take (i := 5) (oi := ⟨some 83, _, _, _, _, _⟩) (v := ?_) rfl (by kernel_rfl) (by kernel_rfl) (by kernel_rfl) (fun _ _ _ h => h) (Or.inl ⟨by kernel_rfl, ?_⟩) hHeld ?_
              rotate_left
              focus (intro W hS; have c0_0 := (hS.1).at_ (j := 0) rfl; have c0_1 := (hS.1).at_ (j := 1) rfl; have c1_0 := (hS.2.1).at_ (j := 0) rfl; have c1_1 := (hS.2.1).at_ (j := 1) rfl; have c2_0 := (hS.2.2.1).at_ (j := 0) rfl; have c2_1 := (hS.2.2.1).at_ (j := 1) rfl; clear hS; first | (go_simp; done) | (go_simp; with_reducible rfl))
              try simp only [Act.put, List.setIfInBounds_toArray, List.set_cons_zero, List.set_cons_succ]
              refine wpAnyH_take (i := 6) (oi := ⟨some 84, _, _, _, _, _⟩) (v := ?_) rfl (by kernel_rfl) (by kernel_rfl) (by kernel_rfl) (fun _ _ _ h => h) (Or.inl ⟨by kernel_rfl, ?_⟩) hHeld ?_
              rotate_left
              focus (intro W hS; have c0_0 := (hS.1).at_ (j := 0) rfl; have c0_1 := (hS.1).at_ (j := 1) rfl; have c1_0 := (hS.2.1).at_ (j := 0) rfl; have c1_1 := (hS.2.1).at_ (j := 1) rfl; have c2_0 := (hS.2.2.1).at_ (j := 0) rfl; have c2_1 := (hS.2.2.1).at_ (j := 1) rfl; clear hS; first | (go_simp; done) | (go_simp; with_reducible rfl))
              try simp only [Act.put, List.setIfInBounds_toArray, List.set_cons_zero, List.set_cons_succ]
              refine wpAnyH_ready (rs := [7]) (by kernel_rfl) (by simp) ?_
              refine AllReadyH.cons (o := ⟨some 85, _, _, _, _, _⟩) rfl (fun K hK => ?_) AllReadyH.nil
              go_simp
              refine Calls.mono (inar_eq p q _ ENR _) ?_
              rintro e x1 ⟨rfl, hb1⟩
              refine hK.out _ _ ⟨hHeld.1.new hb1, hHeld.2.1.new hb1, hHeld.2.2.1.new hb1, below_trans hHeld.2.2.2 hb1 (Nat.le_refl _)⟩ (fun hHeld' => ?_)
              clear hK K hHeld hb1
              have hHeld := hHeld'
              clear hHeld'
              try simp only [Act.put, List.setIfInBounds_toArray, List.set_cons_zero, List.set_cons_succ]
              refine wpAnyH_take (i := 8) (oi := ⟨some 86, _, _, _, _, _⟩) (v := ?_) rfl (by kernel_rfl) (by kernel_rfl) (by kernel_rfl) (fun _ _ _ h => h) (Or.inl ⟨by kernel_rfl, ?_⟩) hHeld ?_
              rotate_left
              focus (intro W hS; skip; clear hS; first | (go_simp; done) | (go_simp; with_reducible rfl))
              try simp only [Act.put, List.setIfInBounds_toArray, List.set_cons_zero, List.set_cons_succ]
              refine wpAnyH_take (i := 9) (oi := ⟨some 87, _, _, _, _, _⟩) (v := ?_) rfl (by kernel_rfl) (by kernel_rfl) (by kernel_rfl) (fun _ _ _ h => h) (Or.inl ⟨by kernel_rfl, ?_⟩) hHeld ?_
              rotate_left
              focus (intro W hS; skip; clear hS; first | (go_simp; done) | (go_simp; with_reducible rfl))
              try simp only [Act.put, List.setIfInBounds_toArray, List.set_cons_zero, List.set_cons_succ]
              refine wpAnyH_take (i := 10) (oi := ⟨some 88, _, _, _, _, _⟩) (v := ?_) rfl (by kernel_rfl) (by kernel_rfl) (by kernel_rfl) (fun _ _ _ h => h) (Or.inl ⟨by kernel_rfl, ?_⟩) hHeld ?_
              rotate_left
              focus (intro W hS; skip; clear hS; first | (go_simp; done) | (go_simp; with_reducible rfl))
              try simp only [Act.put, List.setIfInBounds_toArray, List.set_cons_zero, List.set_cons_succ]
              refine wpAnyH_take (i := 11) (oi := ⟨some 89, _, _, _, _, _⟩) (v := ?_) rfl (by kernel_rfl) (by kernel_rfl) (by kernel_rfl) (fun _ _ _ h => h) (Or.inl ⟨by kernel_rfl, ?_⟩) hHeld ?_
              rotate_left
              focus (intro W hS; have c0_0 := (hS.1).at_ (j := 0) rfl; have c0_1 := (hS.1).at_ (j := 1) rfl; have c1_0 := (hS.2.1).at_ (j := 0) rfl; have c1_1 := (hS.2.1).at_ (j := 1) rfl; have c2_0 := (hS.2.2.1).at_ (j := 0) rfl; have c2_1 := (hS.2.2.1).at_ (j := 1) rfl; clear hS; first | (go_simp; done) | (go_simp; with_reducible rfl))
              try simp only [Act.put, List.setIfInBounds_toArray, List.set_cons_zero, List.set_cons_succ]
              refine wpAnyH_take (i := 14) (oi := ⟨some 92, _, _, _, _, _⟩) (v := ?_) rfl (by kernel_rfl) (by kernel_rfl) (by kernel_rfl) (fun _ _ _ h => h) (Or.inl ⟨by kernel_rfl, ?_⟩) hHeld ?_
              rotate_left
              focus (intro W hS; have c0_0 := (hS.1).at_ (j := 0) rfl; have c0_1 := (hS.1).at_ (j := 1) rfl; have c1_0 := (hS.2.1).at_ (j := 0) rfl; have c1_1 := (hS.2.1).at_ (j := 1) rfl; have c2_0 := (hS.2.2.1).at_ (j := 0) rfl; have c2_1 := (hS.2.2.1).at_ (j := 1) rfl; clear hS; first | (go_simp; done) | (go_simp; with_reducible rfl))
              try simp only [Act.put, List.setIfInBounds_toArray, List.set_cons_zero, List.set_cons_succ]
              refine wpAnyH_ready (rs := [12]) (by kernel_rfl) (by simp) ?_
              refine AllReadyH.cons (o := ⟨some 90, _, _, _, _, _⟩) rfl (fun K hK => ?_) AllReadyH.nil
              go_simp
              refine Calls.mono (CT.out _ hHeld.2.2.2) ?_
              rintro e x2 ⟨rfl, hb1⟩
              refine hK.out _ _ ⟨hHeld.1.new hb1, hHeld.2.1.new hb1, hHeld.2.2.1.new hb1, below_trans hHeld.2.2.2 hb1 (Nat.le_refl _)⟩ (fun hHeld' => ?_)
              clear hK K hHeld hb1
              have hHeld := hHeld'
              clear hHeld'
              try simp only [Act.put, List.setIfInBounds_toArray, List.set_cons_zero, List.set_cons_succ]
              refine wpAnyH_take (i := 13) (oi := ⟨some 91, _, _, _, _, _⟩) (v := ?_) rfl (by kernel_rfl) (by kernel_rfl) (by kernel_rfl) (fun _ _ _ h => h) (Or.inl ⟨by kernel_rfl, ?_⟩) hHeld ?_
              rotate_left
              focus (intro W hS; skip; clear hS; first | (go_simp; done) | (go_simp; with_reducible rfl))
              try simp only [Act.put, List.setIfInBounds_toArray, List.set_cons_zero, List.set_cons_succ]
              refine wpAnyH_ready (rs := [15]) (by kernel_rfl) (by simp) ?_
              refine AllReadyH.cons (o := ⟨some 93, _, _, _, _, _⟩) rfl (fun K hK => ?_) AllReadyH.nil
              go_simp
              refine Calls.mono (ipat_eq p _ EP _) ?_
              rintro e x3 ⟨rfl, hb1⟩
              refine hK.out _ _ ⟨hHeld.1.new hb1, hHeld.2.1.new hb1, hHeld.2.2.1.new hb1, below_trans hHeld.2.2.2 hb1 (Nat.le_refl _)⟩ (fun hHeld' => ?_)
              clear hK K hHeld hb1
              have hHeld := hHeld'
              clear hHeld'
              try simp only [Act.put, List.setIfInBounds_toArray, List.set_cons_zero, List.set_cons_succ]
              refine wpAnyH_take (i := 16) (oi := ⟨some 94, _, _, _, _, _⟩) (v := ?_) rfl (by kernel_rfl) (by kernel_rfl) (by kernel_rfl) (fun _ _ _ h => h) (Or.inl ⟨by kernel_rfl, ?_⟩) hHeld ?_
              rotate_left
              focus (intro W hS; skip; clear hS; first | (go_simp; done) | (go_simp; with_reducible rfl))
              try simp only [Act.put, List.setIfInBounds_toArray, List.set_cons_zero, List.set_cons_succ]
              refine wpAnyH_take (i := 17) (oi := ⟨some 95, _, _, _, _, _⟩) (v := ?_) rfl (by kernel_rfl) (by kernel_rfl) (by kernel_rfl) (fun _ _ _ h => h) (Or.inl ⟨by kernel_rfl, ?_⟩) hHeld ?_
              rotate_left
              focus (intro W hS; skip; clear hS; first | (go_simp; done) | (go_simp; with_reducible rfl))
              try simp only [Act.put, List.setIfInBounds_toArray, List.set_cons_zero, List.set_cons_succ]
              refine wpAnyH_take (i := 18) (oi := ⟨some 2, _, _, _, _, _⟩) (v := ?_) rfl (by kernel_rfl) (by kernel_rfl) (by kernel_rfl) (fun _ _ _ h => h) (Or.inl ⟨by kernel_rfl, ?_⟩) hHeld ?_
              rotate_left
              focus (intro W hS; skip; clear hS; first | (go_simp; done) | (go_simp; with_reducible rfl))
              try simp only [Act.put, List.setIfInBounds_toArray, List.set_cons_zero, List.set_cons_succ]
              refine wpAnyH_done (by kernel_rfl) ?_ _
              go_wp2_with fail
              go_ret
              exact ⟨by first | rfl | simp [HS], hHeld.2.2.2⟩
            · skip
              go_wp2_with fail
              refine wp_region_held_drew (S := fun w' => BoxAt w' w2.heap.size 25 #[.int .i64 p.f0, .int .i64 p.f1] ∧ BoxAt w' (w2.heap.size + 1) 25 #[.int .i64 q.f0, .int .i64 q.f1] ∧ BoxAt w' w5.heap.size 25 #[.int .i64 m.f0, .int .i64 m.f1] ∧ Below w.heap.size w w') (by kernel_rfl) ?_ (fun hHeld => ?_)
              · exact ⟨KP.out.drw, KQ.out.drw, KM.out.drw, HB.out.drew⟩
              refine wpAnyH_take (i := 0) (oi := ⟨some 78, _, _, _, _, _⟩) (v := ?_) rfl (by kernel_rfl) (by kernel_rfl) (by kernel_rfl) (fun _ _ _ h => h) (Or.inl ⟨by kernel_rfl, ?_⟩) hHeld ?_
              rotate_left
              focus (intro W hS; skip; clear hS; first | (go_simp; done) | (go_simp; with_reducible rfl))
              try simp only [Act.put, List.setIfInBounds_toArray, List.set_cons_zero, List.set_cons_succ]
              refine wpAnyH_take (i := 1) (oi := ⟨some 79, _, _, _, _, _⟩) (v := ?_) rfl (by kernel_rfl) (by kernel_rfl) (by kernel_rfl) (fun _ _ _ h => h) (Or.inl ⟨by kernel_rfl, ?_⟩) hHeld ?_
              rotate_left
              focus (intro W hS; skip; clear hS; first | (go_simp; done) | (go_simp; with_reducible rfl))
              try simp only [Act.put, List.setIfInBounds_toArray, List.set_cons_zero, List.set_cons_succ]
              refine wpAnyH_take (i := 2) (oi := ⟨some 80, _, _, _, _, _⟩) (v := ?_) rfl (by kernel_rfl) (by kernel_rfl) (by kernel_rfl) (fun _ _ _ h => h) (Or.inl ⟨by kernel_rfl, ?_⟩) hHeld ?_
              rotate_left
              focus (intro W hS; skip; clear hS; first | (go_simp; done) | (go_simp; with_reducible rfl))
              try simp only [Act.put, List.setIfInBounds_toArray, List.set_cons_zero, List.set_cons_succ]
              refine wpAnyH_take (i := 3) (oi := ⟨some 81, _, _, _, _, _⟩) (v := ?_) rfl (by kernel_rfl) (by kernel_rfl) (by kernel_rfl) (fun _ _ _ h => h) (Or.inl ⟨by kernel_rfl, ?_⟩) hHeld ?_
              rotate_left
              focus (intro W hS; skip; clear hS; first | (go_simp; done) | (go_simp; with_reducible rfl))
              try simp only [Act.put, List.setIfInBounds_toArray, List.set_cons_zero, List.set_cons_succ]
              refine wpAnyH_take (i := 4) (oi := ⟨some 82, _, _, _, _, _⟩) (v := ?_) rfl (by kernel_rfl) (by kernel_rfl) (by kernel_rfl) (fun _ _ _ h => h) (Or.inl ⟨by kernel_rfl, ?_⟩) hHeld ?_
              rotate_left
              focus (intro W hS; skip; clear hS; first | (go_simp; done) | (go_simp; with_reducible rfl))
              try simp only [Act.put, List.setIfInBounds_toArray, List.set_cons_zero, List.set_cons_succ]
              refine wpAnyH_take (i := 5) (oi := ⟨some 83, _, _, _, _, _⟩) (v := ?_) rfl (by kernel_rfl) (by kernel_rfl) (by kernel_rfl) (fun _ _ _ h => h) (Or.inl ⟨by kernel_rfl, ?_⟩) hHeld ?_
              rotate_left
              focus (intro W hS; have c0_0 := (hS.1).at_ (j := 0) rfl; have c0_1 := (hS.1).at_ (j := 1) rfl; have c1_0 := (hS.2.1).at_ (j := 0) rfl; have c1_1 := (hS.2.1).at_ (j := 1) rfl; have c2_0 := (hS.2.2.1).at_ (j := 0) rfl; have c2_1 := (hS.2.2.1).at_ (j := 1) rfl; clear hS; first | (go_simp; done) | (go_simp; with_reducible rfl))
              try simp only [Act.put, List.setIfInBounds_toArray, List.set_cons_zero, List.set_cons_succ]
              refine wpAnyH_take (i := 6) (oi := ⟨some 84, _, _, _, _, _⟩) (v := ?_) rfl (by kernel_rfl) (by kernel_rfl) (by kernel_rfl) (fun _ _ _ h => h) (Or.inl ⟨by kernel_rfl, ?_⟩) hHeld ?_
              rotate_left
              focus (intro W hS; have c0_0 := (hS.1).at_ (j := 0) rfl; have c0_1 := (hS.1).at_ (j := 1) rfl; have c1_0 := (hS.2.1).at_ (j := 0) rfl; have c1_1 := (hS.2.1).at_ (j := 1) rfl; have c2_0 := (hS.2.2.1).at_ (j := 0) rfl; have c2_1 := (hS.2.2.1).at_ (j := 1) rfl; clear hS; first | (go_simp; done) | (go_simp; with_reducible rfl))
              try simp only [Act.put, List.setIfInBounds_toArray, List.set_cons_zero, List.set_cons_succ]
              refine wpAnyH_ready (rs := [7]) (by kernel_rfl) (by simp) ?_
              refine AllReadyH.cons (o := ⟨some 85, _, _, _, _, _⟩) rfl (fun K hK => ?_) AllReadyH.nil
              go_simp
              refine Calls.mono (inar_eq p q _ ENR _) ?_
              rintro e x1 ⟨rfl, hb1⟩
              refine hK.out _ _ ⟨hHeld.1.new hb1, hHeld.2.1.new hb1, hHeld.2.2.1.new hb1, below_trans hHeld.2.2.2 hb1 (Nat.le_refl _)⟩ (fun hHeld' => ?_)
              clear hK K hHeld hb1
              have hHeld := hHeld'
              clear hHeld'
              try simp only [Act.put, List.setIfInBounds_toArray, List.set_cons_zero, List.set_cons_succ]
              refine wpAnyH_take (i := 8) (oi := ⟨some 86, _, _, _, _, _⟩) (v := ?_) rfl (by kernel_rfl) (by kernel_rfl) (by kernel_rfl) (fun _ _ _ h => h) (Or.inl ⟨by kernel_rfl, ?_⟩) hHeld ?_
              rotate_left
              focus (intro W hS; skip; clear hS; first | (go_simp; done) | (go_simp; with_reducible rfl))
              try simp only [Act.put, List.setIfInBounds_toArray, List.set_cons_zero, List.set_cons_succ]
              refine wpAnyH_take (i := 9) (oi := ⟨some 87, _, _, _, _, _⟩) (v := ?_) rfl (by kernel_rfl) (by kernel_rfl) (by kernel_rfl) (fun _ _ _ h => h) (Or.inl ⟨by kernel_rfl, ?_⟩) hHeld ?_
              rotate_left
              focus (intro W hS; skip; clear hS; first | (go_simp; done) | (go_simp; with_reducible rfl))
              try simp only [Act.put, List.setIfInBounds_toArray, List.set_cons_zero, List.set_cons_succ]
              refine wpAnyH_take (i := 10) (oi := ⟨some 88, _, _, _, _, _⟩) (v := ?_) rfl (by kernel_rfl) (by kernel_rfl) (by kernel_rfl) (fun _ _ _ h => h) (Or.inl ⟨by kernel_rfl, ?_⟩) hHeld ?_
              rotate_left
              focus (intro W hS; skip; clear hS; first | (go_simp; done) | (go_simp; with_reducible rfl))
              try simp only [Act.put, List.setIfInBounds_toArray, List.set_cons_zero, List.set_cons_succ]
              refine wpAnyH_take (i := 11) (oi := ⟨some 89, _, _, _, _, _⟩) (v := ?_) rfl (by kernel_rfl) (by kernel_rfl) (by kernel_rfl) (fun _ _ _ h => h) (Or.inl ⟨by kernel_rfl, ?_⟩) hHeld ?_
              rotate_left
              focus (intro W hS; have c0_0 := (hS.1).at_ (j := 0) rfl; have c0_1 := (hS.1).at_ (j := 1) rfl; have c1_0 := (hS.2.1).at_ (j := 0) rfl; have c1_1 := (hS.2.1).at_ (j := 1) rfl; have c2_0 := (hS.2.2.1).at_ (j := 0) rfl; have c2_1 := (hS.2.2.1).at_ (j := 1) rfl; clear hS; first | (go_simp; done) | (go_simp; with_reducible rfl))
              try simp only [Act.put, List.setIfInBounds_toArray, List.set_cons_zero, List.set_cons_succ]
              refine wpAnyH_take (i := 14) (oi := ⟨some 92, _, _, _, _, _⟩) (v := ?_) rfl (by kernel_rfl) (by kernel_rfl) (by kernel_rfl) (fun _ _ _ h => h) (Or.inl ⟨by kernel_rfl, ?_⟩) hHeld ?_
              rotate_left
              focus (intro W hS; have c0_0 := (hS.1).at_ (j := 0) rfl; have c0_1 := (hS.1).at_ (j := 1) rfl; have c1_0 := (hS.2.1).at_ (j := 0) rfl; have c1_1 := (hS.2.1).at_ (j := 1) rfl; have c2_0 := (hS.2.2.1).at_ (j := 0) rfl; have c2_1 := (hS.2.2.1).at_ (j := 1) rfl; clear hS; first | (go_simp; done) | (go_simp; with_reducible rfl))
              try simp only [Act.put, List.setIfInBounds_toArray, List.set_cons_zero, List.set_cons_succ]
              refine wpAnyH_ready (rs := [12]) (by kernel_rfl) (by simp) ?_
              refine AllReadyH.cons (o := ⟨some 90, _, _, _, _, _⟩) rfl (fun K hK => ?_) AllReadyH.nil
              go_simp
              refine Calls.mono (CT.out _ hHeld.2.2.2) ?_
              rintro e x2 ⟨rfl, hb1⟩
              refine hK.out _ _ ⟨hHeld.1.new hb1, hHeld.2.1.new hb1, hHeld.2.2.1.new hb1, below_trans hHeld.2.2.2 hb1 (Nat.le_refl _)⟩ (fun hHeld' => ?_)
              clear hK K hHeld hb1
              have hHeld := hHeld'
              clear hHeld'
              try simp only [Act.put, List.setIfInBounds_toArray, List.set_cons_zero, List.set_cons_succ]
              refine wpAnyH_take (i := 13) (oi := ⟨some 91, _, _, _, _, _⟩) (v := ?_) rfl (by kernel_rfl) (by kernel_rfl) (by kernel_rfl) (fun _ _ _ h => h) (Or.inl ⟨by kernel_rfl, ?_⟩) hHeld ?_
              rotate_left
              focus (intro W hS; skip; clear hS; first | (go_simp; done) | (go_simp; with_reducible rfl))
              try simp only [Act.put, List.setIfInBounds_toArray, List.set_cons_zero, List.set_cons_succ]
              refine wpAnyH_ready (rs := [15]) (by kernel_rfl) (by simp) ?_
              refine AllReadyH.cons (o := ⟨some 93, _, _, _, _, _⟩) rfl (fun K hK => ?_) AllReadyH.nil
              go_simp
              refine Calls.mono (ipat_eq p _ EP _) ?_
              rintro e x3 ⟨rfl, hb1⟩
              refine hK.out _ _ ⟨hHeld.1.new hb1, hHeld.2.1.new hb1, hHeld.2.2.1.new hb1, below_trans hHeld.2.2.2 hb1 (Nat.le_refl _)⟩ (fun hHeld' => ?_)
              clear hK K hHeld hb1
              have hHeld := hHeld'
              clear hHeld'
              try simp only [Act.put, List.setIfInBounds_toArray, List.set_cons_zero, List.set_cons_succ]
              refine wpAnyH_take (i := 16) (oi := ⟨some 94, _, _, _, _, _⟩) (v := ?_) rfl (by kernel_rfl) (by kernel_rfl) (by kernel_rfl) (fun _ _ _ h => h) (Or.inl ⟨by kernel_rfl, ?_⟩) hHeld ?_
              rotate_left
              focus (intro W hS; skip; clear hS; first | (go_simp; done) | (go_simp; with_reducible rfl))
              try simp only [Act.put, List.setIfInBounds_toArray, List.set_cons_zero, List.set_cons_succ]
              refine wpAnyH_take (i := 17) (oi := ⟨some 95, _, _, _, _, _⟩) (v := ?_) rfl (by kernel_rfl) (by kernel_rfl) (by kernel_rfl) (fun _ _ _ h => h) (Or.inl ⟨by kernel_rfl, ?_⟩) hHeld ?_
              rotate_left
              focus (intro W hS; skip; clear hS; first | (go_simp; done) | (go_simp; with_reducible rfl))
              try simp only [Act.put, List.setIfInBounds_toArray, List.set_cons_zero, List.set_cons_succ]
              refine wpAnyH_take (i := 18) (oi := ⟨some 2, _, _, _, _, _⟩) (v := ?_) rfl (by kernel_rfl) (by kernel_rfl) (by kernel_rfl) (fun _ _ _ h => h) (Or.inl ⟨by kernel_rfl, ?_⟩) hHeld ?_
              rotate_left
              focus (intro W hS; skip; clear hS; first | (go_simp; done) | (go_simp; with_reducible rfl))
              try simp only [Act.put, List.setIfInBounds_toArray, List.set_cons_zero, List.set_cons_succ]
              refine wpAnyH_done (by kernel_rfl) ?_ _
              go_wp2_with fail
              go_ret
              exact ⟨by first | rfl | simp [HS], hHeld.2.2.2⟩
            · skip
              go_wp2_with fail
              refine wp_region_held_drew (S := fun w' => BoxAt w' w2.heap.size 25 #[.int .i64 p.f0, .int .i64 p.f1] ∧ BoxAt w' (w2.heap.size + 1) 25 #[.int .i64 q.f0, .int .i64 q.f1] ∧ BoxAt w' w5.heap.size 25 #[.int .i64 m.f0, .int .i64 m.f1] ∧ Below w.heap.size w w') (by kernel_rfl) ?_ (fun hHeld => ?_)
              · exact ⟨KP.out.drw, KQ.out.drw, KM.out.drw, HB.out.drew⟩
              refine wpAnyH_take (i := 0) (oi := ⟨some 78, _, _, _, _, _⟩) (v := ?_) rfl (by kernel_rfl) (by kernel_rfl) (by kernel_rfl) (fun _ _ _ h => h) (Or.inl ⟨by kernel_rfl, ?_⟩) hHeld ?_
              rotate_left
              focus (intro W hS; skip; clear hS; first | (go_simp; done) | (go_simp; with_reducible rfl))
              try simp only [Act.put, List.setIfInBounds_toArray, List.set_cons_zero, List.set_cons_succ]
              refine wpAnyH_take (i := 1) (oi := ⟨some 79, _, _, _, _, _⟩) (v := ?_) rfl (by kernel_rfl) (by kernel_rfl) (by kernel_rfl) (fun _ _ _ h => h) (Or.inl ⟨by kernel_rfl, ?_⟩) hHeld ?_
              rotate_left
              focus (intro W hS; skip; clear hS; first | (go_simp; done) | (go_simp; with_reducible rfl))
              try simp only [Act.put, List.setIfInBounds_toArray, List.set_cons_zero, List.set_cons_succ]
              refine wpAnyH_take (i := 2) (oi := ⟨some 80, _, _, _, _, _⟩) (v := ?_) rfl (by kernel_rfl) (by kernel_rfl) (by kernel_rfl) (fun _ _ _ h => h) (Or.inl ⟨by kernel_rfl, ?_⟩) hHeld ?_
              rotate_left
              focus (intro W hS; skip; clear hS; first | (go_simp; done) | (go_simp; with_reducible rfl))
              try simp only [Act.put, List.setIfInBounds_toArray, List.set_cons_zero, List.set_cons_succ]
              refine wpAnyH_take (i := 3) (oi := ⟨some 81, _, _, _, _, _⟩) (v := ?_) rfl (by kernel_rfl) (by kernel_rfl) (by kernel_rfl) (fun _ _ _ h => h) (Or.inl ⟨by kernel_rfl, ?_⟩) hHeld ?_
              rotate_left
              focus (intro W hS; skip; clear hS; first | (go_simp; done) | (go_simp; with_reducible rfl))
              try simp only [Act.put, List.setIfInBounds_toArray, List.set_cons_zero, List.set_cons_succ]
              refine wpAnyH_take (i := 4) (oi := ⟨some 82, _, _, _, _, _⟩) (v := ?_) rfl (by kernel_rfl) (by kernel_rfl) (by kernel_rfl) (fun _ _ _ h => h) (Or.inl ⟨by kernel_rfl, ?_⟩) hHeld ?_
              rotate_left
              focus (intro W hS; skip; clear hS; first | (go_simp; done) | (go_simp; with_reducible rfl))
              try simp only [Act.put, List.setIfInBounds_toArray, List.set_cons_zero, List.set_cons_succ]
              refine wpAnyH_take (i := 5) (oi := ⟨some 83, _, _, _, _, _⟩) (v := ?_) rfl (by kernel_rfl) (by kernel_rfl) (by kernel_rfl) (fun _ _ _ h => h) (Or.inl ⟨by kernel_rfl, ?_⟩) hHeld ?_
              rotate_left
              focus (intro W hS; have c0_0 := (hS.1).at_ (j := 0) rfl; have c0_1 := (hS.1).at_ (j := 1) rfl; have c1_0 := (hS.2.1).at_ (j := 0) rfl; have c1_1 := (hS.2.1).at_ (j := 1) rfl; have c2_0 := (hS.2.2.1).at_ (j := 0) rfl; have c2_1 := (hS.2.2.1).at_ (j := 1) rfl; clear hS; first | (go_simp; done) | (go_simp; with_reducible rfl))
              try simp only [Act.put, List.setIfInBounds_toArray, List.set_cons_zero, List.set_cons_succ]
              refine wpAnyH_take (i := 6) (oi := ⟨some 84, _, _, _, _, _⟩) (v := ?_) rfl (by kernel_rfl) (by kernel_rfl) (by kernel_rfl) (fun _ _ _ h => h) (Or.inl ⟨by kernel_rfl, ?_⟩) hHeld ?_
              rotate_left
              focus (intro W hS; have c0_0 := (hS.1).at_ (j := 0) rfl; have c0_1 := (hS.1).at_ (j := 1) rfl; have c1_0 := (hS.2.1).at_ (j := 0) rfl; have c1_1 := (hS.2.1).at_ (j := 1) rfl; have c2_0 := (hS.2.2.1).at_ (j := 0) rfl; have c2_1 := (hS.2.2.1).at_ (j := 1) rfl; clear hS; first | (go_simp; done) | (go_simp; with_reducible rfl))
              try simp only [Act.put, List.setIfInBounds_toArray, List.set_cons_zero, List.set_cons_succ]
              refine wpAnyH_ready (rs := [7]) (by kernel_rfl) (by simp) ?_
              refine AllReadyH.cons (o := ⟨some 85, _, _, _, _, _⟩) rfl (fun K hK => ?_) AllReadyH.nil
              go_simp
              refine Calls.mono (inar_eq p q _ ENR _) ?_
              rintro e x1 ⟨rfl, hb1⟩
              refine hK.out _ _ ⟨hHeld.1.new hb1, hHeld.2.1.new hb1, hHeld.2.2.1.new hb1, below_trans hHeld.2.2.2 hb1 (Nat.le_refl _)⟩ (fun hHeld' => ?_)
              clear hK K hHeld hb1
              have hHeld := hHeld'
              clear hHeld'
              try simp only [Act.put, List.setIfInBounds_toArray, List.set_cons_zero, List.set_cons_succ]
              refine wpAnyH_take (i := 8) (oi := ⟨some 86, _, _, _, _, _⟩) (v := ?_) rfl (by kernel_rfl) (by kernel_rfl) (by kernel_rfl) (fun _ _ _ h => h) (Or.inl ⟨by kernel_rfl, ?_⟩) hHeld ?_
              rotate_left
              focus (intro W hS; skip; clear hS; first | (go_simp; done) | (go_simp; with_reducible rfl))
              try simp only [Act.put, List.setIfInBounds_toArray, List.set_cons_zero, List.set_cons_succ]
              refine wpAnyH_take (i := 9) (oi := ⟨some 87, _, _, _, _, _⟩) (v := ?_) rfl (by kernel_rfl) (by kernel_rfl) (by kernel_rfl) (fun _ _ _ h => h) (Or.inl ⟨by kernel_rfl, ?_⟩) hHeld ?_
              rotate_left
              focus (intro W hS; skip; clear hS; first | (go_simp; done) | (go_simp; with_reducible rfl))
              try simp only [Act.put, List.setIfInBounds_toArray, List.set_cons_zero, List.set_cons_succ]
              refine wpAnyH_take (i := 10) (oi := ⟨some 88, _, _, _, _, _⟩) (v := ?_) rfl (by kernel_rfl) (by kernel_rfl) (by kernel_rfl) (fun _ _ _ h => h) (Or.inl ⟨by kernel_rfl, ?_⟩) hHeld ?_
              rotate_left
              focus (intro W hS; skip; clear hS; first | (go_simp; done) | (go_simp; with_reducible rfl))
              try simp only [Act.put, List.setIfInBounds_toArray, List.set_cons_zero, List.set_cons_succ]
              refine wpAnyH_take (i := 11) (oi := ⟨some 89, _, _, _, _, _⟩) (v := ?_) rfl (by kernel_rfl) (by kernel_rfl) (by kernel_rfl) (fun _ _ _ h => h) (Or.inl ⟨by kernel_rfl, ?_⟩) hHeld ?_
              rotate_left
              focus (intro W hS; have c0_0 := (hS.1).at_ (j := 0) rfl; have c0_1 := (hS.1).at_ (j := 1) rfl; have c1_0 := (hS.2.1).at_ (j := 0) rfl; have c1_1 := (hS.2.1).at_ (j := 1) rfl; have c2_0 := (hS.2.2.1).at_ (j := 0) rfl; have c2_1 := (hS.2.2.1).at_ (j := 1) rfl; clear hS; first | (go_simp; done) | (go_simp; with_reducible rfl))
              try simp only [Act.put, List.setIfInBounds_toArray, List.set_cons_zero, List.set_cons_succ]
              refine wpAnyH_take (i := 14) (oi := ⟨some 92, _, _, _, _, _⟩) (v := ?_) rfl (by kernel_rfl) (by kernel_rfl) (by kernel_rfl) (fun _ _ _ h => h) (Or.inl ⟨by kernel_rfl, ?_⟩) hHeld ?_
              rotate_left
              focus (intro W hS; have c0_0 := (hS.1).at_ (j := 0) rfl; have c0_1 := (hS.1).at_ (j := 1) rfl; have c1_0 := (hS.2.1).at_ (j := 0) rfl; have c1_1 := (hS.2.1).at_ (j := 1) rfl; have c2_0 := (hS.2.2.1).at_ (j := 0) rfl; have c2_1 := (hS.2.2.1).at_ (j := 1) rfl; clear hS; first | (go_simp; done) | (go_simp; with_reducible rfl))
              try simp only [Act.put, List.setIfInBounds_toArray, List.set_cons_zero, List.set_cons_succ]
              refine wpAnyH_ready (rs := [12]) (by kernel_rfl) (by simp) ?_
              refine AllReadyH.cons (o := ⟨some 90, _, _, _, _, _⟩) rfl (fun K hK => ?_) AllReadyH.nil
              go_simp
              refine Calls.mono (CT.out _ hHeld.2.2.2) ?_
              rintro e x2 ⟨rfl, hb1⟩
              refine hK.out _ _ ⟨hHeld.1.new hb1, hHeld.2.1.new hb1, hHeld.2.2.1.new hb1, below_trans hHeld.2.2.2 hb1 (Nat.le_refl _)⟩ (fun hHeld' => ?_)
              clear hK K hHeld hb1
              have hHeld := hHeld'
              clear hHeld'
              try simp only [Act.put, List.setIfInBounds_toArray, List.set_cons_zero, List.set_cons_succ]
              refine wpAnyH_take (i := 13) (oi := ⟨some 91, _, _, _, _, _⟩) (v := ?_) rfl (by kernel_rfl) (by kernel_rfl) (by kernel_rfl) (fun _ _ _ h => h) (Or.inl ⟨by kernel_rfl, ?_⟩) hHeld ?_
              rotate_left
              focus (intro W hS; skip; clear hS; first | (go_simp; done) | (go_simp; with_reducible rfl))
              try simp only [Act.put, List.setIfInBounds_toArray, List.set_cons_zero, List.set_cons_succ]
              refine wpAnyH_ready (rs := [15]) (by kernel_rfl) (by simp) ?_
              refine AllReadyH.cons (o := ⟨some 93, _, _, _, _, _⟩) rfl (fun K hK => ?_) AllReadyH.nil
              go_simp
              refine Calls.mono (ipat_eq p _ EP _) ?_
              rintro e x3 ⟨rfl, hb1⟩
              refine hK.out _ _ ⟨hHeld.1.new hb1, hHeld.2.1.new hb1, hHeld.2.2.1.new hb1, below_trans hHeld.2.2.2 hb1 (Nat.le_refl _)⟩ (fun hHeld' => ?_)
              clear hK K hHeld hb1
              have hHeld := hHeld'
              clear hHeld'
              try simp only [Act.put, List.setIfInBounds_toArray, List.set_cons_zero, List.set_cons_succ]
              refine wpAnyH_take (i := 16) (oi := ⟨some 94, _, _, _, _, _⟩) (v := ?_) rfl (by kernel_rfl) (by kernel_rfl) (by kernel_rfl) (fun _ _ _ h => h) (Or.inl ⟨by kernel_rfl, ?_⟩) hHeld ?_
              rotate_left
              focus (intro W hS; skip; clear hS; first | (go_simp; done) | (go_simp; with_reducible rfl))
              try simp only [Act.put, List.setIfInBounds_toArray, List.set_cons_zero, List.set_cons_succ]
              refine wpAnyH_take (i := 17) (oi := ⟨some 95, _, _, _, _, _⟩) (v := ?_) rfl (by kernel_rfl) (by kernel_rfl) (by kernel_rfl) (fun _ _ _ h => h) (Or.inl ⟨by kernel_rfl, ?_⟩) hHeld ?_
              rotate_left
              focus (intro W hS; skip; clear hS; first | (go_simp; done) | (go_simp; with_reducible rfl))
              try simp only [Act.put, List.setIfInBounds_toArray, List.set_cons_zero, List.set_cons_succ]
              refine wpAnyH_take (i := 18) (oi := ⟨some 2, _, _, _, _, _⟩) (v := ?_) rfl (by kernel_rfl) (by kernel_rfl) (by kernel_rfl) (fun _ _ _ h => h) (Or.inl ⟨by kernel_rfl, ?_⟩) hHeld ?_
              rotate_left
              focus (intro W hS; skip; clear hS; first | (go_simp; done) | (go_simp; with_reducible rfl))
              try simp only [Act.put, List.setIfInBounds_toArray, List.set_cons_zero, List.set_cons_succ]
              refine wpAnyH_done (by kernel_rfl) ?_ _
              go_wp2_with fail
              go_ret
              exact ⟨by first | rfl | simp [HS], hHeld.2.2.2⟩
            · skip
              go_wp2_with fail
              refine wp_region_held_drew (S := fun w' => BoxAt w' w2.heap.size 25 #[.int .i64 p.f0, .int .i64 p.f1] ∧ BoxAt w' (w2.heap.size + 1) 25 #[.int .i64 q.f0, .int .i64 q.f1] ∧ BoxAt w' w5.heap.size 25 #[.int .i64 m.f0, .int .i64 m.f1] ∧ Below w.heap.size w w') (by kernel_rfl) ?_ (fun hHeld => ?_)
              · exact ⟨KP.out.drw, KQ.out.drw, KM.out.drw, HB.out.drew⟩
              refine wpAnyH_take (i := 0) (oi := ⟨some 78, _, _, _, _, _⟩) (v := ?_) rfl (by kernel_rfl) (by kernel_rfl) (by kernel_rfl) (fun _ _ _ h => h) (Or.inl ⟨by kernel_rfl, ?_⟩) hHeld ?_
              rotate_left
              focus (intro W hS; skip; clear hS; first | (go_simp; done) | (go_simp; with_reducible rfl))
              try simp only [Act.put, List.setIfInBounds_toArray, List.set_cons_zero, List.set_cons_succ]
              refine wpAnyH_take (i := 1) (oi := ⟨some 79, _, _, _, _, _⟩) (v := ?_) rfl (by kernel_rfl) (by kernel_rfl) (by kernel_rfl) (fun _ _ _ h => h) (Or.inl ⟨by kernel_rfl, ?_⟩) hHeld ?_
              rotate_left
              focus (intro W hS; skip; clear hS; first | (go_simp; done) | (go_simp; with_reducible rfl))
              try simp only [Act.put, List.setIfInBounds_toArray, List.set_cons_zero, List.set_cons_succ]
              refine wpAnyH_take (i := 2) (oi := ⟨some 80, _, _, _, _, _⟩) (v := ?_) rfl (by kernel_rfl) (by kernel_rfl) (by kernel_rfl) (fun _ _ _ h => h) (Or.inl ⟨by kernel_rfl, ?_⟩) hHeld ?_
              rotate_left
              focus (intro W hS; skip; clear hS; first | (go_simp; done) | (go_simp; with_reducible rfl))
              try simp only [Act.put, List.setIfInBounds_toArray, List.set_cons_zero, List.set_cons_succ]
              refine wpAnyH_take (i := 3) (oi := ⟨some 81, _, _, _, _, _⟩) (v := ?_) rfl (by kernel_rfl) (by kernel_rfl) (by kernel_rfl) (fun _ _ _ h => h) (Or.inl ⟨by kernel_rfl, ?_⟩) hHeld ?_
              rotate_left
              focus (intro W hS; skip; clear hS; first | (go_simp; done) | (go_simp; with_reducible rfl))
              try simp only [Act.put, List.setIfInBounds_toArray, List.set_cons_zero, List.set_cons_succ]
              refine wpAnyH_take (i := 4) (oi := ⟨some 82, _, _, _, _, _⟩) (v := ?_) rfl (by kernel_rfl) (by kernel_rfl) (by kernel_rfl) (fun _ _ _ h => h) (Or.inl ⟨by kernel_rfl, ?_⟩) hHeld ?_
              rotate_left
              focus (intro W hS; skip; clear hS; first | (go_simp; done) | (go_simp; with_reducible rfl))
              try simp only [Act.put, List.setIfInBounds_toArray, List.set_cons_zero, List.set_cons_succ]
              refine wpAnyH_take (i := 5) (oi := ⟨some 83, _, _, _, _, _⟩) (v := ?_) rfl (by kernel_rfl) (by kernel_rfl) (by kernel_rfl) (fun _ _ _ h => h) (Or.inl ⟨by kernel_rfl, ?_⟩) hHeld ?_
              rotate_left
              focus (intro W hS; have c0_0 := (hS.1).at_ (j := 0) rfl; have c0_1 := (hS.1).at_ (j := 1) rfl; have c1_0 := (hS.2.1).at_ (j := 0) rfl; have c1_1 := (hS.2.1).at_ (j := 1) rfl; have c2_0 := (hS.2.2.1).at_ (j := 0) rfl; have c2_1 := (hS.2.2.1).at_ (j := 1) rfl; clear hS; first | (go_simp; done) | (go_simp; with_reducible rfl))
              try simp only [Act.put, List.setIfInBounds_toArray, List.set_cons_zero, List.set_cons_succ]
              refine wpAnyH_take (i := 6) (oi := ⟨some 84, _, _, _, _, _⟩) (v := ?_) rfl (by kernel_rfl) (by kernel_rfl) (by kernel_rfl) (fun _ _ _ h => h) (Or.inl ⟨by kernel_rfl, ?_⟩) hHeld ?_
              rotate_left
              focus (intro W hS; have c0_0 := (hS.1).at_ (j := 0) rfl; have c0_1 := (hS.1).at_ (j := 1) rfl; have c1_0 := (hS.2.1).at_ (j := 0) rfl; have c1_1 := (hS.2.1).at_ (j := 1) rfl; have c2_0 := (hS.2.2.1).at_ (j := 0) rfl; have c2_1 := (hS.2.2.1).at_ (j := 1) rfl; clear hS; first | (go_simp; done) | (go_simp; with_reducible rfl))
              try simp only [Act.put, List.setIfInBounds_toArray, List.set_cons_zero, List.set_cons_succ]
              refine wpAnyH_ready (rs := [7]) (by kernel_rfl) (by simp) ?_
              refine AllReadyH.cons (o := ⟨some 85, _, _, _, _, _⟩) rfl (fun K hK => ?_) AllReadyH.nil
              go_simp
              refine Calls.mono (inar_eq p q _ ENR _) ?_
              rintro e x1 ⟨rfl, hb1⟩
              refine hK.out _ _ ⟨hHeld.1.new hb1, hHeld.2.1.new hb1, hHeld.2.2.1.new hb1, below_trans hHeld.2.2.2 hb1 (Nat.le_refl _)⟩ (fun hHeld' => ?_)
              clear hK K hHeld hb1
              have hHeld := hHeld'
              clear hHeld'
              try simp only [Act.put, List.setIfInBounds_toArray, List.set_cons_zero, List.set_cons_succ]
              refine wpAnyH_take (i := 8) (oi := ⟨some 86, _, _, _, _, _⟩) (v := ?_) rfl (by kernel_rfl) (by kernel_rfl) (by kernel_rfl) (fun _ _ _ h => h) (Or.inl ⟨by kernel_rfl, ?_⟩) hHeld ?_
              rotate_left
              focus (intro W hS; skip; clear hS; first | (go_simp; done) | (go_simp; with_reducible rfl))
              try simp only [Act.put, List.setIfInBounds_toArray, List.set_cons_zero, List.set_cons_succ]
              refine wpAnyH_take (i := 9) (oi := ⟨some 87, _, _, _, _, _⟩) (v := ?_) rfl (by kernel_rfl) (by kernel_rfl) (by kernel_rfl) (fun _ _ _ h => h) (Or.inl ⟨by kernel_rfl, ?_⟩) hHeld ?_
              rotate_left
              focus (intro W hS; skip; clear hS; first | (go_simp; done) | (go_simp; with_reducible rfl))
              try simp only [Act.put, List.setIfInBounds_toArray, List.set_cons_zero, List.set_cons_succ]
              refine wpAnyH_take (i := 10) (oi := ⟨some 88, _, _, _, _, _⟩) (v := ?_) rfl (by kernel_rfl) (by kernel_rfl) (by kernel_rfl) (fun _ _ _ h => h) (Or.inl ⟨by kernel_rfl, ?_⟩) hHeld ?_
              rotate_left
              focus (intro W hS; skip; clear hS; first | (go_simp; done) | (go_simp; with_reducible rfl))
              try simp only [Act.put, List.setIfInBounds_toArray, List.set_cons_zero, List.set_cons_succ]
              refine wpAnyH_take (i := 11) (oi := ⟨some 89, _, _, _, _, _⟩) (v := ?_) rfl (by kernel_rfl) (by kernel_rfl) (by kernel_rfl) (fun _ _ _ h => h) (Or.inl ⟨by kernel_rfl, ?_⟩) hHeld ?_
              rotate_left
              focus (intro W hS; have c0_0 := (hS.1).at_ (j := 0) rfl; have c0_1 := (hS.1).at_ (j := 1) rfl; have c1_0 := (hS.2.1).at_ (j := 0) rfl; have c1_1 := (hS.2.1).at_ (j := 1) rfl; have c2_0 := (hS.2.2.1).at_ (j := 0) rfl; have c2_1 := (hS.2.2.1).at_ (j := 1) rfl; clear hS; first | (go_simp; done) | (go_simp; with_reducible rfl))
              try simp only [Act.put, List.setIfInBounds_toArray, List.set_cons_zero, List.set_cons_succ]
              refine wpAnyH_take (i := 14) (oi := ⟨some 92, _, _, _, _, _⟩) (v := ?_) rfl (by kernel_rfl) (by kernel_rfl) (by kernel_rfl) (fun _ _ _ h => h) (Or.inl ⟨by kernel_rfl, ?_⟩) hHeld ?_
              rotate_left
              focus (intro W hS; have c0_0 := (hS.1).at_ (j := 0) rfl; have c0_1 := (hS.1).at_ (j := 1) rfl; have c1_0 := (hS.2.1).at_ (j := 0) rfl; have c1_1 := (hS.2.1).at_ (j := 1) rfl; have c2_0 := (hS.2.2.1).at_ (j := 0) rfl; have c2_1 := (hS.2.2.1).at_ (j := 1) rfl; clear hS; first | (go_simp; done) | (go_simp; with_reducible rfl))
              try simp only [Act.put, List.setIfInBounds_toArray, List.set_cons_zero, List.set_cons_succ]
              refine wpAnyH_ready (rs := [12]) (by kernel_rfl) (by simp) ?_
              refine AllReadyH.cons (o := ⟨some 90, _, _, _, _, _⟩) rfl (fun K hK => ?_) AllReadyH.nil
              go_simp
              refine Calls.mono (CT.out _ hHeld.2.2.2) ?_
              rintro e x2 ⟨rfl, hb1⟩
              refine hK.out _ _ ⟨hHeld.1.new hb1, hHeld.2.1.new hb1, hHeld.2.2.1.new hb1, below_trans hHeld.2.2.2 hb1 (Nat.le_refl _)⟩ (fun hHeld' => ?_)
              clear hK K hHeld hb1
              have hHeld := hHeld'
              clear hHeld'
              try simp only [Act.put, List.setIfInBounds_toArray, List.set_cons_zero, List.set_cons_succ]
              refine wpAnyH_take (i := 13) (oi := ⟨some 91, _, _, _, _, _⟩) (v := ?_) rfl (by kernel_rfl) (by kernel_rfl) (by kernel_rfl) (fun _ _ _ h => h) (Or.inl ⟨by kernel_rfl, ?_⟩) hHeld ?_
              rotate_left
              focus (intro W hS; skip; clear hS; first | (go_simp; done) | (go_simp; with_reducible rfl))
              try simp only [Act.put, List.setIfInBounds_toArray, List.set_cons_zero, List.set_cons_succ]
              refine wpAnyH_ready (rs := [15]) (by kernel_rfl) (by simp) ?_
              refine AllReadyH.cons (o := ⟨some 93, _, _, _, _, _⟩) rfl (fun K hK => ?_) AllReadyH.nil
              go_simp
              refine Calls.mono (ipat_eq p _ EP _) ?_
              rintro e x3 ⟨rfl, hb1⟩
              refine hK.out _ _ ⟨hHeld.1.new hb1, hHeld.2.1.new hb1, hHeld.2.2.1.new hb1, below_trans hHeld.2.2.2 hb1 (Nat.le_refl _)⟩ (fun hHeld' => ?_)
              clear hK K hHeld hb1
              have hHeld := hHeld'
              clear hHeld'
              try simp only [Act.put, List.setIfInBounds_toArray, List.set_cons_zero, List.set_cons_succ]
              refine wpAnyH_take (i := 16) (oi := ⟨some 94, _, _, _, _, _⟩) (v := ?_) rfl (by kernel_rfl) (by kernel_rfl) (by kernel_rfl) (fun _ _ _ h => h) (Or.inl ⟨by kernel_rfl, ?_⟩) hHeld ?_
              rotate_left
              focus (intro W hS; skip; clear hS; first | (go_simp; done) | (go_simp; with_reducible rfl))
              try simp only [Act.put, List.setIfInBounds_toArray, List.set_cons_zero, List.set_cons_succ]
              refine wpAnyH_take (i := 17) (oi := ⟨some 95, _, _, _, _, _⟩) (v := ?_) rfl (by kernel_rfl) (by kernel_rfl) (by kernel_rfl) (fun _ _ _ h => h) (Or.inl ⟨by kernel_rfl, ?_⟩) hHeld ?_
              rotate_left
              focus (intro W hS; skip; clear hS; first | (go_simp; done) | (go_simp; with_reducible rfl))
              try simp only [Act.put, List.setIfInBounds_toArray, List.set_cons_zero, List.set_cons_succ]
              refine wpAnyH_take (i := 18) (oi := ⟨some 2, _, _, _, _, _⟩) (v := ?_) rfl (by kernel_rfl) (by kernel_rfl) (by kernel_rfl) (fun _ _ _ h => h) (Or.inl ⟨by kernel_rfl, ?_⟩) hHeld ?_
              rotate_left
              focus (intro W hS; skip; clear hS; first | (go_simp; done) | (go_simp; with_reducible rfl))
              try simp only [Act.put, List.setIfInBounds_toArray, List.set_cons_zero, List.set_cons_succ]
              refine wpAnyH_done (by kernel_rfl) ?_ _
              go_wp2_with fail
              go_ret
              exact ⟨by first | rfl | simp [HS], hHeld.2.2.2⟩
            · skip
              go_wp2_with fail
              refine wp_region_held_drew (S := fun w' => BoxAt w' w2.heap.size 25 #[.int .i64 p.f0, .int .i64 p.f1] ∧ BoxAt w' (w2.heap.size + 1) 25 #[.int .i64 q.f0, .int .i64 q.f1] ∧ BoxAt w' w5.heap.size 25 #[.int .i64 m.f0, .int .i64 m.f1] ∧ Below w.heap.size w w') (by kernel_rfl) ?_ (fun hHeld => ?_)
              · exact ⟨KP.out.drw, KQ.out.drw, KM.out.drw, HB.out.drew⟩
              refine wpAnyH_take (i := 0) (oi := ⟨some 78, _, _, _, _, _⟩) (v := ?_) rfl (by kernel_rfl) (by kernel_rfl) (by kernel_rfl) (fun _ _ _ h => h) (Or.inl ⟨by kernel_rfl, ?_⟩) hHeld ?_
              rotate_left
              focus (intro W hS; skip; clear hS; first | (go_simp; done) | (go_simp; with_reducible rfl))
              try simp only [Act.put, List.setIfInBounds_toArray, List.set_cons_zero, List.set_cons_succ]
              refine wpAnyH_take (i := 1) (oi := ⟨some 79, _, _, _, _, _⟩) (v := ?_) rfl (by kernel_rfl) (by kernel_rfl) (by kernel_rfl) (fun _ _ _ h => h) (Or.inl ⟨by kernel_rfl, ?_⟩) hHeld ?_
              rotate_left
              focus (intro W hS; skip; clear hS; first | (go_simp; done) | (go_simp; with_reducible rfl))
              try simp only [Act.put, List.setIfInBounds_toArray, List.set_cons_zero, List.set_cons_succ]
              refine wpAnyH_take (i := 2) (oi := ⟨some 80, _, _, _, _, _⟩) (v := ?_) rfl (by kernel_rfl) (by kernel_rfl) (by kernel_rfl) (fun _ _ _ h => h) (Or.inl ⟨by kernel_rfl, ?_⟩) hHeld ?_
              rotate_left
              focus (intro W hS; skip; clear hS; first | (go_simp; done) | (go_simp; with_reducible rfl))
              try simp only [Act.put, List.setIfInBounds_toArray, List.set_cons_zero, List.set_cons_succ]
              refine wpAnyH_take (i := 3) (oi := ⟨some 81, _, _, _, _, _⟩) (v := ?_) rfl (by kernel_rfl) (by kernel_rfl) (by kernel_rfl) (fun _ _ _ h => h) (Or.inl ⟨by kernel_rfl, ?_⟩) hHeld ?_
              rotate_left
              focus (intro W hS; skip; clear hS; first | (go_simp; done) | (go_simp; with_reducible rfl))
              try simp only [Act.put, List.setIfInBounds_toArray, List.set_cons_zero, List.set_cons_succ]
              refine wpAnyH_take (i := 4) (oi := ⟨some 82, _, _, _, _, _⟩) (v := ?_) rfl (by kernel_rfl) (by kernel_rfl) (by kernel_rfl) (fun _ _ _ h => h) (Or.inl ⟨by kernel_rfl, ?_⟩) hHeld ?_
              rotate_left
              focus (intro W hS; skip; clear hS; first | (go_simp; done) | (go_simp; with_reducible rfl))
              try simp only [Act.put, List.setIfInBounds_toArray, List.set_cons_zero, List.set_cons_succ]
              refine wpAnyH_take (i := 5) (oi := ⟨some 83, _, _, _, _, _⟩) (v := ?_) rfl (by kernel_rfl) (by kernel_rfl) (by kernel_rfl) (fun _ _ _ h => h) (Or.inl ⟨by kernel_rfl, ?_⟩) hHeld ?_
              rotate_left
              focus (intro W hS; have c0_0 := (hS.1).at_ (j := 0) rfl; have c0_1 := (hS.1).at_ (j := 1) rfl; have c1_0 := (hS.2.1).at_ (j := 0) rfl; have c1_1 := (hS.2.1).at_ (j := 1) rfl; have c2_0 := (hS.2.2.1).at_ (j := 0) rfl; have c2_1 := (hS.2.2.1).at_ (j := 1) rfl; clear hS; first | (go_simp; done) | (go_simp; with_reducible rfl))
              try simp only [Act.put, List.setIfInBounds_toArray, List.set_cons_zero, List.set_cons_succ]
              refine wpAnyH_take (i := 6) (oi := ⟨some 84, _, _, _, _, _⟩) (v := ?_) rfl (by kernel_rfl) (by kernel_rfl) (by kernel_rfl) (fun _ _ _ h => h) (Or.inl ⟨by kernel_rfl, ?_⟩) hHeld ?_
              rotate_left
              focus (intro W hS; have c0_0 := (hS.1).at_ (j := 0) rfl; have c0_1 := (hS.1).at_ (j := 1) rfl; have c1_0 := (hS.2.1).at_ (j := 0) rfl; have c1_1 := (hS.2.1).at_ (j := 1) rfl; have c2_0 := (hS.2.2.1).at_ (j := 0) rfl; have c2_1 := (hS.2.2.1).at_ (j := 1) rfl; clear hS; first | (go_simp; done) | (go_simp; with_reducible rfl))
              try simp only [Act.put, List.setIfInBounds_toArray, List.set_cons_zero, List.set_cons_succ]
              refine wpAnyH_ready (rs := [7]) (by kernel_rfl) (by simp) ?_
              refine AllReadyH.cons (o := ⟨some 85, _, _, _, _, _⟩) rfl (fun K hK => ?_) AllReadyH.nil
              go_simp
              refine Calls.mono (inar_eq p q _ ENR _) ?_
              rintro e x1 ⟨rfl, hb1⟩
              refine hK.out _ _ ⟨hHeld.1.new hb1, hHeld.2.1.new hb1, hHeld.2.2.1.new hb1, below_trans hHeld.2.2.2 hb1 (Nat.le_refl _)⟩ (fun hHeld' => ?_)
              clear hK K hHeld hb1
              have hHeld := hHeld'
              clear hHeld'
              try simp only [Act.put, List.setIfInBounds_toArray, List.set_cons_zero, List.set_cons_succ]
              refine wpAnyH_take (i := 8) (oi := ⟨some 86, _, _, _, _, _⟩) (v := ?_) rfl (by kernel_rfl) (by kernel_rfl) (by kernel_rfl) (fun _ _ _ h => h) (Or.inl ⟨by kernel_rfl, ?_⟩) hHeld ?_
              rotate_left
              focus (intro W hS; skip; clear hS; first | (go_simp; done) | (go_simp; with_reducible rfl))
              try simp only [Act.put, List.setIfInBounds_toArray, List.set_cons_zero, List.set_cons_succ]
              refine wpAnyH_take (i := 9) (oi := ⟨some 87, _, _, _, _, _⟩) (v := ?_) rfl (by kernel_rfl) (by kernel_rfl) (by kernel_rfl) (fun _ _ _ h => h) (Or.inl ⟨by kernel_rfl, ?_⟩) hHeld ?_
              rotate_left
              focus (intro W hS; skip; clear hS; first | (go_simp; done) | (go_simp; with_reducible rfl))
              try simp only [Act.put, List.setIfInBounds_toArray, List.set_cons_zero, List.set_cons_succ]
              refine wpAnyH_take (i := 10) (oi := ⟨some 88, _, _, _, _, _⟩) (v := ?_) rfl (by kernel_rfl) (by kernel_rfl) (by kernel_rfl) (fun _ _ _ h => h) (Or.inl ⟨by kernel_rfl, ?_⟩) hHeld ?_
              rotate_left
              focus (intro W hS; skip; clear hS; first | (go_simp; done) | (go_simp; with_reducible rfl))
              try simp only [Act.put, List.setIfInBounds_toArray, List.set_cons_zero, List.set_cons_succ]
              refine wpAnyH_take (i := 11) (oi := ⟨some 89, _, _, _, _, _⟩) (v := ?_) rfl (by kernel_rfl) (by kernel_rfl) (by kernel_rfl) (fun _ _ _ h => h) (Or.inl ⟨by kernel_rfl, ?_⟩) hHeld ?_
              rotate_left
              focus (intro W hS; have c0_0 := (hS.1).at_ (j := 0) rfl; have c0_1 := (hS.1).at_ (j := 1) rfl; have c1_0 := (hS.2.1).at_ (j := 0) rfl; have c1_1 := (hS.2.1).at_ (j := 1) rfl; have c2_0 := (hS.2.2.1).at_ (j := 0) rfl; have c2_1 := (hS.2.2.1).at_ (j := 1) rfl; clear hS; first | (go_simp; done) | (go_simp; with_reducible rfl))
              try simp only [Act.put, List.setIfInBounds_toArray, List.set_cons_zero, List.set_cons_succ]
              refine wpAnyH_take (i := 14) (oi := ⟨some 92, _, _, _, _, _⟩) (v := ?_) rfl (by kernel_rfl) (by kernel_rfl) (by kernel_rfl) (fun _ _ _ h => h) (Or.inl ⟨by kernel_rfl, ?_⟩) hHeld ?_
              rotate_left
              focus (intro W hS; have c0_0 := (hS.1).at_ (j := 0) rfl; have c0_1 := (hS.1).at_ (j := 1) rfl; have c1_0 := (hS.2.1).at_ (j := 0) rfl; have c1_1 := (hS.2.1).at_ (j := 1) rfl; have c2_0 := (hS.2.2.1).at_ (j := 0) rfl; have c2_1 := (hS.2.2.1).at_ (j := 1) rfl; clear hS; first | (go_simp; done) | (go_simp; with_reducible rfl))
              try simp only [Act.put, List.setIfInBounds_toArray, List.set_cons_zero, List.set_cons_succ]
              refine wpAnyH_ready (rs := [12]) (by kernel_rfl) (by simp) ?_
              refine AllReadyH.cons (o := ⟨some 90, _, _, _, _, _⟩) rfl (fun K hK => ?_) AllReadyH.nil
              go_simp
              refine Calls.mono (CT.out _ hHeld.2.2.2) ?_
              rintro e x2 ⟨rfl, hb1⟩
              refine hK.out _ _ ⟨hHeld.1.new hb1, hHeld.2.1.new hb1, hHeld.2.2.1.new hb1, below_trans hHeld.2.2.2 hb1 (Nat.le_refl _)⟩ (fun hHeld' => ?_)
              clear hK K hHeld hb1
              have hHeld := hHeld'
              clear hHeld'
              try simp only [Act.put, List.setIfInBounds_toArray, List.set_cons_zero, List.set_cons_succ]
              refine wpAnyH_take (i := 13) (oi := ⟨some 91, _, _, _, _, _⟩) (v := ?_) rfl (by kernel_rfl) (by kernel_rfl) (by kernel_rfl) (fun _ _ _ h => h) (Or.inl ⟨by kernel_rfl, ?_⟩) hHeld ?_
              rotate_left
              focus (intro W hS; skip; clear hS; first | (go_simp; done) | (go_simp; with_reducible rfl))
              try simp only [Act.put, List.setIfInBounds_toArray, List.set_cons_zero, List.set_cons_succ]
              refine wpAnyH_ready (rs := [15]) (by kernel_rfl) (by simp) ?_
              refine AllReadyH.cons (o := ⟨some 93, _, _, _, _, _⟩) rfl (fun K hK => ?_) AllReadyH.nil
              go_simp
              refine Calls.mono (ipat_eq p _ EP _) ?_
              rintro e x3 ⟨rfl, hb1⟩
              refine hK.out _ _ ⟨hHeld.1.new hb1, hHeld.2.1.new hb1, hHeld.2.2.1.new hb1, below_trans hHeld.2.2.2 hb1 (Nat.le_refl _)⟩ (fun hHeld' => ?_)
              clear hK K hHeld hb1
              have hHeld := hHeld'
              clear hHeld'
              try simp only [Act.put, List.setIfInBounds_toArray, List.set_cons_zero, List.set_cons_succ]
              refine wpAnyH_take (i := 16) (oi := ⟨some 94, _, _, _, _, _⟩) (v := ?_) rfl (by kernel_rfl) (by kernel_rfl) (by kernel_rfl) (fun _ _ _ h => h) (Or.inl ⟨by kernel_rfl, ?_⟩) hHeld ?_
              rotate_left
              focus (intro W hS; skip; clear hS; first | (go_simp; done) | (go_simp; with_reducible rfl))
              try simp only [Act.put, List.setIfInBounds_toArray, List.set_cons_zero, List.set_cons_succ]
              refine wpAnyH_take (i := 17) (oi := ⟨some 95, _, _, _, _, _⟩) (v := ?_) rfl (by kernel_rfl) (by kernel_rfl) (by kernel_rfl) (fun _ _ _ h => h) (Or.inl ⟨by kernel_rfl, ?_⟩) hHeld ?_
              rotate_left
              focus (intro W hS; skip; clear hS; first | (go_simp; done) | (go_simp; with_reducible rfl))
              try simp only [Act.put, List.setIfInBounds_toArray, List.set_cons_zero, List.set_cons_succ]
              refine wpAnyH_take (i := 18) (oi := ⟨some 2, _, _, _, _, _⟩) (v := ?_) rfl (by kernel_rfl) (by kernel_rfl) (by kernel_rfl) (fun _ _ _ h => h) (Or.inl ⟨by kernel_rfl, ?_⟩) hHeld ?_
              rotate_left
              focus (intro W hS; skip; clear hS; first | (go_simp; done) | (go_simp; with_reducible rfl))
              try simp only [Act.put, List.setIfInBounds_toArray, List.set_cons_zero, List.set_cons_succ]
              refine wpAnyH_done (by kernel_rfl) ?_ _
              go_wp2_with fail
              go_ret
              exact ⟨by first | rfl | simp [HS], hHeld.2.2.2⟩
            · skip
              go_wp2_with fail
              refine wp_region_held_drew (S := fun w' => BoxAt w' w2.heap.size 25 #[.int .i64 p.f0, .int .i64 p.f1] ∧ BoxAt w' (w2.heap.size + 1) 25 #[.int .i64 q.f0, .int .i64 q.f1] ∧ BoxAt w' w5.heap.size 25 #[.int .i64 m.f0, .int .i64 m.f1] ∧ Below w.heap.size w w') (by kernel_rfl) ?_ (fun hHeld => ?_)
              · exact ⟨KP.out.drw, KQ.out.drw, KM.out.drw, HB.out.drew⟩
              refine wpAnyH_take (i := 0) (oi := ⟨some 78, _, _, _, _, _⟩) (v := ?_) rfl (by kernel_rfl) (by kernel_rfl) (by kernel_rfl) (fun _ _ _ h => h) (Or.inl ⟨by kernel_rfl, ?_⟩) hHeld ?_
              rotate_left
              focus (intro W hS; skip; clear hS; first | (go_simp; done) | (go_simp; with_reducible rfl))
              try simp only [Act.put, List.setIfInBounds_toArray, List.set_cons_zero, List.set_cons_succ]
              refine wpAnyH_take (i := 1) (oi := ⟨some 79, _, _, _, _, _⟩) (v := ?_) rfl (by kernel_rfl) (by kernel_rfl) (by kernel_rfl) (fun _ _ _ h => h) (Or.inl ⟨by kernel_rfl, ?_⟩) hHeld ?_
              rotate_left
              focus (intro W hS; skip; clear hS; first | (go_simp; done) | (go_simp; with_reducible rfl))
              try simp only [Act.put, List.setIfInBounds_toArray, List.set_cons_zero, List.set_cons_succ]
              refine wpAnyH_take (i := 2) (oi := ⟨some 80, _, _, _, _, _⟩) (v := ?_) rfl (by kernel_rfl) (by kernel_rfl) (by kernel_rfl) (fun _ _ _ h => h) (Or.inl ⟨by kernel_rfl, ?_⟩) hHeld ?_
              rotate_left
              focus (intro W hS; skip; clear hS; first | (go_simp; done) | (go_simp; with_reducible rfl))
              try simp only [Act.put, List.setIfInBounds_toArray, List.set_cons_zero, List.set_cons_succ]
              refine wpAnyH_take (i := 3) (oi := ⟨some 81, _, _, _, _, _⟩) (v := ?_) rfl (by kernel_rfl) (by kernel_rfl) (by kernel_rfl) (fun _ _ _ h => h) (Or.inl ⟨by kernel_rfl, ?_⟩) hHeld ?_
              rotate_left
              focus (intro W hS; skip; clear hS; first | (go_simp; done) | (go_simp; with_reducible rfl))
              try simp only [Act.put, List.setIfInBounds_toArray, List.set_cons_zero, List.set_cons_succ]
              refine wpAnyH_take (i := 4) (oi := ⟨some 82, _, _, _, _, _⟩) (v := ?_) rfl (by kernel_rfl) (by kernel_rfl) (by kernel_rfl) (fun _ _ _ h => h) (Or.inl ⟨by kernel_rfl, ?_⟩) hHeld ?_
              rotate_left
              focus (intro W hS; skip; clear hS; first | (go_simp; done) | (go_simp; with_reducible rfl))
              try simp only [Act.put, List.setIfInBounds_toArray, List.set_cons_zero, List.set_cons_succ]
              refine wpAnyH_take (i := 5) (oi := ⟨some 83, _, _, _, _, _⟩) (v := ?_) rfl (by kernel_rfl) (by kernel_rfl) (by kernel_rfl) (fun _ _ _ h => h) (Or.inl ⟨by kernel_rfl, ?_⟩) hHeld ?_
              rotate_left
              focus (intro W hS; have c0_0 := (hS.1).at_ (j := 0) rfl; have c0_1 := (hS.1).at_ (j := 1) rfl; have c1_0 := (hS.2.1).at_ (j := 0) rfl; have c1_1 := (hS.2.1).at_ (j := 1) rfl; have c2_0 := (hS.2.2.1).at_ (j := 0) rfl; have c2_1 := (hS.2.2.1).at_ (j := 1) rfl; clear hS; first | (go_simp; done) | (go_simp; with_reducible rfl))
              try simp only [Act.put, List.setIfInBounds_toArray, List.set_cons_zero, List.set_cons_succ]
              refine wpAnyH_take (i := 6) (oi := ⟨some 84, _, _, _, _, _⟩) (v := ?_) rfl (by kernel_rfl) (by kernel_rfl) (by kernel_rfl) (fun _ _ _ h => h) (Or.inl ⟨by kernel_rfl, ?_⟩) hHeld ?_
              rotate_left
              focus (intro W hS; have c0_0 := (hS.1).at_ (j := 0) rfl; have c0_1 := (hS.1).at_ (j := 1) rfl; have c1_0 := (hS.2.1).at_ (j := 0) rfl; have c1_1 := (hS.2.1).at_ (j := 1) rfl; have c2_0 := (hS.2.2.1).at_ (j := 0) rfl; have c2_1 := (hS.2.2.1).at_ (j := 1) rfl; clear hS; first | (go_simp; done) | (go_simp; with_reducible rfl))
              try simp only [Act.put, List.setIfInBounds_toArray, List.set_cons_zero, List.set_cons_succ]
              refine wpAnyH_ready (rs := [7]) (by kernel_rfl) (by simp) ?_
              refine AllReadyH.cons (o := ⟨some 85, _, _, _, _, _⟩) rfl (fun K hK => ?_) AllReadyH.nil
              go_simp
              refine Calls.mono (inar_eq p q _ ENR _) ?_
              rintro e x1 ⟨rfl, hb1⟩
              refine hK.out _ _ ⟨hHeld.1.new hb1, hHeld.2.1.new hb1, hHeld.2.2.1.new hb1, below_trans hHeld.2.2.2 hb1 (Nat.le_refl _)⟩ (fun hHeld' => ?_)
              clear hK K hHeld hb1
              have hHeld := hHeld'
              clear hHeld'
              try simp only [Act.put, List.setIfInBounds_toArray, List.set_cons_zero, List.set_cons_succ]
              refine wpAnyH_take (i := 8) (oi := ⟨some 86, _, _, _, _, _⟩) (v := ?_) rfl (by kernel_rfl) (by kernel_rfl) (by kernel_rfl) (fun _ _ _ h => h) (Or.inl ⟨by kernel_rfl, ?_⟩) hHeld ?_
              rotate_left
              focus (intro W hS; skip; clear hS; first | (go_simp; done) | (go_simp; with_reducible rfl))
              try simp only [Act.put, List.setIfInBounds_toArray, List.set_cons_zero, List.set_cons_succ]
              refine wpAnyH_take (i := 9) (oi := ⟨some 87, _, _, _, _, _⟩) (v := ?_) rfl (by kernel_rfl) (by kernel_rfl) (by kernel_rfl) (fun _ _ _ h => h) (Or.inl ⟨by kernel_rfl, ?_⟩) hHeld ?_
              rotate_left
              focus (intro W hS; skip; clear hS; first | (go_simp; done) | (go_simp; with_reducible rfl))
              try simp only [Act.put, List.setIfInBounds_toArray, List.set_cons_zero, List.set_cons_succ]
              refine wpAnyH_take (i := 10) (oi := ⟨some 88, _, _, _, _, _⟩) (v := ?_) rfl (by kernel_rfl) (by kernel_rfl) (by kernel_rfl) (fun _ _ _ h => h) (Or.inl ⟨by kernel_rfl, ?_⟩) hHeld ?_
              rotate_left
              focus (intro W hS; skip; clear hS; first | (go_simp; done) | (go_simp; with_reducible rfl))
              try simp only [Act.put, List.setIfInBounds_toArray, List.set_cons_zero, List.set_cons_succ]
              refine wpAnyH_take (i := 11) (oi := ⟨some 89, _, _, _, _, _⟩) (v := ?_) rfl (by kernel_rfl) (by kernel_rfl) (by kernel_rfl) (fun _ _ _ h => h) (Or.inl ⟨by kernel_rfl, ?_⟩) hHeld ?_
              rotate_left
              focus (intro W hS; have c0_0 := (hS.1).at_ (j := 0) rfl; have c0_1 := (hS.1).at_ (j := 1) rfl; have c1_0 := (hS.2.1).at_ (j := 0) rfl; have c1_1 := (hS.2.1).at_ (j := 1) rfl; have c2_0 := (hS.2.2.1).at_ (j := 0) rfl; have c2_1 := (hS.2.2.1).at_ (j := 1) rfl; clear hS; first | (go_simp; done) | (go_simp; with_reducible rfl))
              try simp only [Act.put, List.setIfInBounds_toArray, List.set_cons_zero, List.set_cons_succ]
              refine wpAnyH_take (i := 14) (oi := ⟨some 92, _, _, _, _, _⟩) (v := ?_) rfl (by kernel_rfl) (by kernel_rfl) (by kernel_rfl) (fun _ _ _ h => h) (Or.inl ⟨by kernel_rfl, ?_⟩) hHeld ?_
              rotate_left
              focus (intro W hS; have c0_0 := (hS.1).at_ (j := 0) rfl; have c0_1 := (hS.1).at_ (j := 1) rfl; have c1_0 := (hS.2.1).at_ (j := 0) rfl; have c1_1 := (hS.2.1).at_ (j := 1) rfl; have c2_0 := (hS.2.2.1).at_ (j := 0) rfl; have c2_1 := (hS.2.2.1).at_ (j := 1) rfl; clear hS; first | (go_simp; done) | (go_simp; with_reducible rfl))
              try simp only [Act.put, List.setIfInBounds_toArray, List.set_cons_zero, List.set_cons_succ]
              refine wpAnyH_ready (rs := [12]) (by kernel_rfl) (by simp) ?_
              refine AllReadyH.cons (o := ⟨some 90, _, _, _, _, _⟩) rfl (fun K hK => ?_) AllReadyH.nil
              go_simp
              refine Calls.mono (CT.out _ hHeld.2.2.2) ?_
              rintro e x2 ⟨rfl, hb1⟩
              refine hK.out _ _ ⟨hHeld.1.new hb1, hHeld.2.1.new hb1, hHeld.2.2.1.new hb1, below_trans hHeld.2.2.2 hb1 (Nat.le_refl _)⟩ (fun hHeld' => ?_)
              clear hK K hHeld hb1
              have hHeld := hHeld'
              clear hHeld'
              try simp only [Act.put, List.setIfInBounds_toArray, List.set_cons_zero, List.set_cons_succ]
              refine wpAnyH_take (i := 13) (oi := ⟨some 91, _, _, _, _, _⟩) (v := ?_) rfl (by kernel_rfl) (by kernel_rfl) (by kernel_rfl) (fun _ _ _ h => h) (Or.inl ⟨by kernel_rfl, ?_⟩) hHeld ?_
              rotate_left
              focus (intro W hS; skip; clear hS; first | (go_simp; done) | (go_simp; with_reducible rfl))
              try simp only [Act.put, List.setIfInBounds_toArray, List.set_cons_zero, List.set_cons_succ]
              refine wpAnyH_ready (rs := [15]) (by kernel_rfl) (by simp) ?_
              refine AllReadyH.cons (o := ⟨some 93, _, _, _, _, _⟩) rfl (fun K hK => ?_) AllReadyH.nil
              go_simp
              refine Calls.mono (ipat_eq p _ EP _) ?_
              rintro e x3 ⟨rfl, hb1⟩
              refine hK.out _ _ ⟨hHeld.1.new hb1, hHeld.2.1.new hb1, hHeld.2.2.1.new hb1, below_trans hHeld.2.2.2 hb1 (Nat.le_refl _)⟩ (fun hHeld' => ?_)
              clear hK K hHeld hb1
              have hHeld := hHeld'
              clear hHeld'
              try simp only [Act.put, List.setIfInBounds_toArray, List.set_cons_zero, List.set_cons_succ]
              refine wpAnyH_take (i := 16) (oi := ⟨some 94, _, _, _, _, _⟩) (v := ?_) rfl (by kernel_rfl) (by kernel_rfl) (by kernel_rfl) (fun _ _ _ h => h) (Or.inl ⟨by kernel_rfl, ?_⟩) hHeld ?_
              rotate_left
              focus (intro W hS; skip; clear hS; first | (go_simp; done) | (go_simp; with_reducible rfl))
              try simp only [Act.put, List.setIfInBounds_toArray, List.set_cons_zero, List.set_cons_succ]
              refine wpAnyH_take (i := 17) (oi := ⟨some 95, _, _, _, _, _⟩) (v := ?_) rfl (by kernel_rfl) (by kernel_rfl) (by kernel_rfl) (fun _ _ _ h => h) (Or.inl ⟨by kernel_rfl, ?_⟩) hHeld ?_
              rotate_left
              focus (intro W hS; skip; clear hS; first | (go_simp; done) | (go_simp; with_reducible rfl))
              try simp only [Act.put, List.setIfInBounds_toArray, List.set_cons_zero, List.set_cons_succ]
              refine wpAnyH_take (i := 18) (oi := ⟨some 2, _, _, _, _, _⟩) (v := ?_) rfl (by kernel_rfl) (by kernel_rfl) (by kernel_rfl) (fun _ _ _ h => h) (Or.inl ⟨by kernel_rfl, ?_⟩) hHeld ?_
              rotate_left
              focus (intro W hS; skip; clear hS; first | (go_simp; done) | (go_simp; with_reducible rfl))
              try simp only [Act.put, List.setIfInBounds_toArray, List.set_cons_zero, List.set_cons_succ]
              refine wpAnyH_done (by kernel_rfl) ?_ _
              go_wp2_with fail
              go_ret
              exact ⟨by first | rfl | simp [HS], hHeld.2.2.2⟩
            · skip
              go_wp2_with fail
              refine wp_region_held_drew (S := fun w' => BoxAt w' w2.heap.size 25 #[.int .i64 p.f0, .int .i64 p.f1] ∧ BoxAt w' (w2.heap.size + 1) 25 #[.int .i64 q.f0, .int .i64 q.f1] ∧ BoxAt w' w5.heap.size 25 #[.int .i64 m.f0, .int .i64 m.f1] ∧ Below w.heap.size w w') (by kernel_rfl) ?_ (fun hHeld => ?_)
              · exact ⟨KP.out.drw, KQ.out.drw, KM.out.drw, HB.out.drew⟩
              refine wpAnyH_take (i := 0) (oi := ⟨some 78, _, _, _, _, _⟩) (v := ?_) rfl (by kernel_rfl) (by kernel_rfl) (by kernel_rfl) (fun _ _ _ h => h) (Or.inl ⟨by kernel_rfl, ?_⟩) hHeld ?_
              rotate_left
              focus (intro W hS; skip; clear hS; first | (go_simp; done) | (go_simp; with_reducible rfl))
              try simp only [Act.put, List.setIfInBounds_toArray, List.set_cons_zero, List.set_cons_succ]
              refine wpAnyH_take (i := 1) (oi := ⟨some 79, _, _, _, _, _⟩) (v := ?_) rfl (by kernel_rfl) (by kernel_rfl) (by kernel_rfl) (fun _ _ _ h => h) (Or.inl ⟨by kernel_rfl, ?_⟩) hHeld ?_
              rotate_left
              focus (intro W hS; skip; clear hS; first | (go_simp; done) | (go_simp; with_reducible rfl))
              try simp only [Act.put, List.setIfInBounds_toArray, List.set_cons_zero, List.set_cons_succ]
              refine wpAnyH_take (i := 2) (oi := ⟨some 80, _, _, _, _, _⟩) (v := ?_) rfl (by kernel_rfl) (by kernel_rfl) (by kernel_rfl) (fun _ _ _ h => h) (Or.inl ⟨by kernel_rfl, ?_⟩) hHeld ?_
              rotate_left
              focus (intro W hS; skip; clear hS; first | (go_simp; done) | (go_simp; with_reducible rfl))
              try simp only [Act.put, List.setIfInBounds_toArray, List.set_cons_zero, List.set_cons_succ]
              refine wpAnyH_take (i := 3) (oi := ⟨some 81, _, _, _, _, _⟩) (v := ?_) rfl (by kernel_rfl) (by kernel_rfl) (by kernel_rfl) (fun _ _ _ h => h) (Or.inl ⟨by kernel_rfl, ?_⟩) hHeld ?_
              rotate_left
              focus (intro W hS; skip; clear hS; first | (go_simp; done) | (go_simp; with_reducible rfl))
              try simp only [Act.put, List.setIfInBounds_toArray, List.set_cons_zero, List.set_cons_succ]
              refine wpAnyH_take (i := 4) (oi := ⟨some 82, _, _, _, _, _⟩) (v := ?_) rfl (by kernel_rfl) (by kernel_rfl) (by kernel_rfl) (fun _ _ _ h => h) (Or.inl ⟨by kernel_rfl, ?_⟩) hHeld ?_
              rotate_left
              focus (intro W hS; skip; clear hS; first | (go_simp; done) | (go_simp; with_reducible rfl))
              try simp only [Act.put, List.setIfInBounds_toArray, List.set_cons_zero, List.set_cons_succ]
              refine wpAnyH_take (i := 5) (oi := ⟨some 83, _, _, _, _, _⟩) (v := ?_) rfl (by kernel_rfl) (by kernel_rfl) (by kernel_rfl) (fun _ _ _ h => h) (Or.inl ⟨by kernel_rfl, ?_⟩) hHeld ?_
              rotate_left
              focus (intro W hS; have c0_0 := (hS.1).at_ (j := 0) rfl; have c0_1 := (hS.1).at_ (j := 1) rfl; have c1_0 := (hS.2.1).at_ (j := 0) rfl; have c1_1 := (hS.2.1).at_ (j := 1) rfl; have c2_0 := (hS.2.2.1).at_ (j := 0) rfl; have c2_1 := (hS.2.2.1).at_ (j := 1) rfl; clear hS; first | (go_simp; done) | (go_simp; with_reducible rfl))
              try simp only [Act.put, List.setIfInBounds_toArray, List.set_cons_zero, List.set_cons_succ]
              refine wpAnyH_take (i := 6) (oi := ⟨some 84, _, _, _, _, _⟩) (v := ?_) rfl (by kernel_rfl) (by kernel_rfl) (by kernel_rfl) (fun _ _ _ h => h) (Or.inl ⟨by kernel_rfl, ?_⟩) hHeld ?_
              rotate_left
              focus (intro W hS; have c0_0 := (hS.1).at_ (j := 0) rfl; have c0_1 := (hS.1).at_ (j := 1) rfl; have c1_0 := (hS.2.1).at_ (j := 0) rfl; have c1_1 := (hS.2.1).at_ (j := 1) rfl; have c2_0 := (hS.2.2.1).at_ (j := 0) rfl; have c2_1 := (hS.2.2.1).at_ (j := 1) rfl; clear hS; first | (go_simp; done) | (go_simp; with_reducible rfl))
              try simp only [Act.put, List.setIfInBounds_toArray, List.set_cons_zero, List.set_cons_succ]
              refine wpAnyH_ready (rs := [7]) (by kernel_rfl) (by simp) ?_
              refine AllReadyH.cons (o := ⟨some 85, _, _, _, _, _⟩) rfl (fun K hK => ?_) AllReadyH.nil
              go_simp
              refine Calls.mono (inar_eq p q _ ENR _) ?_
              rintro e x1 ⟨rfl, hb1⟩
              refine hK.out _ _ ⟨hHeld.1.new hb1, hHeld.2.1.new hb1, hHeld.2.2.1.new hb1, below_trans hHeld.2.2.2 hb1 (Nat.le_refl _)⟩ (fun hHeld' => ?_)
              clear hK K hHeld hb1
              have hHeld := hHeld'
              clear hHeld'
              try simp only [Act.put, List.setIfInBounds_toArray, List.set_cons_zero, List.set_cons_succ]
              refine wpAnyH_take (i := 8) (oi := ⟨some 86, _, _, _, _, _⟩) (v := ?_) rfl (by kernel_rfl) (by kernel_rfl) (by kernel_rfl) (fun _ _ _ h => h) (Or.inl ⟨by kernel_rfl, ?_⟩) hHeld ?_
              rotate_left
              focus (intro W hS; skip; clear hS; first | (go_simp; done) | (go_simp; with_reducible rfl))
              try simp only [Act.put, List.setIfInBounds_toArray, List.set_cons_zero, List.set_cons_succ]
              refine wpAnyH_take (i := 9) (oi := ⟨some 87, _, _, _, _, _⟩) (v := ?_) rfl (by kernel_rfl) (by kernel_rfl) (by kernel_rfl) (fun _ _ _ h => h) (Or.inl ⟨by kernel_rfl, ?_⟩) hHeld ?_
              rotate_left
              focus (intro W hS; skip; clear hS; first | (go_simp; done) | (go_simp; with_reducible rfl))
              try simp only [Act.put, List.setIfInBounds_toArray, List.set_cons_zero, List.set_cons_succ]
              refine wpAnyH_take (i := 10) (oi := ⟨some 88, _, _, _, _, _⟩) (v := ?_) rfl (by kernel_rfl) (by kernel_rfl) (by kernel_rfl) (fun _ _ _ h => h) (Or.inl ⟨by kernel_rfl, ?_⟩) hHeld ?_
              rotate_left
              focus (intro W hS; skip; clear hS; first | (go_simp; done) | (go_simp; with_reducible rfl))
              try simp only [Act.put, List.setIfInBounds_toArray, List.set_cons_zero, List.set_cons_succ]
              refine wpAnyH_take (i := 11) (oi := ⟨some 89, _, _, _, _, _⟩) (v := ?_) rfl (by kernel_rfl) (by kernel_rfl) (by kernel_rfl) (fun _ _ _ h => h) (Or.inl ⟨by kernel_rfl, ?_⟩) hHeld ?_
              rotate_left
              focus (intro W hS; have c0_0 := (hS.1).at_ (j := 0) rfl; have c0_1 := (hS.1).at_ (j := 1) rfl; have c1_0 := (hS.2.1).at_ (j := 0) rfl; have c1_1 := (hS.2.1).at_ (j := 1) rfl; have c2_0 := (hS.2.2.1).at_ (j := 0) rfl; have c2_1 := (hS.2.2.1).at_ (j := 1) rfl; clear hS; first | (go_simp; done) | (go_simp; with_reducible rfl))
              try simp only [Act.put, List.setIfInBounds_toArray, List.set_cons_zero, List.set_cons_succ]
              refine wpAnyH_take (i := 14) (oi := ⟨some 92, _, _, _, _, _⟩) (v := ?_) rfl (by kernel_rfl) (by kernel_rfl) (by kernel_rfl) (fun _ _ _ h => h) (Or.inl ⟨by kernel_rfl, ?_⟩) hHeld ?_
              rotate_left
              focus (intro W hS; have c0_0 := (hS.1).at_ (j := 0) rfl; have c0_1 := (hS.1).at_ (j := 1) rfl; have c1_0 := (hS.2.1).at_ (j := 0) rfl; have c1_1 := (hS.2.1).at_ (j := 1) rfl; have c2_0 := (hS.2.2.1).at_ (j := 0) rfl; have c2_1 := (hS.2.2.1).at_ (j := 1) rfl; clear hS; first | (go_simp; done) | (go_simp; with_reducible rfl))
              try simp only [Act.put, List.setIfInBounds_toArray, List.set_cons_zero, List.set_cons_succ]
              refine wpAnyH_ready (rs := [12]) (by kernel_rfl) (by simp) ?_
              refine AllReadyH.cons (o := ⟨some 90, _, _, _, _, _⟩) rfl (fun K hK => ?_) AllReadyH.nil
              go_simp
              refine Calls.mono (CT.out _ hHeld.2.2.2) ?_
              rintro e x2 ⟨rfl, hb1⟩
              refine hK.out _ _ ⟨hHeld.1.new hb1, hHeld.2.1.new hb1, hHeld.2.2.1.new hb1, below_trans hHeld.2.2.2 hb1 (Nat.le_refl _)⟩ (fun hHeld' => ?_)
              clear hK K hHeld hb1
              have hHeld := hHeld'
              clear hHeld'
              try simp only [Act.put, List.setIfInBounds_toArray, List.set_cons_zero, List.set_cons_succ]
              refine wpAnyH_take (i := 13) (oi := ⟨some 91, _, _, _, _, _⟩) (v := ?_) rfl (by kernel_rfl) (by kernel_rfl) (by kernel_rfl) (fun _ _ _ h => h) (Or.inl ⟨by kernel_rfl, ?_⟩) hHeld ?_
              rotate_left
              focus (intro W hS; skip; clear hS; first | (go_simp; done) | (go_simp; with_reducible rfl))
              try simp only [Act.put, List.setIfInBounds_toArray, List.set_cons_zero, List.set_cons_succ]
              refine wpAnyH_ready (rs := [15]) (by kernel_rfl) (by simp) ?_
              refine AllReadyH.cons (o := ⟨some 93, _, _, _, _, _⟩) rfl (fun K hK => ?_) AllReadyH.nil
              go_simp
              refine Calls.mono (ipat_eq p _ EP _) ?_
              rintro e x3 ⟨rfl, hb1⟩
              refine hK.out _ _ ⟨hHeld.1.new hb1, hHeld.2.1.new hb1, hHeld.2.2.1.new hb1, below_trans hHeld.2.2.2 hb1 (Nat.le_refl _)⟩ (fun hHeld' => ?_)
              clear hK K hHeld hb1
              have hHeld := hHeld'
              clear hHeld'
              try simp only [Act.put, List.setIfInBounds_toArray, List.set_cons_zero, List.set_cons_succ]
              refine wpAnyH_take (i := 16) (oi := ⟨some 94, _, _, _, _, _⟩) (v := ?_) rfl (by kernel_rfl) (by kernel_rfl) (by kernel_rfl) (fun _ _ _ h => h) (Or.inl ⟨by kernel_rfl, ?_⟩) hHeld ?_
              rotate_left
              focus (intro W hS; skip; clear hS; first | (go_simp; done) | (go_simp; with_reducible rfl))
              try simp only [Act.put, List.setIfInBounds_toArray, List.set_cons_zero, List.set_cons_succ]
              refine wpAnyH_take (i := 17) (oi := ⟨some 95, _, _, _, _, _⟩) (v := ?_) rfl (by kernel_rfl) (by kernel_rfl) (by kernel_rfl) (fun _ _ _ h => h) (Or.inl ⟨by kernel_rfl, ?_⟩) hHeld ?_
              rotate_left
              focus (intro W hS; skip; clear hS; first | (go_simp; done) | (go_simp; with_reducible rfl))
              try simp only [Act.put, List.setIfInBounds_toArray, List.set_cons_zero, List.set_cons_succ]
              refine wpAnyH_take (i := 18) (oi := ⟨some 2, _, _, _, _, _⟩) (v := ?_) rfl (by kernel_rfl) (by kernel_rfl) (by kernel_rfl) (fun _ _ _ h => h) (Or.inl ⟨by kernel_rfl, ?_⟩) hHeld ?_
              rotate_left
              focus (intro W hS; skip; clear hS; first | (go_simp; done) | (go_simp; with_reducible rfl))
              try simp only [Act.put, List.setIfInBounds_toArray, List.set_cons_zero, List.set_cons_succ]
              refine wpAnyH_done (by kernel_rfl) ?_ _
              go_wp2_with fail
              go_ret
              exact ⟨by first | rfl | simp [HS], hHeld.2.2.2⟩
  · have g : decide ((1048576 : Int) < n0) = true := by simp; omega
    go_enter Tryd.func3, Tryd.ntmps3
    go_wp2_with fail
    refine (big_any n0 c0 A0 _ w0).mono ?_
    rintro e w1 ⟨rfl, rfl⟩
    rw [g]
    go_wp2_with fail
    go_ret
    exact ⟨rfl, Below.refl _ _⟩

set_option maxRecDepth 100000 in
theorem lifted (os : Os) (started : os.Started) (H : Type) (enc : TypeId × Value → H) :
    ReturnsInHanded {} Tryd.checked os 3 .any (fun w args => (Rows.fnSitesSpec.pre enc Tryd.prog Tryd.f3 [] false w args ∧ laidMetH Tryd.prog laidVars w) ∧ sizedMet enc Tryd.prog Tryd.f3 (OpenSpec.ofChange Rows.fnSitesSpec) false w args) (Rows.fnSitesSpec.post enc Tryd.prog Tryd.f3 false true false false) := by
  refine law_lifted_laid Tryd.func3 (by kernel_rfl) rfl rfl (by kernel_rfl) os started
    (ChangeSpec.witness_shaped (enc := enc) (C := Tryd.checked) (os := os) (X := fun w _ => laidMetH Tryd.prog laidVars w) false (World.laidAll Tryd.prog os laidVars) #[.slice none 0 0] 8 (World.laidAll_os _ _ _)
      (World.shaped_of_ZipB (by kernel_rfl) (by kernel_rfl)) (by kernel_rfl) (by kernel_rfl) (by kernel_rfl)
      (by rw [MakeChecks.laidMetH_plain _ _ _ (by kernel_rfl)]; exact laidMet_laidAll _ (by kernel_rfl) (by kernel_rfl))) ?_
  intro W base args ds p hT hval hA hlt
  rw [Tryd.params3] at hA hval
  obtain ⟨v0, vs0, d0, ds0, p0, q0, hargs, rfl, rfl, h0, r0⟩ := trodAll_cons hA
  obtain ⟨rfl, rfl, rfl⟩ := trodAll_nil r0
  obtain rfl : args = #[v0] := by cases args; simp_all
  obtain ⟨A0, n0, c0, rfl, w0, m0⟩ := open_bytes (hval 0 22 v0 rfl rfl) h0 (fun x hx => hlt x (by simp [hx]))
  exact ⟨⟨rfl, rfl, rfl⟩, walk A0 n0 c0 w0 W m0 hT⟩

theorem over : Rows.fnSitesRow.holds Tryd.pinned (OpenSpec.ofChange Rows.fnSitesSpec) :=
  OpenClaim.holds_of_wide 3 Tryd.f3 rfl rfl rfl rfl rfl rfl rfl ⟨rfl, rfl, rfl, rfl, rfl⟩ rfl rfl rfl rfl rfl (by kernel_rfl) Tryd.func3 (by kernel_rfl)
    (of_decide_eq_true (by kernel_rfl)) (by unfold Func.isWrapper; first | (rw [if_pos (by decide +kernel)]; kernel_rfl) | (rw [if_neg (by decide +kernel)]; exact ⟨rfl, rfl⟩))
    (fun os started H enc _ => lifted os started H enc)

theorem proved : Rows.FnSitesCardSaid :=
  Claim7.holds_tied_plain_at .later [] [.data, .data, .data] true Rows.fnSitesCard.stood.harness true over (fun _ h => by cases h) (by kernel_rfl) (fun _ h => by cases h) fnSites_row_tie rfl ⟨rfl, rfl⟩ (by kernel_rfl) rfl
    (fun f fn hf hfn => by
      obtain rfl : f = 3 := Option.some.inj ((show Tryd.prog.funcNamed "loop.example/g03001/laws.FnSites" = some 3 by kernel_rfl).symm.trans hf) |>.symm
      obtain rfl : fn = Tryd.f3 := (Option.some.inj (Tryd.func3.symm.trans hfn)).symm
      exact ⟨by kernel_rfl, fun j t ht => by
        rw [Tryd.params3] at ht
        have hm : t ∈ [22] := by simpa using Array.mem_of_getElem? ht
        have hall : ([22].all fun u => !Tryd.prog.wantsStandIn u) = true := by kernel_rfl
        exact (show Tryd.prog.wantsStandIn t = false by simpa using List.all_eq_true.1 hall t hm)⟩)
    (by kernel_rfl)
#print axioms proved
end Go.Proofs.YtlnmgfbfpjfddaaDoor.fnSites
