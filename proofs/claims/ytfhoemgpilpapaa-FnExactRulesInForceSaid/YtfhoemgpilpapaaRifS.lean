/- RulesInForce of the model. No condition of its own. -/
import Derived.Test.YtfhoemgpilpapaaRif
import Derived.Deep.LoopGhost
import Derived.Deep.RegionHeld3
namespace Go.Proofs.Ytfhoemgpilpapaa
open Go Go.ChangeShapes Go.WideShapes Go.ChangeAt Go.RowKit Go.Lib
set_option linter.unusedVariables false
set_option linter.unusedSimpArgs false
set_option maxRecDepth 100000
set_option maxHeartbeats 4000000
set_option maxHeartbeats 8000000 in
theorem spec_RulesInForce (x : DBrowser) (m : MBrowser) (lo hi : Nat) (s : TSite) (w : World) (hd : x.dat = m) (hz : m.sz ≤ 1048576) (hok : m.ok) (hr : x.rd w lo hi) (hc : x.caps) :
    Calls Try.prog 30 #[.agg #[.int .i64 x.p0, .slice x.A1 x.n1 x.c1, .slice x.A2 x.n2 x.c2, .slice x.A3 x.n3 x.c3, .slice x.A4 x.n4 x.c4, .slice x.A5 x.n5 x.c5, .slice x.A6 x.n6 x.c6, .int .i64 x.p7], vSite s] w (Makes 104 8 (mRIF m s).length (cRule (mRIF m s)) w) := by
  subst hd
  have hzs := hz
  rw [hr.sz] at hz
  have hz' : x.n1 + x.n2 + x.n3 + x.n4 + x.n5 + x.n6 ≤ 1048576 := by omega
  have HL5 := Lib.hid hr.len.2.2.2.2.1
  have HR5 := Lib.hid hr.2.2.2.2.1.2
  have HCd := Lib.hid (fun (ext : Int) W (hb : Below w.heap.size w W) => spec_IsDenied x.l4 x.A4 x.n4 x.c4 lo hi ext s 3 W (by omega) (hr.2.2.2.1.2.new hb) hc.2.1 hok.2.2.2.2.1)
  have hn5 : x.n5 ≤ 1048576 := by omega
  change Calls _ _ _ _ (Makes 104 8 (x.l5.filter fun r => !mDenied x.l4 r.f0 s 3).length (cRule (x.l5.filter fun r => !mDenied x.l4 r.f0 s 3)) w)
  generalize hP : (fun r : TRule => !mDenied x.l4 r.f0 s 3) = P
  have HP := Lib.hid (show ∀ r, P r = !(mDenied x.l4 r.f0 s 3) by rw [← hP]; intro r; rfl)
  clear hP hr hz hzs hok hc
  have KB0 : BoxAt ((w.alloc (.cells #[.int .i64 x.p0, .slice x.A1 x.n1 x.c1, .slice x.A2 x.n2 x.c2, .slice x.A3 x.n3 x.c3, .slice x.A4 x.n4 x.c4, .slice x.A5 x.n5 x.c5, .slice x.A6 x.n6 x.c6, .int .i64 x.p7] 40)).alloc (.cells #[.int .i64 s.f0, .int .i64 s.f1] 53)) w.heap.size 40 #[.int .i64 x.p0, .slice x.A1 x.n1 x.c1, .slice x.A2 x.n2 x.c2, .slice x.A3 x.n3 x.c3, .slice x.A4 x.n4 x.c4, .slice x.A5 x.n5 x.c5, .slice x.A6 x.n6 x.c6, .int .i64 x.p7] := (box_new w 40 #[.int .i64 x.p0, .slice x.A1 x.n1 x.c1, .slice x.A2 x.n2 x.c2, .slice x.A3 x.n3 x.c3, .slice x.A4 x.n4 x.c4, .slice x.A5 x.n5 x.c5, .slice x.A6 x.n6 x.c6, .int .i64 x.p7]).alloc_ _
  have KS0 : BoxAt ((w.alloc (.cells #[.int .i64 x.p0, .slice x.A1 x.n1 x.c1, .slice x.A2 x.n2 x.c2, .slice x.A3 x.n3 x.c3, .slice x.A4 x.n4 x.c4, .slice x.A5 x.n5 x.c5, .slice x.A6 x.n6 x.c6, .int .i64 x.p7] 40)).alloc (.cells #[.int .i64 s.f0, .int .i64 s.f1] 53)) (w.heap.size + 1) 53 #[.int .i64 s.f0, .int .i64 s.f1] := by simpa using box_new (w.alloc (.cells #[.int .i64 x.p0, .slice x.A1 x.n1 x.c1, .slice x.A2 x.n2 x.c2, .slice x.A3 x.n3 x.c3, .slice x.A4 x.n4 x.c4, .slice x.A5 x.n5 x.c5, .slice x.A6 x.n6 x.c6, .int .i64 x.p7] 40)) 53 #[.int .i64 s.f0, .int .i64 s.f1]
  have HO0 := Lib.hid (show (((w.alloc (.cells #[.int .i64 x.p0, .slice x.A1 x.n1 x.c1, .slice x.A2 x.n2 x.c2, .slice x.A3 x.n3 x.c3, .slice x.A4 x.n4 x.c4, .slice x.A5 x.n5 x.c5, .slice x.A6 x.n6 x.c6, .int .i64 x.p7] 40)).alloc (.cells #[.int .i64 s.f0, .int .i64 s.f1] 53)).alloc (.cells #[] 104)).ownsRow (w.heap.size + 1 + 1) 104 8 (.slice (some ⟨w.heap.size + 1 + 1, 0, none⟩) 0 0) 0 [] by
    have := World.ownsRow_lit (e := 104) (size := 8) ((w.alloc (.cells #[.int .i64 x.p0, .slice x.A1 x.n1 x.c1, .slice x.A2 x.n2 x.c2, .slice x.A3 x.n3 x.c3, .slice x.A4 x.n4 x.c4, .slice x.A5 x.n5 x.c5, .slice x.A6 x.n6 x.c6, .int .i64 x.p7] 40)).alloc (.cells #[.int .i64 s.f0, .int .i64 s.f1] 53)) #[] 0 (Nat.le_refl _) (by unfold maxLen; omega) rfl
    simpa using this)
  replace KB0 := Lib.hid KB0
  replace KS0 := Lib.hid KS0
  go_enter Try.func30, Try.ntmps30
  go_wp2_with fail
  go_loopg [5, 6] x.n5 (fun gg v i wr => ∃ k : Nat, k ≤ x.n5 ∧ x.n5 - k ≤ gg ∧ i = .int .i64 k ∧ Hid (wr.ownsRow (w.heap.size + 1 + 1) 104 8 v ((x.l5.take k).filter P).length (cRule ((x.l5.take k).filter P))) ∧ Hid (BoxAt wr w.heap.size 40 #[.int .i64 x.p0, .slice x.A1 x.n1 x.c1, .slice x.A2 x.n2 x.c2, .slice x.A3 x.n3 x.c3, .slice x.A4 x.n4 x.c4, .slice x.A5 x.n5 x.c5, .slice x.A6 x.n6 x.c6, .int .i64 x.p7]) ∧ Hid (BoxAt wr (w.heap.size + 1) 53 #[.int .i64 s.f0, .int .i64 s.f1]) ∧ Hid (Below w.heap.size w wr))
  case atStart => exact ⟨0, Nat.zero_le _, by omega, rfl, HO0, Lib.hid (KB0.out.alloc_ _), Lib.hid (KS0.out.alloc_ _), Lib.hid ((((Below.refl w.heap.size w).alloc (Nat.le_refl _) _).alloc (by simp) _).alloc (by simp <;> omega) _)⟩
  case round =>
    obtain ⟨k, hk, hg, rfl, HO, KB, KS, HB⟩ := hrel
    have k0 : wr.cell? ⟨w.heap.size, 0, none⟩ = some (.int .i64 x.p0) := KB.out.at_ rfl
    have k1 : wr.cell? ⟨w.heap.size, 1, none⟩ = some (.slice x.A1 x.n1 x.c1) := KB.out.at_ rfl
    have k2 : wr.cell? ⟨w.heap.size, 2, none⟩ = some (.slice x.A2 x.n2 x.c2) := KB.out.at_ rfl
    have k3 : wr.cell? ⟨w.heap.size, 3, none⟩ = some (.slice x.A3 x.n3 x.c3) := KB.out.at_ rfl
    have k4 : wr.cell? ⟨w.heap.size, 4, none⟩ = some (.slice x.A4 x.n4 x.c4) := KB.out.at_ rfl
    have k5 : wr.cell? ⟨w.heap.size, 5, none⟩ = some (.slice x.A5 x.n5 x.c5) := KB.out.at_ rfl
    have k6 : wr.cell? ⟨w.heap.size, 6, none⟩ = some (.slice x.A6 x.n6 x.c6) := KB.out.at_ rfl
    have k7 : wr.cell? ⟨w.heap.size, 7, none⟩ = some (.int .i64 x.p7) := KB.out.at_ rfl
    by_cases hlt : k < x.n5
    · obtain ⟨b, off, r, hA, _, _, hz, hc⟩ := rd_elem TRule.len (HR5.out.new HB.out) HL5.out hlt
      rw [hA] at k5
      have c0 : wr.cell? ⟨b, off + k * 8, none⟩ = some (.int .i64 r.f0) := hc 0 _ rfl
      have c1 : wr.cell? ⟨b, off + k * 8 + 1, none⟩ = some (.int .i64 r.f1) := hc 1 _ rfl
      have c2 : wr.cell? ⟨b, off + k * 8 + 2, none⟩ = some (.int .i64 r.f2) := hc 2 _ rfl
      have c3 : wr.cell? ⟨b, off + k * 8 + 3, none⟩ = some (.int .i64 r.f3) := hc 3 _ rfl
      have c4 : wr.cell? ⟨b, off + k * 8 + 4, none⟩ = some (.int .i64 r.f4) := hc 4 _ rfl
      have c5 : wr.cell? ⟨b, off + k * 8 + 5, none⟩ = some (.int .i64 r.f5) := hc 5 _ rfl
      have c6 : wr.cell? ⟨b, off + k * 8 + 6, none⟩ = some (.int .i64 r.f6) := hc 6 _ rfl
      have c7 : wr.cell? ⟨b, off + k * 8 + 7, none⟩ = some (.int .i64 r.f7) := hc 7 _ rfl
      have HN := Lib.hid (Nat.le_trans (List.length_filter_le P (x.l5.take k)) (List.length_take_le _ _))
      have hE := rif_filt (p := P) hz
      rw [HP.out r] at hE
      have hCk := fun W (hb : Below wr.heap.size wr W) => HCd.out r.f0 W (below_trans HB.out hb (Nat.le_refl _))
      generalize mDenied x.l4 r.f0 s 3 = dd at hE hCk
      have HCk := Lib.hid hCk
      have HE := Lib.hid hE
      have KA2 := Lib.hid (show BoxAt wr.drew w.heap.size 40 #[.int .i64 x.p0, .slice x.A1 x.n1 x.c1, .slice x.A2 x.n2 x.c2, .slice x.A3 x.n3 x.c3, .slice x.A4 x.n4 x.c4, .slice (some ⟨b, off, none⟩) x.n5 x.c5, .slice x.A6 x.n6 x.c6, .int .i64 x.p7] by have h := KB.out.drw; rwa [hA] at h)
      have KS2 := Lib.hid KS.out.drw
      replace hA := Lib.hid hA
      clear hz hc hE hCk
      go_wp2_with fail
      clear k0 k1 k2 k3 k4 k5 k6 k7
      refine wp_region_held_drew (S := fun w' => BoxAt w' w.heap.size 40 #[.int .i64 x.p0, .slice x.A1 x.n1 x.c1, .slice x.A2 x.n2 x.c2, .slice x.A3 x.n3 x.c3, .slice x.A4 x.n4 x.c4, .slice (some ⟨b, off, none⟩) x.n5 x.c5, .slice x.A6 x.n6 x.c6, .int .i64 x.p7] ∧ BoxAt w' (w.heap.size + 1) 53 #[.int .i64 s.f0, .int .i64 s.f1] ∧ Below wr.heap.size wr w') (by kernel_rfl) ?_ (fun hHeld => ?_)
      · exact ⟨KA2.out, KS2.out, (Below.refl _ _).drew⟩
      refine wpAnyH_take (i := 0) (oi := ⟨some 15, _, _, _, _, _⟩) (v := ?_) rfl (by kernel_rfl) (by kernel_rfl) (by kernel_rfl) (fun _ _ _ h => h) (Or.inl ⟨by kernel_rfl, ?_⟩) hHeld ?_
      rotate_left
      focus (intro W hS; have c0_0 := (hS.1).at_ (j := 0) rfl; have c0_1 := (hS.1).at_ (j := 1) rfl; have c0_2 := (hS.1).at_ (j := 2) rfl; have c0_3 := (hS.1).at_ (j := 3) rfl; have c0_4 := (hS.1).at_ (j := 4) rfl; have c0_5 := (hS.1).at_ (j := 5) rfl; have c0_6 := (hS.1).at_ (j := 6) rfl; have c0_7 := (hS.1).at_ (j := 7) rfl; have c1_0 := (hS.2.1).at_ (j := 0) rfl; have c1_1 := (hS.2.1).at_ (j := 1) rfl; have c0' := cell_nw hS.2.2 c0; clear hS; first | (go_simp; done) | (go_simp; with_reducible rfl))
      try simp only [Act.put, List.setIfInBounds_toArray, List.set_cons_zero, List.set_cons_succ]
      refine wpAnyH_take (i := 1) (oi := ⟨some 16, _, _, _, _, _⟩) (v := ?_) rfl (by kernel_rfl) (by kernel_rfl) (by kernel_rfl) (fun _ _ _ h => h) (Or.inl ⟨by kernel_rfl, ?_⟩) hHeld ?_
      rotate_left
      focus (intro W hS; have c0_0 := (hS.1).at_ (j := 0) rfl; have c0_1 := (hS.1).at_ (j := 1) rfl; have c0_2 := (hS.1).at_ (j := 2) rfl; have c0_3 := (hS.1).at_ (j := 3) rfl; have c0_4 := (hS.1).at_ (j := 4) rfl; have c0_5 := (hS.1).at_ (j := 5) rfl; have c0_6 := (hS.1).at_ (j := 6) rfl; have c0_7 := (hS.1).at_ (j := 7) rfl; have c1_0 := (hS.2.1).at_ (j := 0) rfl; have c1_1 := (hS.2.1).at_ (j := 1) rfl; have c0' := cell_nw hS.2.2 c0; clear hS; first | (go_simp; done) | (go_simp; with_reducible rfl))
      try simp only [Act.put, List.setIfInBounds_toArray, List.set_cons_zero, List.set_cons_succ]
      refine wpAnyH_take (i := 2) (oi := ⟨some 17, _, _, _, _, _⟩) (v := ?_) rfl (by kernel_rfl) (by kernel_rfl) (by kernel_rfl) (fun _ _ _ h => h) (Or.inl ⟨by kernel_rfl, ?_⟩) hHeld ?_
      rotate_left
      focus (intro W hS; have c0_0 := (hS.1).at_ (j := 0) rfl; have c0_1 := (hS.1).at_ (j := 1) rfl; have c0_2 := (hS.1).at_ (j := 2) rfl; have c0_3 := (hS.1).at_ (j := 3) rfl; have c0_4 := (hS.1).at_ (j := 4) rfl; have c0_5 := (hS.1).at_ (j := 5) rfl; have c0_6 := (hS.1).at_ (j := 6) rfl; have c0_7 := (hS.1).at_ (j := 7) rfl; have c1_0 := (hS.2.1).at_ (j := 0) rfl; have c1_1 := (hS.2.1).at_ (j := 1) rfl; have c0' := cell_nw hS.2.2 c0; clear hS; first | (go_simp; done) | (go_simp; with_reducible rfl))
      try simp only [Act.put, List.setIfInBounds_toArray, List.set_cons_zero, List.set_cons_succ]
      refine wpAnyH_take (i := 3) (oi := ⟨some 18, _, _, _, _, _⟩) (v := ?_) rfl (by kernel_rfl) (by kernel_rfl) (by kernel_rfl) (fun _ _ _ h => h) (Or.inl ⟨by kernel_rfl, ?_⟩) hHeld ?_
      rotate_left
      focus (intro W hS; have c0_0 := (hS.1).at_ (j := 0) rfl; have c0_1 := (hS.1).at_ (j := 1) rfl; have c0_2 := (hS.1).at_ (j := 2) rfl; have c0_3 := (hS.1).at_ (j := 3) rfl; have c0_4 := (hS.1).at_ (j := 4) rfl; have c0_5 := (hS.1).at_ (j := 5) rfl; have c0_6 := (hS.1).at_ (j := 6) rfl; have c0_7 := (hS.1).at_ (j := 7) rfl; have c1_0 := (hS.2.1).at_ (j := 0) rfl; have c1_1 := (hS.2.1).at_ (j := 1) rfl; have c0' := cell_nw hS.2.2 c0; clear hS; first | (go_simp; done) | (go_simp; with_reducible rfl))
      try simp only [Act.put, List.setIfInBounds_toArray, List.set_cons_zero, List.set_cons_succ]
      refine wpAnyH_take (i := 4) (oi := ⟨some 19, _, _, _, _, _⟩) (v := ?_) rfl (by kernel_rfl) (by kernel_rfl) (by kernel_rfl) (fun _ _ _ h => h) (Or.inl ⟨by kernel_rfl, ?_⟩) hHeld ?_
      rotate_left
      focus (intro W hS; have c0_0 := (hS.1).at_ (j := 0) rfl; have c0_1 := (hS.1).at_ (j := 1) rfl; have c0_2 := (hS.1).at_ (j := 2) rfl; have c0_3 := (hS.1).at_ (j := 3) rfl; have c0_4 := (hS.1).at_ (j := 4) rfl; have c0_5 := (hS.1).at_ (j := 5) rfl; have c0_6 := (hS.1).at_ (j := 6) rfl; have c0_7 := (hS.1).at_ (j := 7) rfl; have c1_0 := (hS.2.1).at_ (j := 0) rfl; have c1_1 := (hS.2.1).at_ (j := 1) rfl; have c0' := cell_nw hS.2.2 c0; clear hS; first | (go_simp; done) | (go_simp; with_reducible rfl))
      try simp only [Act.put, List.setIfInBounds_toArray, List.set_cons_zero, List.set_cons_succ]
      refine wpAnyH_take (i := 5) (oi := ⟨some 20, _, _, _, _, _⟩) (v := ?_) rfl (by kernel_rfl) (by kernel_rfl) (by kernel_rfl) (fun _ _ _ h => h) (Or.inl ⟨by kernel_rfl, ?_⟩) hHeld ?_
      rotate_left
      focus (intro W hS; have c0_0 := (hS.1).at_ (j := 0) rfl; have c0_1 := (hS.1).at_ (j := 1) rfl; have c0_2 := (hS.1).at_ (j := 2) rfl; have c0_3 := (hS.1).at_ (j := 3) rfl; have c0_4 := (hS.1).at_ (j := 4) rfl; have c0_5 := (hS.1).at_ (j := 5) rfl; have c0_6 := (hS.1).at_ (j := 6) rfl; have c0_7 := (hS.1).at_ (j := 7) rfl; have c1_0 := (hS.2.1).at_ (j := 0) rfl; have c1_1 := (hS.2.1).at_ (j := 1) rfl; have c0' := cell_nw hS.2.2 c0; clear hS; first | (go_simp; done) | (go_simp; with_reducible rfl))
      try simp only [Act.put, List.setIfInBounds_toArray, List.set_cons_zero, List.set_cons_succ]
      refine wpAnyH_take (i := 6) (oi := ⟨some 21, _, _, _, _, _⟩) (v := ?_) rfl (by kernel_rfl) (by kernel_rfl) (by kernel_rfl) (fun _ _ _ h => h) (Or.inl ⟨by kernel_rfl, ?_⟩) hHeld ?_
      rotate_left
      focus (intro W hS; have c0_0 := (hS.1).at_ (j := 0) rfl; have c0_1 := (hS.1).at_ (j := 1) rfl; have c0_2 := (hS.1).at_ (j := 2) rfl; have c0_3 := (hS.1).at_ (j := 3) rfl; have c0_4 := (hS.1).at_ (j := 4) rfl; have c0_5 := (hS.1).at_ (j := 5) rfl; have c0_6 := (hS.1).at_ (j := 6) rfl; have c0_7 := (hS.1).at_ (j := 7) rfl; have c1_0 := (hS.2.1).at_ (j := 0) rfl; have c1_1 := (hS.2.1).at_ (j := 1) rfl; have c0' := cell_nw hS.2.2 c0; clear hS; first | (go_simp; done) | (go_simp; with_reducible rfl))
      try simp only [Act.put, List.setIfInBounds_toArray, List.set_cons_zero, List.set_cons_succ]
      refine wpAnyH_take (i := 7) (oi := ⟨some 22, _, _, _, _, _⟩) (v := ?_) rfl (by kernel_rfl) (by kernel_rfl) (by kernel_rfl) (fun _ _ _ h => h) (Or.inl ⟨by kernel_rfl, ?_⟩) hHeld ?_
      rotate_left
      focus (intro W hS; have c0_0 := (hS.1).at_ (j := 0) rfl; have c0_1 := (hS.1).at_ (j := 1) rfl; have c0_2 := (hS.1).at_ (j := 2) rfl; have c0_3 := (hS.1).at_ (j := 3) rfl; have c0_4 := (hS.1).at_ (j := 4) rfl; have c0_5 := (hS.1).at_ (j := 5) rfl; have c0_6 := (hS.1).at_ (j := 6) rfl; have c0_7 := (hS.1).at_ (j := 7) rfl; have c1_0 := (hS.2.1).at_ (j := 0) rfl; have c1_1 := (hS.2.1).at_ (j := 1) rfl; have c0' := cell_nw hS.2.2 c0; clear hS; first | (go_simp; done) | (go_simp; with_reducible rfl))
      try simp only [Act.put, List.setIfInBounds_toArray, List.set_cons_zero, List.set_cons_succ]
      refine wpAnyH_take (i := 8) (oi := ⟨some 23, _, _, _, _, _⟩) (v := ?_) rfl (by kernel_rfl) (by kernel_rfl) (by kernel_rfl) (fun _ _ _ h => h) (Or.inl ⟨by kernel_rfl, ?_⟩) hHeld ?_
      rotate_left
      focus (intro W hS; have c0_0 := (hS.1).at_ (j := 0) rfl; have c0_1 := (hS.1).at_ (j := 1) rfl; have c0_2 := (hS.1).at_ (j := 2) rfl; have c0_3 := (hS.1).at_ (j := 3) rfl; have c0_4 := (hS.1).at_ (j := 4) rfl; have c0_5 := (hS.1).at_ (j := 5) rfl; have c0_6 := (hS.1).at_ (j := 6) rfl; have c0_7 := (hS.1).at_ (j := 7) rfl; have c1_0 := (hS.2.1).at_ (j := 0) rfl; have c1_1 := (hS.2.1).at_ (j := 1) rfl; have c0' := cell_nw hS.2.2 c0; clear hS; first | (go_simp; done) | (go_simp; with_reducible rfl))
      try simp only [Act.put, List.setIfInBounds_toArray, List.set_cons_zero, List.set_cons_succ]
      refine wpAnyH_ready (rs := [9]) (by kernel_rfl) (by simp) ?_
      refine AllReadyH.cons (o := ⟨some 24, _, _, _, _, _⟩) rfl (fun K hK => ?_) AllReadyH.nil
      go_simp
      refine Calls.mono (HCk.out _ hHeld.2.2) ?_
      rintro e x1 ⟨rfl, hb1⟩
      refine hK.out _ _ ⟨hHeld.1.new hb1, hHeld.2.1.new hb1, below_trans hHeld.2.2 hb1 (Nat.le_refl _)⟩ (fun hHeld' => ?_)
      clear hK K hHeld hb1
      have hHeld := hHeld'
      clear hHeld'
      try simp only [Act.put, List.setIfInBounds_toArray, List.set_cons_zero, List.set_cons_succ]
      refine wpAnyH_take (i := 10) (oi := ⟨some 25, _, _, _, _, _⟩) (v := ?_) rfl (by kernel_rfl) (by kernel_rfl) (by kernel_rfl) (fun _ _ _ h => h) (Or.inl ⟨by kernel_rfl, ?_⟩) hHeld ?_
      rotate_left
      focus (intro W hS; have c0_0 := (hS.1).at_ (j := 0) rfl; have c0_1 := (hS.1).at_ (j := 1) rfl; have c0_2 := (hS.1).at_ (j := 2) rfl; have c0_3 := (hS.1).at_ (j := 3) rfl; have c0_4 := (hS.1).at_ (j := 4) rfl; have c0_5 := (hS.1).at_ (j := 5) rfl; have c0_6 := (hS.1).at_ (j := 6) rfl; have c0_7 := (hS.1).at_ (j := 7) rfl; have c1_0 := (hS.2.1).at_ (j := 0) rfl; have c1_1 := (hS.2.1).at_ (j := 1) rfl; have c0' := cell_nw hS.2.2 c0; clear hS; first | (go_simp; done) | (go_simp; with_reducible rfl))
      try simp only [Act.put, List.setIfInBounds_toArray, List.set_cons_zero, List.set_cons_succ]
      refine wpAnyH_done (by kernel_rfl) ?_ _
      skip
      have KA2 := Lib.hid hHeld.1
      have KS2 := Lib.hid hHeld.2.1
      have HBl := hHeld.2.2
      have KA3 := Lib.hid (show BoxAt x1 w.heap.size 40 #[.int .i64 x.p0, .slice x.A1 x.n1 x.c1, .slice x.A2 x.n2 x.c2, .slice x.A3 x.n3 x.c3, .slice x.A4 x.n4 x.c4, .slice x.A5 x.n5 x.c5, .slice x.A6 x.n6 x.c6, .int .i64 x.p7] by rw [hA.out]; exact KA2.out)
      have HB3 := Lib.hid (below_trans HB.out HBl (Nat.le_refl _))
      have HO3 := Lib.hid (own_newer HO.out HBl)
      have HS3 := Lib.hid (show w.heap.size + 1 + 1 ≤ x1.heap.size from KS2.out.lt)
      have k5 := KA2.out.at_ (j := 5) rfl
      have e0 := cell_nw HBl c0
      have e1 := cell_nw HBl c1
      have e2 := cell_nw HBl c2
      have e3 := cell_nw HBl c3
      have e4 := cell_nw HBl c4
      have e5 := cell_nw HBl c5
      have e6 := cell_nw HBl c6
      have e7 := cell_nw HBl c7
      clear hHeld HBl c0 c1 c2 c3 c4 c5 c6 c7
      cases dd with
      | true =>
        have H2 := Lib.hid (by have := HE.out; rwa [if_neg (by decide)] at this)
        clear HE
        go_wp2_with fail
        go_roundg (x.n5 - (k + 1))
        case measure => omega
        case rel => exact ⟨k + 1, by omega, by omega, by go_num, by rw [H2.out]; exact HO3, KA3, KS2, HB3⟩
      | false =>
        have H2 := Lib.hid (by have := HE.out; rwa [if_pos (by decide)] at this)
        clear HE
        go_wp2_with (at_builtin; refine wp_app_lit rfl _ _ _ rfl (w.heap.size + 1 + 1) 104 (.agg #[.int .i64 0, .int .i64 0, .int .i64 0, .int .i64 0, .int .i64 0, .int .i64 0, .int .i64 0, .int .i64 0]) 8 64 Try.underlying37 infoRule rfl (by decide) _ _ _ rfl HO3.out #[.int .i64 r.f0, .int .i64 r.f1, .int .i64 r.f2, .int .i64 r.f3, .int .i64 r.f4, .int .i64 r.f5, .int .i64 r.f6, .int .i64 r.f7] 1 1 _ rfl (by simp) rfl (onesRule r) (by have := HN.out; unfold maxLen; omega) (by have := HN.out; omega) (by have := HS3.out; omega) ?_; intro v1 w8 ho8 hb8)
        have HO8 := Lib.hid (show w8.ownsRow (w.heap.size + 1 + 1) 104 8 v1 ((x.l5.take (k + 1)).filter P).length (cRule ((x.l5.take (k + 1)).filter P)) by rw [H2.out]; simpa [cRule, TRule.cells, List.flatMap_append] using ho8)
        have KB8 := Lib.hid (KA3.out.keep (hb8.block _ (by omega)))
        have KS8 := Lib.hid (KS2.out.keep (hb8.block _ (by omega)))
        have HB8 := Lib.hid (HB3.out.trans (hb8.mono (by omega)))
        clear ho8 hb8 e0 e1 e2 e3 e4 e5 e6 e7 k5
        go_wp2_with fail
        go_roundg (x.n5 - (k + 1))
        case measure => omega
        case rel => exact ⟨k + 1, by omega, by omega, by go_num, HO8, KB8, KS8, HB8⟩
    · obtain rfl : k = x.n5 := by omega
      have HO2 := Lib.hid (own_base (base' := w.heap.size) (show wr.ownsRow (w.heap.size + 1 + 1) 104 8 _ (x.l5.filter P).length (cRule (x.l5.filter P)) by have := HO.out; rwa [List.take_of_length_le (by rw [HL5.out]; omega)] at this) (by omega))
      clear HO
      go_wp2_with fail
      go_ret
      exact makes_of_own HO2.out HB.out

end Go.Proofs.Ytfhoemgpilpapaa
