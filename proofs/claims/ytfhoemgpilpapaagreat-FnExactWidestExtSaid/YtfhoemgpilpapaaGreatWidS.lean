/- WidestExt of the model. No condition of its own. -/
import Derived.Test.YtfhoemgpilpapaaGreatWid
import Derived.Deep.LoopGhost
import Derived.Deep.RegionHeld3
namespace Go.Proofs.YtfhoemgpilpapaaGreat
open Go Go.ChangeShapes Go.WideShapes Go.ChangeAt Go.RowKit Go.Lib
set_option linter.unusedVariables false
set_option linter.unusedSimpArgs false
set_option maxRecDepth 100000
set_option maxHeartbeats 4000000
set_option maxHeartbeats 8000000 in
theorem spec_WidestExt (x : DBrowser) (m : MBrowser) (lo hi : Nat) (s : TSite) (w : World) (hd : x.dat = m) (hz : m.sz ≤ 1048576) (hok : m.ok) (hr : x.rd w lo hi) (hc : x.caps) :
    Calls Tryz.prog 17 #[.agg #[.int .i64 x.p0, .slice x.A1 x.n1 x.c1, .slice x.A2 x.n2 x.c2, .slice x.A3 x.n3 x.c3, .slice x.A4 x.n4 x.c4, .slice x.A5 x.n5 x.c5, .slice x.A6 x.n6 x.c6, .int .i64 x.p7], vSite s] w (Says (.int .i64 (mWidest m s)) w) := by
  subst hd
  have hzs := hz
  rw [hr.sz] at hz
  have hz' : x.n1 + x.n2 + x.n3 + x.n4 + x.n5 + x.n6 ≤ 1048576 := by omega
  have CP := Lib.hid (fun e W h => spec_PowersOf x _ lo hi e s W rfl hzs hok h hc)
  have HPl := Lib.hid (fun e => mPow_len x.dat e s)
  have HL := Lib.hid hr.2.1.len
  have HR := Lib.hid hr
  have HV := Lib.hid (fun k p (h : x.l2[k]? = some p) => mInst_at h)
  have HLn := Lib.hid (show (mInst x.dat).length = x.n2 by rw [mInst_eq, List.length_map, hr.2.1.len])
  have hn2 : x.n2 ≤ 1048576 := by omega
  unfold mWidest
  obtain ⟨f, hf⟩ : ∃ f : Int → Nat, f = fun e => (mPow x.dat e s).length := ⟨_, rfl⟩
  rw [← hf]
  have CP2 : Hid (∀ (e : Int) W, x.rd W lo hi → Calls Tryz.prog 8 #[.agg #[.int .i64 x.p0, .slice x.A1 x.n1 x.c1, .slice x.A2 x.n2 x.c2, .slice x.A3 x.n3 x.c3, .slice x.A4 x.n4 x.c4, .slice x.A5 x.n5 x.c5, .slice x.A6 x.n6 x.c6, .int .i64 x.p7], .int .i64 e, vSite s] W (fun q W' => ∃ A c, q = .returned (.slice A (f e) c) ∧ Below W.heap.size W W')) := by
    subst hf
    exact Lib.hid fun e W h => (CP.out e W h).mono fun q W' ⟨A, c, h1, _, h3⟩ => ⟨A, c, h1, h3⟩
  have HPl2 : Hid (∀ e, f e ≤ 4) := by subst hf; exact HPl
  generalize mInst x.dat = L at HV HLn ⊢
  clear hr hz hzs hok hc hf CP HPl
  have KB0 : BoxAt ((w.alloc (.cells #[.int .i64 x.p0, .slice x.A1 x.n1 x.c1, .slice x.A2 x.n2 x.c2, .slice x.A3 x.n3 x.c3, .slice x.A4 x.n4 x.c4, .slice x.A5 x.n5 x.c5, .slice x.A6 x.n6 x.c6, .int .i64 x.p7] 42)).alloc (.cells #[.int .i64 s.f0, .int .i64 s.f1] 44)) w.heap.size 42 #[.int .i64 x.p0, .slice x.A1 x.n1 x.c1, .slice x.A2 x.n2 x.c2, .slice x.A3 x.n3 x.c3, .slice x.A4 x.n4 x.c4, .slice x.A5 x.n5 x.c5, .slice x.A6 x.n6 x.c6, .int .i64 x.p7] := (box_new w 42 #[.int .i64 x.p0, .slice x.A1 x.n1 x.c1, .slice x.A2 x.n2 x.c2, .slice x.A3 x.n3 x.c3, .slice x.A4 x.n4 x.c4, .slice x.A5 x.n5 x.c5, .slice x.A6 x.n6 x.c6, .int .i64 x.p7]).alloc_ _
  have KB2 : BoxAt ((w.alloc (.cells #[.int .i64 x.p0, .slice x.A1 x.n1 x.c1, .slice x.A2 x.n2 x.c2, .slice x.A3 x.n3 x.c3, .slice x.A4 x.n4 x.c4, .slice x.A5 x.n5 x.c5, .slice x.A6 x.n6 x.c6, .int .i64 x.p7] 42)).alloc (.cells #[.int .i64 s.f0, .int .i64 s.f1] 44)) (w.heap.size + 1) 44 #[.int .i64 s.f0, .int .i64 s.f1] := by simpa using box_new (w.alloc (.cells #[.int .i64 x.p0, .slice x.A1 x.n1 x.c1, .slice x.A2 x.n2 x.c2, .slice x.A3 x.n3 x.c3, .slice x.A4 x.n4 x.c4, .slice x.A5 x.n5 x.c5, .slice x.A6 x.n6 x.c6, .int .i64 x.p7] 42)) 44 #[.int .i64 s.f0, .int .i64 s.f1]
  replace KB0 := Lib.hid KB0
  replace KB2 := Lib.hid KB2
  have HB0 := Lib.hid (show Below w.heap.size w ((w.alloc (.cells #[.int .i64 x.p0, .slice x.A1 x.n1 x.c1, .slice x.A2 x.n2 x.c2, .slice x.A3 x.n3 x.c3, .slice x.A4 x.n4 x.c4, .slice x.A5 x.n5 x.c5, .slice x.A6 x.n6 x.c6, .int .i64 x.p7] 42)).alloc (.cells #[.int .i64 s.f0, .int .i64 s.f1] 44)) from ((Below.refl w.heap.size w).alloc (Nat.le_refl _) _).alloc (by simp) _)
  go_enter Tryz.func17, Tryz.ntmps17
  go_wp2_with fail
  go_loopg [5, 6, 7] x.n2 (fun gg bb mm i wr => ∃ (k : Nat) (r q : Int), k ≤ x.n2 ∧ x.n2 - k ≤ gg ∧ i = .int .i64 k ∧ bb = .int .i64 r ∧ mm = .int .i64 q ∧ -1 ≤ q ∧ q ≤ 4 ∧ Hid ((wBest f (L.take k) = none ∧ r = 0 ∧ q = -1) ∨ (wBest f (L.take k) = some r ∧ q = (f r : Int))) ∧ Hid (BoxAt wr w.heap.size 42 #[.int .i64 x.p0, .slice x.A1 x.n1 x.c1, .slice x.A2 x.n2 x.c2, .slice x.A3 x.n3 x.c3, .slice x.A4 x.n4 x.c4, .slice x.A5 x.n5 x.c5, .slice x.A6 x.n6 x.c6, .int .i64 x.p7]) ∧ Hid (BoxAt wr (w.heap.size + 1) 44 #[.int .i64 s.f0, .int .i64 s.f1]) ∧ Hid (Below w.heap.size w wr))
  case atStart => exact ⟨0, 0, -1, Nat.zero_le _, by omega, rfl, rfl, rfl, by omega, by omega, Lib.hid (.inl ⟨rfl, rfl, rfl⟩), KB0, KB2, HB0⟩
  case round =>
    obtain ⟨k, r, q, hk, hg, rfl, rfl, rfl, hq1, hq2, HI, KA, KS, HB⟩ := hrel
    have k0 : wr.cell? ⟨w.heap.size, 0, none⟩ = some (.int .i64 x.p0) := KA.out.at_ rfl
    have k1 : wr.cell? ⟨w.heap.size, 1, none⟩ = some (.slice x.A1 x.n1 x.c1) := KA.out.at_ rfl
    have k2 : wr.cell? ⟨w.heap.size, 2, none⟩ = some (.slice x.A2 x.n2 x.c2) := KA.out.at_ rfl
    have k3 : wr.cell? ⟨w.heap.size, 3, none⟩ = some (.slice x.A3 x.n3 x.c3) := KA.out.at_ rfl
    have k4 : wr.cell? ⟨w.heap.size, 4, none⟩ = some (.slice x.A4 x.n4 x.c4) := KA.out.at_ rfl
    have k5 : wr.cell? ⟨w.heap.size, 5, none⟩ = some (.slice x.A5 x.n5 x.c5) := KA.out.at_ rfl
    have k6 : wr.cell? ⟨w.heap.size, 6, none⟩ = some (.slice x.A6 x.n6 x.c6) := KA.out.at_ rfl
    have k7 : wr.cell? ⟨w.heap.size, 7, none⟩ = some (.int .i64 x.p7) := KA.out.at_ rfl
    by_cases hlt : k < x.n2
    · obtain ⟨b, off, p, hA, _, _, hzz, hc⟩ := rd_elem DPackage.len (HR.out.new HB.out).2.1.2.1 HL.out hlt
      rw [hA] at k2
      have c0 : wr.cell? ⟨b, off + k * 8, none⟩ = some (.int .i64 p.p0) := hc 0 _ rfl
      have HE := Lib.hid (wBest_one (f := f) (HV.out k p hzz))
      have CQ := Lib.hid (fun W (hb : Below wr.heap.size wr W) => CP2.out p.p0 W ((HR.out.new HB.out).new hb))
      have CQ2 := CQ.out
      rw [hA] at CQ2
      replace CQ2 := Lib.hid CQ2
      have hfp := HPl2.out p.p0
      have KA2 := Lib.hid (show BoxAt wr.drew w.heap.size 42 #[.int .i64 x.p0, .slice x.A1 x.n1 x.c1, .slice (some ⟨b, off, none⟩) x.n2 x.c2, .slice x.A3 x.n3 x.c3, .slice x.A4 x.n4 x.c4, .slice x.A5 x.n5 x.c5, .slice x.A6 x.n6 x.c6, .int .i64 x.p7] by have h := KA.out.drw; rwa [hA] at h)
      have KS2 := Lib.hid KS.out.drw
      replace hA := Lib.hid hA
      clear hzz hc
      go_wp2_with fail
      clear k0 k1 k2 k3 k4 k5 k6 k7
      refine wp_region_held_drew (S := fun w' => BoxAt w' w.heap.size 42 #[.int .i64 x.p0, .slice x.A1 x.n1 x.c1, .slice (some ⟨b, off, none⟩) x.n2 x.c2, .slice x.A3 x.n3 x.c3, .slice x.A4 x.n4 x.c4, .slice x.A5 x.n5 x.c5, .slice x.A6 x.n6 x.c6, .int .i64 x.p7] ∧ BoxAt w' (w.heap.size + 1) 44 #[.int .i64 s.f0, .int .i64 s.f1] ∧ Below wr.heap.size wr w') (by kernel_rfl) ?_ (fun hHeld => ?_)
      · exact ⟨KA2.out, KS2.out, (Below.refl _ _).drew⟩
      refine wpAnyH_take (i := 0) (oi := ⟨some 16, _, _, _, _, _⟩) (v := ?_) rfl (by kernel_rfl) (by kernel_rfl) (by kernel_rfl) (fun _ _ _ h => h) (Or.inl ⟨by kernel_rfl, ?_⟩) hHeld ?_
      rotate_left
      focus (intro W hS; have c0_0 := (hS.1).at_ (j := 0) rfl; have c0_1 := (hS.1).at_ (j := 1) rfl; have c0_2 := (hS.1).at_ (j := 2) rfl; have c0_3 := (hS.1).at_ (j := 3) rfl; have c0_4 := (hS.1).at_ (j := 4) rfl; have c0_5 := (hS.1).at_ (j := 5) rfl; have c0_6 := (hS.1).at_ (j := 6) rfl; have c0_7 := (hS.1).at_ (j := 7) rfl; have c1_0 := (hS.2.1).at_ (j := 0) rfl; have c1_1 := (hS.2.1).at_ (j := 1) rfl; have c0' := cell_nw hS.2.2 c0; clear hS; first | (go_simp; done) | (go_simp; with_reducible rfl))
      try simp only [Act.put, List.setIfInBounds_toArray, List.set_cons_zero, List.set_cons_succ]
      refine wpAnyH_take (i := 1) (oi := ⟨some 17, _, _, _, _, _⟩) (v := ?_) rfl (by kernel_rfl) (by kernel_rfl) (by kernel_rfl) (fun _ _ _ h => h) (Or.inl ⟨by kernel_rfl, ?_⟩) hHeld ?_
      rotate_left
      focus (intro W hS; have c0_0 := (hS.1).at_ (j := 0) rfl; have c0_1 := (hS.1).at_ (j := 1) rfl; have c0_2 := (hS.1).at_ (j := 2) rfl; have c0_3 := (hS.1).at_ (j := 3) rfl; have c0_4 := (hS.1).at_ (j := 4) rfl; have c0_5 := (hS.1).at_ (j := 5) rfl; have c0_6 := (hS.1).at_ (j := 6) rfl; have c0_7 := (hS.1).at_ (j := 7) rfl; have c1_0 := (hS.2.1).at_ (j := 0) rfl; have c1_1 := (hS.2.1).at_ (j := 1) rfl; have c0' := cell_nw hS.2.2 c0; clear hS; first | (go_simp; done) | (go_simp; with_reducible rfl))
      try simp only [Act.put, List.setIfInBounds_toArray, List.set_cons_zero, List.set_cons_succ]
      refine wpAnyH_take (i := 2) (oi := ⟨some 18, _, _, _, _, _⟩) (v := ?_) rfl (by kernel_rfl) (by kernel_rfl) (by kernel_rfl) (fun _ _ _ h => h) (Or.inl ⟨by kernel_rfl, ?_⟩) hHeld ?_
      rotate_left
      focus (intro W hS; have c0_0 := (hS.1).at_ (j := 0) rfl; have c0_1 := (hS.1).at_ (j := 1) rfl; have c0_2 := (hS.1).at_ (j := 2) rfl; have c0_3 := (hS.1).at_ (j := 3) rfl; have c0_4 := (hS.1).at_ (j := 4) rfl; have c0_5 := (hS.1).at_ (j := 5) rfl; have c0_6 := (hS.1).at_ (j := 6) rfl; have c0_7 := (hS.1).at_ (j := 7) rfl; have c1_0 := (hS.2.1).at_ (j := 0) rfl; have c1_1 := (hS.2.1).at_ (j := 1) rfl; have c0' := cell_nw hS.2.2 c0; clear hS; first | (go_simp; done) | (go_simp; with_reducible rfl))
      try simp only [Act.put, List.setIfInBounds_toArray, List.set_cons_zero, List.set_cons_succ]
      refine wpAnyH_take (i := 3) (oi := ⟨some 19, _, _, _, _, _⟩) (v := ?_) rfl (by kernel_rfl) (by kernel_rfl) (by kernel_rfl) (fun _ _ _ h => h) (Or.inl ⟨by kernel_rfl, ?_⟩) hHeld ?_
      rotate_left
      focus (intro W hS; have c0_0 := (hS.1).at_ (j := 0) rfl; have c0_1 := (hS.1).at_ (j := 1) rfl; have c0_2 := (hS.1).at_ (j := 2) rfl; have c0_3 := (hS.1).at_ (j := 3) rfl; have c0_4 := (hS.1).at_ (j := 4) rfl; have c0_5 := (hS.1).at_ (j := 5) rfl; have c0_6 := (hS.1).at_ (j := 6) rfl; have c0_7 := (hS.1).at_ (j := 7) rfl; have c1_0 := (hS.2.1).at_ (j := 0) rfl; have c1_1 := (hS.2.1).at_ (j := 1) rfl; have c0' := cell_nw hS.2.2 c0; clear hS; first | (go_simp; done) | (go_simp; with_reducible rfl))
      try simp only [Act.put, List.setIfInBounds_toArray, List.set_cons_zero, List.set_cons_succ]
      refine wpAnyH_take (i := 4) (oi := ⟨some 20, _, _, _, _, _⟩) (v := ?_) rfl (by kernel_rfl) (by kernel_rfl) (by kernel_rfl) (fun _ _ _ h => h) (Or.inl ⟨by kernel_rfl, ?_⟩) hHeld ?_
      rotate_left
      focus (intro W hS; have c0_0 := (hS.1).at_ (j := 0) rfl; have c0_1 := (hS.1).at_ (j := 1) rfl; have c0_2 := (hS.1).at_ (j := 2) rfl; have c0_3 := (hS.1).at_ (j := 3) rfl; have c0_4 := (hS.1).at_ (j := 4) rfl; have c0_5 := (hS.1).at_ (j := 5) rfl; have c0_6 := (hS.1).at_ (j := 6) rfl; have c0_7 := (hS.1).at_ (j := 7) rfl; have c1_0 := (hS.2.1).at_ (j := 0) rfl; have c1_1 := (hS.2.1).at_ (j := 1) rfl; have c0' := cell_nw hS.2.2 c0; clear hS; first | (go_simp; done) | (go_simp; with_reducible rfl))
      try simp only [Act.put, List.setIfInBounds_toArray, List.set_cons_zero, List.set_cons_succ]
      refine wpAnyH_take (i := 5) (oi := ⟨some 21, _, _, _, _, _⟩) (v := ?_) rfl (by kernel_rfl) (by kernel_rfl) (by kernel_rfl) (fun _ _ _ h => h) (Or.inl ⟨by kernel_rfl, ?_⟩) hHeld ?_
      rotate_left
      focus (intro W hS; have c0_0 := (hS.1).at_ (j := 0) rfl; have c0_1 := (hS.1).at_ (j := 1) rfl; have c0_2 := (hS.1).at_ (j := 2) rfl; have c0_3 := (hS.1).at_ (j := 3) rfl; have c0_4 := (hS.1).at_ (j := 4) rfl; have c0_5 := (hS.1).at_ (j := 5) rfl; have c0_6 := (hS.1).at_ (j := 6) rfl; have c0_7 := (hS.1).at_ (j := 7) rfl; have c1_0 := (hS.2.1).at_ (j := 0) rfl; have c1_1 := (hS.2.1).at_ (j := 1) rfl; have c0' := cell_nw hS.2.2 c0; clear hS; first | (go_simp; done) | (go_simp; with_reducible rfl))
      try simp only [Act.put, List.setIfInBounds_toArray, List.set_cons_zero, List.set_cons_succ]
      refine wpAnyH_take (i := 6) (oi := ⟨some 22, _, _, _, _, _⟩) (v := ?_) rfl (by kernel_rfl) (by kernel_rfl) (by kernel_rfl) (fun _ _ _ h => h) (Or.inl ⟨by kernel_rfl, ?_⟩) hHeld ?_
      rotate_left
      focus (intro W hS; have c0_0 := (hS.1).at_ (j := 0) rfl; have c0_1 := (hS.1).at_ (j := 1) rfl; have c0_2 := (hS.1).at_ (j := 2) rfl; have c0_3 := (hS.1).at_ (j := 3) rfl; have c0_4 := (hS.1).at_ (j := 4) rfl; have c0_5 := (hS.1).at_ (j := 5) rfl; have c0_6 := (hS.1).at_ (j := 6) rfl; have c0_7 := (hS.1).at_ (j := 7) rfl; have c1_0 := (hS.2.1).at_ (j := 0) rfl; have c1_1 := (hS.2.1).at_ (j := 1) rfl; have c0' := cell_nw hS.2.2 c0; clear hS; first | (go_simp; done) | (go_simp; with_reducible rfl))
      try simp only [Act.put, List.setIfInBounds_toArray, List.set_cons_zero, List.set_cons_succ]
      refine wpAnyH_take (i := 7) (oi := ⟨some 23, _, _, _, _, _⟩) (v := ?_) rfl (by kernel_rfl) (by kernel_rfl) (by kernel_rfl) (fun _ _ _ h => h) (Or.inl ⟨by kernel_rfl, ?_⟩) hHeld ?_
      rotate_left
      focus (intro W hS; have c0_0 := (hS.1).at_ (j := 0) rfl; have c0_1 := (hS.1).at_ (j := 1) rfl; have c0_2 := (hS.1).at_ (j := 2) rfl; have c0_3 := (hS.1).at_ (j := 3) rfl; have c0_4 := (hS.1).at_ (j := 4) rfl; have c0_5 := (hS.1).at_ (j := 5) rfl; have c0_6 := (hS.1).at_ (j := 6) rfl; have c0_7 := (hS.1).at_ (j := 7) rfl; have c1_0 := (hS.2.1).at_ (j := 0) rfl; have c1_1 := (hS.2.1).at_ (j := 1) rfl; have c0' := cell_nw hS.2.2 c0; clear hS; first | (go_simp; done) | (go_simp; with_reducible rfl))
      try simp only [Act.put, List.setIfInBounds_toArray, List.set_cons_zero, List.set_cons_succ]
      refine wpAnyH_ready (rs := [8]) (by kernel_rfl) (by simp) ?_
      refine AllReadyH.cons (o := ⟨some 24, _, _, _, _, _⟩) rfl (fun K hK => ?_) AllReadyH.nil
      go_simp
      refine Calls.mono (CQ2.out _ hHeld.2.2) ?_
      rintro e x1 ⟨G1, g1, rfl, hb1⟩
      refine hK.out _ _ ⟨hHeld.1.new hb1, hHeld.2.1.new hb1, below_trans hHeld.2.2 hb1 (Nat.le_refl _)⟩ (fun hHeld' => ?_)
      clear hK K hHeld hb1
      have hHeld := hHeld'
      clear hHeld'
      try simp only [Act.put, List.setIfInBounds_toArray, List.set_cons_zero, List.set_cons_succ]
      refine wpAnyH_take (i := 9) (oi := ⟨some 25, _, _, _, _, _⟩) (v := ?_) rfl (by kernel_rfl) (by kernel_rfl) (by kernel_rfl) (fun _ _ _ h => h) (Or.inl ⟨by kernel_rfl, ?_⟩) hHeld ?_
      rotate_left
      focus (intro W hS; have c0_0 := (hS.1).at_ (j := 0) rfl; have c0_1 := (hS.1).at_ (j := 1) rfl; have c0_2 := (hS.1).at_ (j := 2) rfl; have c0_3 := (hS.1).at_ (j := 3) rfl; have c0_4 := (hS.1).at_ (j := 4) rfl; have c0_5 := (hS.1).at_ (j := 5) rfl; have c0_6 := (hS.1).at_ (j := 6) rfl; have c0_7 := (hS.1).at_ (j := 7) rfl; have c1_0 := (hS.2.1).at_ (j := 0) rfl; have c1_1 := (hS.2.1).at_ (j := 1) rfl; have c0' := cell_nw hS.2.2 c0; clear hS; first | (go_simp; done) | (go_simp; with_reducible rfl))
      try simp only [Act.put, List.setIfInBounds_toArray, List.set_cons_zero, List.set_cons_succ]
      refine wpAnyH_take (i := 10) (oi := ⟨some 8, _, _, _, _, _⟩) (v := ?_) rfl (by kernel_rfl) (by kernel_rfl) (by kernel_rfl) (fun _ _ _ h => h) (Or.inl ⟨by kernel_rfl, ?_⟩) hHeld ?_
      rotate_left
      focus (intro W hS; have c0_0 := (hS.1).at_ (j := 0) rfl; have c0_1 := (hS.1).at_ (j := 1) rfl; have c0_2 := (hS.1).at_ (j := 2) rfl; have c0_3 := (hS.1).at_ (j := 3) rfl; have c0_4 := (hS.1).at_ (j := 4) rfl; have c0_5 := (hS.1).at_ (j := 5) rfl; have c0_6 := (hS.1).at_ (j := 6) rfl; have c0_7 := (hS.1).at_ (j := 7) rfl; have c1_0 := (hS.2.1).at_ (j := 0) rfl; have c1_1 := (hS.2.1).at_ (j := 1) rfl; have c0' := cell_nw hS.2.2 c0; clear hS; first | (go_simp; done) | (go_simp; with_reducible rfl))
      try simp only [Act.put, List.setIfInBounds_toArray, List.set_cons_zero, List.set_cons_succ]
      refine wpAnyH_done (by kernel_rfl) ?_ _
      skip
      have KA2 := Lib.hid hHeld.1
      have KS2 := Lib.hid hHeld.2.1
      have HBl := Lib.hid hHeld.2.2
      have CC := Lib.hid (cell_nw hHeld.2.2 c0)
      clear hHeld c0
      have KA3 := Lib.hid (show BoxAt x1 w.heap.size 42 #[.int .i64 x.p0, .slice x.A1 x.n1 x.c1, .slice x.A2 x.n2 x.c2, .slice x.A3 x.n3 x.c3, .slice x.A4 x.n4 x.c4, .slice x.A5 x.n5 x.c5, .slice x.A6 x.n6 x.c6, .int .i64 x.p7] by rw [hA.out]; exact KA2.out)
      have HB3 := Lib.hid (below_trans HB.out HBl.out (Nat.le_refl _))
      have k2 := KA2.out.at_ (j := 2) rfl
      have cz := CC.out
      rcases HI.out with ⟨hn0, rfl, rfl⟩ | ⟨hs0, rfl⟩
      · have HN := Lib.hid (show wBest f (L.take (k + 1)) = some p.p0 by rw [HE.out, hn0]; rfl)
        clear hn0 HI HE
        go_wp2_with fail
        go_roundg (x.n2 - (k + 1))
        case measure => omega
        case rel => exact ⟨k + 1, p.p0, (f p.p0 : Int), by omega, by omega, by go_num, rfl, rfl, by omega, by omega, Lib.hid (.inr ⟨HN.out, rfl⟩), KA3, KS2, HB3⟩
      · have HN := Lib.hid (show wBest f (L.take (k + 1)) = if f r < f p.p0 then some p.p0 else some r by rw [HE.out, hs0]; rfl)
        clear hs0 HI HE
        by_cases hc : f r < f p.p0
        · have HN2 := Lib.hid (show wBest f (L.take (k + 1)) = some p.p0 by rw [HN.out, if_pos hc])
          have hc2 : (f r : Int) < (f p.p0 : Int) := by omega
          clear HN hc
          go_wp2_with fail
          go_roundg (x.n2 - (k + 1))
          case measure => omega
          case rel => exact ⟨k + 1, p.p0, (f p.p0 : Int), by omega, by omega, by go_num, rfl, rfl, by omega, by omega, Lib.hid (.inr ⟨HN2.out, rfl⟩), KA3, KS2, HB3⟩
        · have HN2 := Lib.hid (show wBest f (L.take (k + 1)) = some r by rw [HN.out, if_neg hc])
          have hc2 : ¬ (f r : Int) < (f p.p0 : Int) := by omega
          clear HN hc
          go_wp2_with fail
          go_roundg (x.n2 - (k + 1))
          case measure => omega
          case rel => exact ⟨k + 1, r, (f r : Int), by omega, by omega, by go_num, rfl, rfl, by omega, by omega, Lib.hid (.inr ⟨HN2.out, rfl⟩), KA3, KS2, HB3⟩
    · obtain rfl : k = x.n2 := by omega
      have HI2 := Lib.hid (show (wBest f L).getD 0 = r by
        have h := HI.out
        rw [List.take_of_length_le (by rw [HLn.out]; omega)] at h
        rcases h with ⟨h1, h2, _⟩ | ⟨h1, _⟩
        · rw [h1, h2]; rfl
        · rw [h1]; rfl)
      clear HI
      go_wp2_with fail
      go_ret
      exact ⟨by rw [HI2.out]; rfl, HB.out⟩

end Go.Proofs.YtfhoemgpilpapaaGreat
