/- IsRuled of the model. No condition of its own. -/
import Derived.Test.YtfhoemgpilpapaaRld
import Derived.Deep.LoopGhost
import Derived.Deep.RegionHeld3
namespace Go.Proofs.Ytfhoemgpilpapaa
open Go Go.ChangeShapes Go.WideShapes Go.ChangeAt Go.RowKit Go.Lib
set_option linter.unusedVariables false
set_option linter.unusedSimpArgs false
set_option maxRecDepth 100000
set_option maxHeartbeats 4000000
theorem rld_any {r : TRule} {l : List TRule} {q : Nat} {y : TRule} (h : l[q]? = some y) : (l.take (q + 1)).any (fun y => decide (r = y)) = ((l.take q).any (fun y => decide (r = y)) || decide (y = r)) := by
  rw [List.take_add_one, h, Option.toList_some, List.any_append]
  have e : decide (r = y) = decide (y = r) := by rw [Bool.eq_iff_iff]; simp [eq_comm]
  simp [e]
set_option maxHeartbeats 16000000 in
theorem spec_IsRuled (x : DBrowser) (m : MBrowser) (lo hi : Nat) (w : World) (hd : x.dat = m) (hz : m.sz ≤ 1048576) (hok : m.ok) (hr : x.rd w lo hi) (hc : x.caps) :
    Calls Try.prog 28 #[.agg #[.int .i64 x.p0, .slice x.A1 x.n1 x.c1, .slice x.A2 x.n2 x.c2, .slice x.A3 x.n3 x.c3, .slice x.A4 x.n4 x.c4, .slice x.A5 x.n5 x.c5, .slice x.A6 x.n6 x.c6, .int .i64 x.p7]] w (Says (.bool (mIsRuled m)) w) := by
  have CP := Lib.hid (fun a W h => spec_PackOf x m lo hi a W hd hz hok h)
  subst hd
  have hm : mIsRuled x.dat = x.l5.all (mRuledOne x.dat) := rfl
  rw [hm]
  have HL5 := Lib.hid hr.len.2.2.2.2.1
  have HL2 := Lib.hid hr.2.1.len
  have HR := Lib.hid hr
  have hn5 : x.n5 ≤ 1048576 := by rw [hr.sz] at hz; omega
  have HPS := Lib.hid (fun (k : Nat) (p : DPackage) (hkp : x.l2[k]? = some p) => show p.l5.length ≤ 1048576 by
    have h1 := MPackage.szs_mem (x.l2.map DPackage.dat) k p.dat (by rw [List.getElem?_map, hkp]; rfl)
    rw [hr.sz] at hz
    simp only [MPackage.sz, DPackage.dat] at h1
    omega)
  have HPC := Lib.hid (mPackOf_cases x)
  clear hz hok hc hm hr
  generalize hQ : mRuledOne x.dat = Q
  have HQ := Lib.hid (show ∀ r, Q r = (mPackFor x.dat r.f0).l5.any fun y => decide (r = y) by rw [← hQ]; intro r; rfl)
  clear hQ
  have KB0 := Lib.hid (box_new w 40 #[.int .i64 x.p0, .slice x.A1 x.n1 x.c1, .slice x.A2 x.n2 x.c2, .slice x.A3 x.n3 x.c3, .slice x.A4 x.n4 x.c4, .slice x.A5 x.n5 x.c5, .slice x.A6 x.n6 x.c6, .int .i64 x.p7])
  go_enter Try.func28, Try.ntmps28
  go_wp2_with fail
  go_loopg [3] x.n5 (fun gg i wr => ∃ k : Nat, k ≤ x.n5 ∧ x.n5 - k ≤ gg ∧ i = .int .i64 k ∧ Hid ((x.l5.take k).all Q = true) ∧ Hid (BoxAt wr w.heap.size 40 #[.int .i64 x.p0, .slice x.A1 x.n1 x.c1, .slice x.A2 x.n2 x.c2, .slice x.A3 x.n3 x.c3, .slice x.A4 x.n4 x.c4, .slice x.A5 x.n5 x.c5, .slice x.A6 x.n6 x.c6, .int .i64 x.p7]) ∧ Hid (Below w.heap.size w wr))
  case atStart => exact ⟨0, Nat.zero_le _, by omega, rfl, Lib.hid (by simp), KB0, Lib.hid ((Below.refl _ _).alloc (Nat.le_refl _) _)⟩
  case round =>
    obtain ⟨k, hk, hg, rfl, HF, KB, HB⟩ := hrel
    have k0 : wr.cell? ⟨w.heap.size, 0, none⟩ = some (.int .i64 x.p0) := KB.out.at_ rfl
    have k1 : wr.cell? ⟨w.heap.size, 1, none⟩ = some (.slice x.A1 x.n1 x.c1) := KB.out.at_ rfl
    have k2 : wr.cell? ⟨w.heap.size, 2, none⟩ = some (.slice x.A2 x.n2 x.c2) := KB.out.at_ rfl
    have k3 : wr.cell? ⟨w.heap.size, 3, none⟩ = some (.slice x.A3 x.n3 x.c3) := KB.out.at_ rfl
    have k4 : wr.cell? ⟨w.heap.size, 4, none⟩ = some (.slice x.A4 x.n4 x.c4) := KB.out.at_ rfl
    have k5 : wr.cell? ⟨w.heap.size, 5, none⟩ = some (.slice x.A5 x.n5 x.c5) := KB.out.at_ rfl
    have k6 : wr.cell? ⟨w.heap.size, 6, none⟩ = some (.slice x.A6 x.n6 x.c6) := KB.out.at_ rfl
    have k7 : wr.cell? ⟨w.heap.size, 7, none⟩ = some (.int .i64 x.p7) := KB.out.at_ rfl
    by_cases hlt : k < x.n5
    · obtain ⟨b, off, r, hA, _, _, hz, hcc⟩ := rd_elem TRule.len (HR.out.new HB.out).2.2.2.2.1.2 HL5.out hlt
      rw [hA] at k5
      have c0 : wr.cell? ⟨b, off + k * 8, none⟩ = some (.int .i64 r.f0) := hcc 0 _ rfl
      have c1 : wr.cell? ⟨b, off + k * 8 + 1, none⟩ = some (.int .i64 r.f1) := hcc 1 _ rfl
      have c2 : wr.cell? ⟨b, off + k * 8 + 2, none⟩ = some (.int .i64 r.f2) := hcc 2 _ rfl
      have c3 : wr.cell? ⟨b, off + k * 8 + 3, none⟩ = some (.int .i64 r.f3) := hcc 3 _ rfl
      have c4 : wr.cell? ⟨b, off + k * 8 + 4, none⟩ = some (.int .i64 r.f4) := hcc 4 _ rfl
      have c5 : wr.cell? ⟨b, off + k * 8 + 5, none⟩ = some (.int .i64 r.f5) := hcc 5 _ rfl
      have c6 : wr.cell? ⟨b, off + k * 8 + 6, none⟩ = some (.int .i64 r.f6) := hcc 6 _ rfl
      have c7 : wr.cell? ⟨b, off + k * 8 + 7, none⟩ = some (.int .i64 r.f7) := hcc 7 _ rfl
      have HZ := Lib.hid hz
      have CQ := (fun W (hb : Below wr.heap.size wr W) => CP.out r.f0 W ((HR.out.new HB.out).new hb))
      rw [hA] at CQ
      have KA2 := Lib.hid (show BoxAt wr.drew w.heap.size 40 #[.int .i64 x.p0, .slice x.A1 x.n1 x.c1, .slice x.A2 x.n2 x.c2, .slice x.A3 x.n3 x.c3, .slice x.A4 x.n4 x.c4, .slice (some ⟨b, off, none⟩) x.n5 x.c5, .slice x.A6 x.n6 x.c6, .int .i64 x.p7] by have h := KB.out.drw; rwa [hA] at h)
      have HQr := HQ.out r
      have hcs := HPC.out r.f0
      generalize mPackOf x.dat r.f0 = idx at CQ hcs
      generalize mPackFor x.dat r.f0 = mp at hcs HQr
      replace CQ := Lib.hid CQ
      replace HQr := Lib.hid HQr
      replace hcs := Lib.hid hcs
      replace hA := Lib.hid hA
      clear hz hcc
      go_wp2_with fail
      clear k0 k1 k2 k3 k4 k5 k6 k7
      refine wp_region_held_drew (S := fun w' => BoxAt w' w.heap.size 40 #[.int .i64 x.p0, .slice x.A1 x.n1 x.c1, .slice x.A2 x.n2 x.c2, .slice x.A3 x.n3 x.c3, .slice x.A4 x.n4 x.c4, .slice (some ⟨b, off, none⟩) x.n5 x.c5, .slice x.A6 x.n6 x.c6, .int .i64 x.p7] ∧ Below wr.heap.size wr w') (by kernel_rfl) ?_ (fun hHeld => ?_)
      · exact ⟨KA2.out, (Below.refl _ _).drew⟩
      refine wpAnyH_take (i := 0) (oi := ⟨some 14, _, _, _, _, _⟩) (v := ?_) rfl (by kernel_rfl) (by kernel_rfl) (by kernel_rfl) (fun _ _ _ h => h) (Or.inl ⟨by kernel_rfl, ?_⟩) hHeld ?_
      rotate_left
      focus (intro W hS; have c0_0 := (hS.1).at_ (j := 0) rfl; have c0_1 := (hS.1).at_ (j := 1) rfl; have c0_2 := (hS.1).at_ (j := 2) rfl; have c0_3 := (hS.1).at_ (j := 3) rfl; have c0_4 := (hS.1).at_ (j := 4) rfl; have c0_5 := (hS.1).at_ (j := 5) rfl; have c0_6 := (hS.1).at_ (j := 6) rfl; have c0_7 := (hS.1).at_ (j := 7) rfl; have c0' := cell_nw hS.2 c0; clear hS; first | (go_simp; done) | (go_simp; with_reducible rfl))
      try simp only [Act.put, List.setIfInBounds_toArray, List.set_cons_zero, List.set_cons_succ]
      refine wpAnyH_take (i := 1) (oi := ⟨some 15, _, _, _, _, _⟩) (v := ?_) rfl (by kernel_rfl) (by kernel_rfl) (by kernel_rfl) (fun _ _ _ h => h) (Or.inl ⟨by kernel_rfl, ?_⟩) hHeld ?_
      rotate_left
      focus (intro W hS; have c0_0 := (hS.1).at_ (j := 0) rfl; have c0_1 := (hS.1).at_ (j := 1) rfl; have c0_2 := (hS.1).at_ (j := 2) rfl; have c0_3 := (hS.1).at_ (j := 3) rfl; have c0_4 := (hS.1).at_ (j := 4) rfl; have c0_5 := (hS.1).at_ (j := 5) rfl; have c0_6 := (hS.1).at_ (j := 6) rfl; have c0_7 := (hS.1).at_ (j := 7) rfl; have c0' := cell_nw hS.2 c0; clear hS; first | (go_simp; done) | (go_simp; with_reducible rfl))
      try simp only [Act.put, List.setIfInBounds_toArray, List.set_cons_zero, List.set_cons_succ]
      refine wpAnyH_take (i := 2) (oi := ⟨some 16, _, _, _, _, _⟩) (v := ?_) rfl (by kernel_rfl) (by kernel_rfl) (by kernel_rfl) (fun _ _ _ h => h) (Or.inl ⟨by kernel_rfl, ?_⟩) hHeld ?_
      rotate_left
      focus (intro W hS; have c0_0 := (hS.1).at_ (j := 0) rfl; have c0_1 := (hS.1).at_ (j := 1) rfl; have c0_2 := (hS.1).at_ (j := 2) rfl; have c0_3 := (hS.1).at_ (j := 3) rfl; have c0_4 := (hS.1).at_ (j := 4) rfl; have c0_5 := (hS.1).at_ (j := 5) rfl; have c0_6 := (hS.1).at_ (j := 6) rfl; have c0_7 := (hS.1).at_ (j := 7) rfl; have c0' := cell_nw hS.2 c0; clear hS; first | (go_simp; done) | (go_simp; with_reducible rfl))
      try simp only [Act.put, List.setIfInBounds_toArray, List.set_cons_zero, List.set_cons_succ]
      refine wpAnyH_take (i := 3) (oi := ⟨some 17, _, _, _, _, _⟩) (v := ?_) rfl (by kernel_rfl) (by kernel_rfl) (by kernel_rfl) (fun _ _ _ h => h) (Or.inl ⟨by kernel_rfl, ?_⟩) hHeld ?_
      rotate_left
      focus (intro W hS; have c0_0 := (hS.1).at_ (j := 0) rfl; have c0_1 := (hS.1).at_ (j := 1) rfl; have c0_2 := (hS.1).at_ (j := 2) rfl; have c0_3 := (hS.1).at_ (j := 3) rfl; have c0_4 := (hS.1).at_ (j := 4) rfl; have c0_5 := (hS.1).at_ (j := 5) rfl; have c0_6 := (hS.1).at_ (j := 6) rfl; have c0_7 := (hS.1).at_ (j := 7) rfl; have c0' := cell_nw hS.2 c0; clear hS; first | (go_simp; done) | (go_simp; with_reducible rfl))
      try simp only [Act.put, List.setIfInBounds_toArray, List.set_cons_zero, List.set_cons_succ]
      refine wpAnyH_take (i := 4) (oi := ⟨some 18, _, _, _, _, _⟩) (v := ?_) rfl (by kernel_rfl) (by kernel_rfl) (by kernel_rfl) (fun _ _ _ h => h) (Or.inl ⟨by kernel_rfl, ?_⟩) hHeld ?_
      rotate_left
      focus (intro W hS; have c0_0 := (hS.1).at_ (j := 0) rfl; have c0_1 := (hS.1).at_ (j := 1) rfl; have c0_2 := (hS.1).at_ (j := 2) rfl; have c0_3 := (hS.1).at_ (j := 3) rfl; have c0_4 := (hS.1).at_ (j := 4) rfl; have c0_5 := (hS.1).at_ (j := 5) rfl; have c0_6 := (hS.1).at_ (j := 6) rfl; have c0_7 := (hS.1).at_ (j := 7) rfl; have c0' := cell_nw hS.2 c0; clear hS; first | (go_simp; done) | (go_simp; with_reducible rfl))
      try simp only [Act.put, List.setIfInBounds_toArray, List.set_cons_zero, List.set_cons_succ]
      refine wpAnyH_take (i := 5) (oi := ⟨some 19, _, _, _, _, _⟩) (v := ?_) rfl (by kernel_rfl) (by kernel_rfl) (by kernel_rfl) (fun _ _ _ h => h) (Or.inl ⟨by kernel_rfl, ?_⟩) hHeld ?_
      rotate_left
      focus (intro W hS; have c0_0 := (hS.1).at_ (j := 0) rfl; have c0_1 := (hS.1).at_ (j := 1) rfl; have c0_2 := (hS.1).at_ (j := 2) rfl; have c0_3 := (hS.1).at_ (j := 3) rfl; have c0_4 := (hS.1).at_ (j := 4) rfl; have c0_5 := (hS.1).at_ (j := 5) rfl; have c0_6 := (hS.1).at_ (j := 6) rfl; have c0_7 := (hS.1).at_ (j := 7) rfl; have c0' := cell_nw hS.2 c0; clear hS; first | (go_simp; done) | (go_simp; with_reducible rfl))
      try simp only [Act.put, List.setIfInBounds_toArray, List.set_cons_zero, List.set_cons_succ]
      refine wpAnyH_take (i := 6) (oi := ⟨some 20, _, _, _, _, _⟩) (v := ?_) rfl (by kernel_rfl) (by kernel_rfl) (by kernel_rfl) (fun _ _ _ h => h) (Or.inl ⟨by kernel_rfl, ?_⟩) hHeld ?_
      rotate_left
      focus (intro W hS; have c0_0 := (hS.1).at_ (j := 0) rfl; have c0_1 := (hS.1).at_ (j := 1) rfl; have c0_2 := (hS.1).at_ (j := 2) rfl; have c0_3 := (hS.1).at_ (j := 3) rfl; have c0_4 := (hS.1).at_ (j := 4) rfl; have c0_5 := (hS.1).at_ (j := 5) rfl; have c0_6 := (hS.1).at_ (j := 6) rfl; have c0_7 := (hS.1).at_ (j := 7) rfl; have c0' := cell_nw hS.2 c0; clear hS; first | (go_simp; done) | (go_simp; with_reducible rfl))
      try simp only [Act.put, List.setIfInBounds_toArray, List.set_cons_zero, List.set_cons_succ]
      refine wpAnyH_ready (rs := [7]) (by kernel_rfl) (by simp) ?_
      refine AllReadyH.cons (o := ⟨some 21, _, _, _, _, _⟩) rfl (fun K hK => ?_) AllReadyH.nil
      go_simp
      refine Calls.mono (CQ.out _ hHeld.2) ?_
      rintro e x1 ⟨rfl, hb1⟩
      refine hK.out _ _ ⟨hHeld.1.new hb1, below_trans hHeld.2 hb1 (Nat.le_refl _)⟩ (fun hHeld' => ?_)
      clear hK K hHeld hb1
      have hHeld := hHeld'
      clear hHeld'
      try simp only [Act.put, List.setIfInBounds_toArray, List.set_cons_zero, List.set_cons_succ]
      refine wpAnyH_take (i := 8) (oi := ⟨some 4, _, _, _, _, _⟩) (v := ?_) rfl (by kernel_rfl) (by kernel_rfl) (by kernel_rfl) (fun _ _ _ h => h) (Or.inl ⟨by kernel_rfl, ?_⟩) hHeld ?_
      rotate_left
      focus (intro W hS; have c0_0 := (hS.1).at_ (j := 0) rfl; have c0_1 := (hS.1).at_ (j := 1) rfl; have c0_2 := (hS.1).at_ (j := 2) rfl; have c0_3 := (hS.1).at_ (j := 3) rfl; have c0_4 := (hS.1).at_ (j := 4) rfl; have c0_5 := (hS.1).at_ (j := 5) rfl; have c0_6 := (hS.1).at_ (j := 6) rfl; have c0_7 := (hS.1).at_ (j := 7) rfl; have c0' := cell_nw hS.2 c0; clear hS; first | (go_simp; done) | (go_simp; with_reducible rfl))
      try simp only [Act.put, List.setIfInBounds_toArray, List.set_cons_zero, List.set_cons_succ]
      refine wpAnyH_done (by kernel_rfl) ?_ _
      skip
      have KQ5 := Lib.hid hHeld.1
      have HBl := hHeld.2
      have HBx := Lib.hid (below_trans HB.out HBl (Nat.le_refl _))
      have KA3 := Lib.hid (show BoxAt x1 w.heap.size 40 #[.int .i64 x.p0, .slice x.A1 x.n1 x.c1, .slice x.A2 x.n2 x.c2, .slice x.A3 x.n3 x.c3, .slice x.A4 x.n4 x.c4, .slice x.A5 x.n5 x.c5, .slice x.A6 x.n6 x.c6, .int .i64 x.p7] by rw [hA.out]; exact KQ5.out)
      have r0 := Lib.hid (cell_nw HBl c0)
      have r1 := Lib.hid (cell_nw HBl c1)
      have r2 := Lib.hid (cell_nw HBl c2)
      have r3 := Lib.hid (cell_nw HBl c3)
      have r4 := Lib.hid (cell_nw HBl c4)
      have r5 := Lib.hid (cell_nw HBl c5)
      have r6 := Lib.hid (cell_nw HBl c6)
      have r7 := Lib.hid (cell_nw HBl c7)
      clear hHeld HBl c0 c1 c2 c3 c4 c5 c6 c7 KA2
      rcases hcs.out with ⟨hneg, hmp⟩ | ⟨kk, p, rfl, hkk, hkp, hmp⟩
      · have HE := Lib.hid (show x.l5.all Q = false by
          rw [List.all_eq_false]
          exact ⟨r, List.mem_of_getElem? HZ.out, by rw [HQr.out, hmp]; simp [mP0]⟩)
        have hge : decide (idx ≥ 0) = false := by simp; omega
        clear hmp hcs
        go_wp2_with fail
        go_loopw [5, 6] (fun so j wj => so = .bool false ∧ j = .int .i64 0 ∧ wj = x1) (fun _ _ _ => 0)
        case atStart => exact ⟨rfl, rfl, rfl⟩
        case round =>
          obtain ⟨rfl, rfl, rfl⟩ := hrel
          go_wp2_with fail
          go_ret
          exact ⟨by rw [HE.out]; rfl, HBx.out⟩
      · have hkn : kk < x.n2 := by rw [← HL2.out]; exact hkk
        obtain ⟨b2, off2, p2, hA2, _, _, hkp2, hcc2⟩ := rd_elem DPackage.len (HR.out.new HBx.out).2.1.2.1 HL2.out hkn
        obtain rfl : p = p2 := Option.some.inj (hkp.symm.trans hkp2)
        have HX := Lib.hid ((HR.out.new HBx.out).2.1.at_ hkp)
        have hp5 : p.l5.length = p.n5 := (DPackage.rd_lens HX.out).2.2.1
        have hpn : p.n5 ≤ 1048576 := by have := HPS.out kk p hkp; omega
        have CPk := Lib.hid (show x1.cell? ⟨b2, off2 + kk * 8 + 5, none⟩ = some (.slice p.A5 p.n5 p.c5) from hcc2 5 _ rfl)
        have KQ0 := Lib.hid (show BoxAt x1 w.heap.size 40 #[.int .i64 x.p0, .slice x.A1 x.n1 x.c1, .slice (some ⟨b2, off2, none⟩) x.n2 x.c2, .slice x.A3 x.n3 x.c3, .slice x.A4 x.n4 x.c4, .slice (some ⟨b, off, none⟩) x.n5 x.c5, .slice x.A6 x.n6 x.c6, .int .i64 x.p7] by have h := KQ5.out; rwa [hA2] at h)
        have HQ2 := Lib.hid (show Q r = p.l5.any fun y => decide (r = y) by rw [HQr.out, hmp]; rfl)
        have HP5 := Lib.hid hp5
        replace hA2 := Lib.hid hA2
        clear hkp hkp2 hcc2 hmp hcs hp5 hkk
        have hge : (kk : Int) ≥ 0 := by omega
        go_wp2_with fail
        go_loopg [5, 6] p.n5 (fun g2 so j wr => ∃ q : Nat, q ≤ p.n5 ∧ p.n5 - q ≤ g2 ∧ j = .int .i64 q ∧ so = .bool ((p.l5.take q).any (fun y => decide (r = y))) ∧ Hid (BoxAt wr w.heap.size 40 #[.int .i64 x.p0, .slice x.A1 x.n1 x.c1, .slice (some ⟨b2, off2, none⟩) x.n2 x.c2, .slice x.A3 x.n3 x.c3, .slice x.A4 x.n4 x.c4, .slice (some ⟨b, off, none⟩) x.n5 x.c5, .slice x.A6 x.n6 x.c6, .int .i64 x.p7]) ∧ Hid (Below x1.heap.size x1 wr))
        case atStart => exact ⟨0, Nat.zero_le _, by omega, rfl, rfl, KQ0, Lib.hid (Below.refl _ _)⟩
        case round =>
          obtain ⟨q, hq, hgq, rfl, rfl, KQ, HBq⟩ := hrel
          by_cases hlq : q < p.n5
          · obtain ⟨b3, off3, y, hA3, _, _, hzq, hcq⟩ := rd_elem TRule.len (HX.out.2.2.1.2.new HBq.out) HP5.out hlq
            have k0 : wr.cell? ⟨w.heap.size, 0, none⟩ = some (.int .i64 x.p0) := KQ.out.at_ rfl
            have k1 : wr.cell? ⟨w.heap.size, 1, none⟩ = some (.slice x.A1 x.n1 x.c1) := KQ.out.at_ rfl
            have k2 : wr.cell? ⟨w.heap.size, 2, none⟩ = some (.slice (some ⟨b2, off2, none⟩) x.n2 x.c2) := KQ.out.at_ rfl
            have k3 : wr.cell? ⟨w.heap.size, 3, none⟩ = some (.slice x.A3 x.n3 x.c3) := KQ.out.at_ rfl
            have k4 : wr.cell? ⟨w.heap.size, 4, none⟩ = some (.slice x.A4 x.n4 x.c4) := KQ.out.at_ rfl
            have k5 : wr.cell? ⟨w.heap.size, 5, none⟩ = some (.slice (some ⟨b, off, none⟩) x.n5 x.c5) := KQ.out.at_ rfl
            have k6 : wr.cell? ⟨w.heap.size, 6, none⟩ = some (.slice x.A6 x.n6 x.c6) := KQ.out.at_ rfl
            have k7 : wr.cell? ⟨w.heap.size, 7, none⟩ = some (.int .i64 x.p7) := KQ.out.at_ rfl
            have cp := cell_nw HBq.out CPk.out
            rw [hA3] at cp
            have d0 : wr.cell? ⟨b3, off3 + q * 8, none⟩ = some (.int .i64 y.f0) := hcq 0 _ rfl
            have d1 : wr.cell? ⟨b3, off3 + q * 8 + 1, none⟩ = some (.int .i64 y.f1) := hcq 1 _ rfl
            have d2 : wr.cell? ⟨b3, off3 + q * 8 + 2, none⟩ = some (.int .i64 y.f2) := hcq 2 _ rfl
            have d3 : wr.cell? ⟨b3, off3 + q * 8 + 3, none⟩ = some (.int .i64 y.f3) := hcq 3 _ rfl
            have d4 : wr.cell? ⟨b3, off3 + q * 8 + 4, none⟩ = some (.int .i64 y.f4) := hcq 4 _ rfl
            have d5 : wr.cell? ⟨b3, off3 + q * 8 + 5, none⟩ = some (.int .i64 y.f5) := hcq 5 _ rfl
            have d6 : wr.cell? ⟨b3, off3 + q * 8 + 6, none⟩ = some (.int .i64 y.f6) := hcq 6 _ rfl
            have d7 : wr.cell? ⟨b3, off3 + q * 8 + 7, none⟩ = some (.int .i64 y.f7) := hcq 7 _ rfl
            have s0 := cell_nw HBq.out r0.out
            have s1 := cell_nw HBq.out r1.out
            have s2 := cell_nw HBq.out r2.out
            have s3 := cell_nw HBq.out r3.out
            have s4 := cell_nw HBq.out r4.out
            have s5 := cell_nw HBq.out r5.out
            have s6 := cell_nw HBq.out r6.out
            have s7 := cell_nw HBq.out r7.out
            have HS := Lib.hid (rld_any (r := r) hzq)
            clear hzq hcq hA3
            generalize (p.l5.take q).any (fun y => decide (r = y)) = so at HS ⊢
            cases so with
            | true =>
              go_wp2_with fail
              go_quiet (fail)
              go_wp2_with fail
              go_roundg (p.n5 - (q + 1))
              case measure => omega
              case rel => exact ⟨q + 1, by omega, by omega, by go_num, by rw [HS.out]; rfl, by first | exact KQ | exact Lib.hid KQ.out, by first | exact HBq | exact Lib.hid (below_dN HBq.out _)⟩
            | false =>
              cases hyr : decide (y = r) with
              | true =>
                have g1 : ∀ w, _ := fun w => (eql_Rule y r w).trans (by rw [hyr])
                rw [hyr] at HS
                clear hyr
                go_wp2_with fail
                go_quiet (fail)
                go_wp2_with fail
                go_roundg (p.n5 - (q + 1))
                case measure => omega
                case rel => exact ⟨q + 1, by omega, by omega, by go_num, by rw [HS.out]; rfl, by first | exact KQ | exact Lib.hid KQ.out, by first | exact HBq | exact Lib.hid (below_dN HBq.out _)⟩
              | false =>
                have g1 : ∀ w, _ := fun w => (eql_Rule y r w).trans (by rw [hyr])
                rw [hyr] at HS
                clear hyr
                go_wp2_with fail
                go_quiet (fail)
                go_wp2_with fail
                go_roundg (p.n5 - (q + 1))
                case measure => omega
                case rel => exact ⟨q + 1, by omega, by omega, by go_num, by rw [HS.out]; rfl, by first | exact KQ | exact Lib.hid KQ.out, by first | exact HBq | exact Lib.hid (below_dN HBq.out _)⟩
          · obtain rfl : q = p.n5 := by omega
            have HB9 := Lib.hid (below_trans HBx.out HBq.out (Nat.le_refl _))
            have k0 : wr.cell? ⟨w.heap.size, 0, none⟩ = some (.int .i64 x.p0) := KQ.out.at_ rfl
            have k1 : wr.cell? ⟨w.heap.size, 1, none⟩ = some (.slice x.A1 x.n1 x.c1) := KQ.out.at_ rfl
            have k2 : wr.cell? ⟨w.heap.size, 2, none⟩ = some (.slice (some ⟨b2, off2, none⟩) x.n2 x.c2) := KQ.out.at_ rfl
            have k3 : wr.cell? ⟨w.heap.size, 3, none⟩ = some (.slice x.A3 x.n3 x.c3) := KQ.out.at_ rfl
            have k4 : wr.cell? ⟨w.heap.size, 4, none⟩ = some (.slice x.A4 x.n4 x.c4) := KQ.out.at_ rfl
            have k5 : wr.cell? ⟨w.heap.size, 5, none⟩ = some (.slice (some ⟨b, off, none⟩) x.n5 x.c5) := KQ.out.at_ rfl
            have k6 : wr.cell? ⟨w.heap.size, 6, none⟩ = some (.slice x.A6 x.n6 x.c6) := KQ.out.at_ rfl
            have k7 : wr.cell? ⟨w.heap.size, 7, none⟩ = some (.int .i64 x.p7) := KQ.out.at_ rfl
            have cp := cell_nw HBq.out CPk.out
            have KB9 := Lib.hid (show BoxAt wr w.heap.size 40 #[.int .i64 x.p0, .slice x.A1 x.n1 x.c1, .slice x.A2 x.n2 x.c2, .slice x.A3 x.n3 x.c3, .slice x.A4 x.n4 x.c4, .slice x.A5 x.n5 x.c5, .slice x.A6 x.n6 x.c6, .int .i64 x.p7] by rw [hA.out, hA2.out]; exact KQ.out)
            have HS := Lib.hid (show (p.l5.take p.n5).any (fun y => decide (r = y)) = Q r by rw [HQ2.out, List.take_of_length_le (by rw [HP5.out]; omega)])
            rw [HS.out]
            cases hQr : Q r with
            | true =>
              have HF2 := Lib.hid (show (x.l5.take (k + 1)).all Q = true by rw [List.take_add_one, HZ.out, Option.toList_some, List.all_append, HF.out]; simp [hQr])
              clear hQr HS
              go_wp2_with fail
              go_roundg (x.n5 - (k + 1))
              case measure => omega
              case rel => exact ⟨k + 1, by omega, by omega, by go_num, HF2, by first | exact KB9 | exact Lib.hid KB9.out, by first | exact HB9 | exact Lib.hid (below_dN HB9.out _)⟩
            | false =>
              have HE := Lib.hid (show x.l5.all Q = false by
                rw [List.all_eq_false]
                exact ⟨r, List.mem_of_getElem? HZ.out, by rw [hQr]; decide⟩)
              clear hQr HS
              go_wp2_with fail
              go_ret
              exact ⟨by rw [HE.out]; rfl, by first | exact HB9.out | exact below_dN HB9.out _⟩
    · obtain rfl : k = x.n5 := by omega
      have HE := Lib.hid (show x.l5.all Q = true by have := HF.out; rwa [List.take_of_length_le (by rw [HL5.out]; omega)] at this)
      go_wp2_with fail
      go_ret
      exact ⟨by rw [HE.out]; rfl, by first | exact HB.out | exact below_dN HB.out _⟩

end Go.Proofs.Ytfhoemgpilpapaa
