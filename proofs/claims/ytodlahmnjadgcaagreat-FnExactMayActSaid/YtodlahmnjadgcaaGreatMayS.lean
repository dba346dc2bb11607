/- MayAct of the model. No condition of its own. -/
import Derived.Test.YtodlahmnjadgcaaGreatMayA
import Derived.Test.YtodlahmnjadgcaaGreatMayDo
import Derived.Deep.LoopGhost
import Derived.Deep.RegionHeld3
namespace Go.Proofs.YtodlahmnjadgcaaGreat
open Go Go.ChangeShapes Go.WideShapes Go.ChangeAt Go.RowKit Go.Lib
set_option linter.unusedVariables false
set_option linter.unusedSimpArgs false
set_option maxRecDepth 100000
set_option maxHeartbeats 4000000
set_option maxHeartbeats 16000000 in
theorem spec_MayAct (x : DBrowser) (m : MBrowser) (lo hi : Nat) (ext : Int) (a : Int) (kd : Int) (w : World) (hd : x.dat = m) (hz : m.sz ≤ 1048576) (hok : m.ok) (hr : x.rd w lo hi) (hc : x.caps) :
    Calls Tryz.prog 27 #[.agg #[.int .i64 x.p0, .slice x.A1 x.n1 x.c1, .slice x.A2 x.n2 x.c2, .slice x.A3 x.n3 x.c3, .slice x.A4 x.n4 x.c4, .slice x.A5 x.n5 x.c5, .slice x.A6 x.n6 x.c6, .int .i64 x.p7], .int .i64 ext, .int .i64 a, .int .i64 kd] w (Says (.bool (mMayA m ext a kd)) w) := by
  have CP := Lib.hid (fun W (hW : Below w.heap.size w W) => spec_PackOf x m lo hi ext W hd hz hok (hr.new hW))
  subst hd
  have hl : (x.n1 : Int) = (x.l1.length : Int) := by have := hr.1.len; omega
  have CH := Lib.hid (fun W => says_of_same (spec_in a 0 ((x.n1 : Int) - 1) W))
  have hn1' : x.n1 ≤ 1048576 := by rw [hr.sz] at hz; omega
  have HB0 := Lib.hid ((Below.refl w.heap.size w).alloc (Nat.le_refl _) (.cells #[.int .i64 x.p0, .slice x.A1 x.n1 x.c1, .slice x.A2 x.n2 x.c2, .slice x.A3 x.n3 x.c3, .slice x.A4 x.n4 x.c4, .slice x.A5 x.n5 x.c5, .slice x.A6 x.n6 x.c6, .int .i64 x.p7] 42))
  have e0 : mMayA x.dat ext a kd = (decide (0 ≤ mPackOf x.dat ext) && mMayA x.dat ext a kd) := by
    unfold mMayA
    cases mTabAt x.dat a with
    | none => simp
    | some t => simp only []; cases decide (0 ≤ mPackOf x.dat ext) <;> simp
  by_cases hp : mPackOf x.dat ext < 0
  · have e1 : mMayA x.dat ext a kd = false := by rw [e0, decide_eq_false (by omega)]; rfl
    rw [e1]
    generalize mPackOf x.dat ext = pk at CP hp
    clear e0 e1 hr hz hok hl CH hc
    go_enter Tryz.func27, Tryz.ntmps27
    go_wp2_with fail
    refine (CP.out _ HB0.out).mono ?_
    rintro e w1 ⟨rfl, hb1⟩
    have HB1 := Lib.hid (below_trans HB0.out hb1 (by simp))
    clear hb1
    go_wp2_with fail
    go_ret
    exact ⟨rfl, HB1.out⟩
  · cases hin : inR a 0 ((x.l1.length : Int) - 1) with
    | false =>
      rw [hl, hin] at CH
      have e1 : mMayA x.dat ext a kd = false := by unfold mMayA; rw [mTabAt_no hin]
      rw [e1]
      rw [← hl] at CH
      have KB := Lib.hid (box_new w 42 #[.int .i64 x.p0, .slice x.A1 x.n1 x.c1, .slice x.A2 x.n2 x.c2, .slice x.A3 x.n3 x.c3, .slice x.A4 x.n4 x.c4, .slice x.A5 x.n5 x.c5, .slice x.A6 x.n6 x.c6, .int .i64 x.p7])
      generalize mPackOf x.dat ext = pk at CP hp
      clear e0 e1 hin hr hz hok hl hc
      go_enter Tryz.func27, Tryz.ntmps27
      go_wp2_with fail
      refine (CP.out _ HB0.out).mono ?_
      rintro e w1 ⟨rfl, hb1⟩
      have HB1 := Lib.hid (below_trans HB0.out hb1 (by simp))
      have KB1 := Lib.hid (KB.out.new hb1)
      have k1 := KB1.out.at_ (j := 1) (u := .slice x.A1 x.n1 x.c1) rfl
      clear hb1
      go_wp2_with fail
      refine (CH.out _).mono ?_
      rintro e w2 ⟨rfl, hb2⟩
      have HB2 := Lib.hid (below_trans HB1.out hb2 (Nat.le_refl _))
      clear hb2
      go_wp2_with fail
      go_ret
      exact ⟨rfl, HB2.out⟩
    | true =>
      rw [hl, hin, ← hl] at CH
      obtain ⟨k, t, rfl, hk, hkt, hat⟩ := mTabAt_yes hin
      have e1 : mMayA x.dat ext (k : Int) kd = (decide (0 ≤ mPackOf x.dat ext) && (mAllowed x.l3 ext t.s0 kd x.p7 (mClicked t.p4 x.p7) && !mDenied x.l4 ext t.s0 kd)) := by unfold mMayA; rw [hat]; rfl
      rw [e1, decide_eq_true (show 0 ≤ mPackOf x.dat ext by omega), Bool.true_and]
      have hln := hr.1.len
      have hkn : k < x.n1 := by omega
      have hn1 : x.n1 ≤ 1048576 := by rw [hr.sz] at hz; omega
      have hn3 : x.n3 ≤ 1048576 := by rw [hr.sz] at hz; omega
      have hn4 : x.n4 ≤ 1048576 := by rw [hr.sz] at hz; omega
      have htz := MTab.szs_mem (x.l1.map DTab.dat) k t.dat (by rw [List.getElem?_map, hkt]; rfl)
      have htz2 : t.dat.sz ≤ 1048575 := by rw [hr.sz] at hz; omega
      have hto : t.dat.ok := hok.2.1 t.dat (List.mem_map.2 ⟨t, List.mem_of_getElem? hkt, rfl⟩)
      have HX := (hr.old).1.at_ hkt
      have hts := DTab.rd_sz HX
      have hls := DTab.rd_lens HX
      have CI := Lib.hid (fun W (hb : Below w.heap.size w W) => spec_IsClicked t.s0 t.l1 t.A1 t.n1 t.c1 0 w.heap.size t.l2 t.A2 t.n2 t.c2 0 w.heap.size t.l3 t.A3 t.n3 t.c3 0 w.heap.size t.p4 x.p7 W (by omega) (HX.1.2.new hb) (Lib.hid hto.2.1) (by omega) (HX.2.1.2.new hb) (Lib.hid hto.2.2.1) (by omega) (HX.2.2.2.new hb) (Lib.hid hto.2.2.2.1))
      have CM := Lib.hid (fun (W : World) (hb : Below w.heap.size w W) => spec_MayDo x.l3 x.A3 x.n3 x.c3 lo hi x.l4 x.A4 x.n4 x.c4 lo hi ext t.s0 kd x.p7 (mClicked t.p4 x.p7) W hn3 (hr.2.2.1.2.new hb) hc.1 (Lib.hid hok.2.2.2.1) hn4 (hr.2.2.2.1.2.new hb) hc.2.1 (Lib.hid hok.2.2.2.2.1))
      obtain ⟨b, off, t2, hA, hlo, hhi, hkt2, hcc⟩ := rd_elem DTab.len (hr.old).1.2.1 hln hkn
      obtain rfl : t = t2 := Option.some.inj (hkt.symm.trans hkt2)
      have HCC := Lib.hid (fun (W : World) (hb : Below w.heap.size w W) (j : Nat) (u : Value) (hu : t.cells[j]? = some u) => (World.cell?_of_block (a := ⟨b, off + k * 6 + j, none⟩) (hb.block b hhi)).trans (hcc j u hu))
      generalize (mAllowed x.l3 ext t.s0 kd x.p7 (mClicked t.p4 x.p7) && !mDenied x.l4 ext t.s0 kd) = b2 at CM ⊢
      generalize mClicked t.p4 x.p7 = b3 at CI CM
      have KB0 := Lib.hid (show BoxAt (w.alloc (.cells #[.int .i64 x.p0, .slice x.A1 x.n1 x.c1, .slice x.A2 x.n2 x.c2, .slice x.A3 x.n3 x.c3, .slice x.A4 x.n4 x.c4, .slice x.A5 x.n5 x.c5, .slice x.A6 x.n6 x.c6, .int .i64 x.p7] 42)) w.heap.size 42 #[.int .i64 x.p0, .slice (some ⟨b, off, none⟩) x.n1 x.c1, .slice x.A2 x.n2 x.c2, .slice x.A3 x.n3 x.c3, .slice x.A4 x.n4 x.c4, .slice x.A5 x.n5 x.c5, .slice x.A6 x.n6 x.c6, .int .i64 x.p7] by rw [← hA]; exact box_new w 42 #[.int .i64 x.p0, .slice x.A1 x.n1 x.c1, .slice x.A2 x.n2 x.c2, .slice x.A3 x.n3 x.c3, .slice x.A4 x.n4 x.c4, .slice x.A5 x.n5 x.c5, .slice x.A6 x.n6 x.c6, .int .i64 x.p7])
      rw [hA] at CP
      replace hA := Lib.hid hA

      have HR12 := Lib.hid (Eq.refl b2)
      rw [hA.out] at HB0 KB0 ⊢
      generalize mPackOf x.dat ext = pk at CP hp ⊢
      clear e0 hin hr hz hok hl e1 hat hkt hkt2 hcc htz htz2 hto hts hls HX hln hlo hhi hk hc
      go_enter Tryz.func27, Tryz.ntmps27
      go_wp2_with fail
      refine (CP.out _ HB0.out).mono ?_
      rintro e w1 ⟨rfl, hb1⟩
      have HB1 := Lib.hid (below_trans HB0.out hb1 (by simp))
      have KB1 := Lib.hid (KB0.out.new hb1)
      have k1 := KB1.out.at_ (j := 1) (u := .slice (some ⟨b, off, none⟩) x.n1 x.c1) rfl
      clear hb1
      go_wp2_with fail
      refine (CH.out _).mono ?_
      rintro e w2 ⟨rfl, hb2⟩
      have HB2 := Lib.hid (below_trans HB1.out hb2 (Nat.le_refl _))
      have KB2 := Lib.hid (KB1.out.new hb2)
      clear hb2 k1
      have k1 := KB2.out.at_ (j := 1) (u := .slice (some ⟨b, off, none⟩) x.n1 x.c1) rfl
      have c0 : w2.cell? ⟨b, off + k * 6, none⟩ = some (.int .i64 t.s0.f0) := HCC.out w2 HB2.out 0 _ rfl
      have c1 : w2.cell? ⟨b, off + k * 6 + 1, none⟩ = some (.int .i64 t.s0.f1) := HCC.out w2 HB2.out 1 _ rfl
      have c2 : w2.cell? ⟨b, off + k * 6 + 2, none⟩ = some (.slice t.A1 t.n1 t.c1) := HCC.out w2 HB2.out 2 _ rfl
      have c3 : w2.cell? ⟨b, off + k * 6 + 3, none⟩ = some (.slice t.A2 t.n2 t.c2) := HCC.out w2 HB2.out 3 _ rfl
      have c4 : w2.cell? ⟨b, off + k * 6 + 4, none⟩ = some (.slice t.A3 t.n3 t.c3) := HCC.out w2 HB2.out 4 _ rfl
      have c5 : w2.cell? ⟨b, off + k * 6 + 5, none⟩ = some (.int .i64 t.p4) := HCC.out w2 HB2.out 5 _ rfl
      have KBv := Lib.hid (KB2.out.alloc_ (.cells #[.int .i64 t.s0.f0, .int .i64 t.s0.f1, .slice t.A1 t.n1 t.c1, .slice t.A2 t.n2 t.c2, .slice t.A3 t.n3 t.c3, .int .i64 t.p4] 105))
      have KTv := Lib.hid (box_new w2 105 #[.int .i64 t.s0.f0, .int .i64 t.s0.f1, .slice t.A1 t.n1 t.c1, .slice t.A2 t.n2 t.c2, .slice t.A3 t.n3 t.c3, .int .i64 t.p4])
      have HBv := Lib.hid (HB2.out.alloc HB2.out.size (.cells #[.int .i64 t.s0.f0, .int .i64 t.s0.f1, .slice t.A1 t.n1 t.c1, .slice t.A2 t.n2 t.c2, .slice t.A3 t.n3 t.c3, .int .i64 t.p4] 105))
      go_wp2_with fail
      refine wp_region_held_drew (S := fun w' => BoxAt w' w.heap.size 42 #[.int .i64 x.p0, .slice (some ⟨b, off, none⟩) x.n1 x.c1, .slice x.A2 x.n2 x.c2, .slice x.A3 x.n3 x.c3, .slice x.A4 x.n4 x.c4, .slice x.A5 x.n5 x.c5, .slice x.A6 x.n6 x.c6, .int .i64 x.p7] ∧ BoxAt w' w2.heap.size 105 #[.int .i64 t.s0.f0, .int .i64 t.s0.f1, .slice t.A1 t.n1 t.c1, .slice t.A2 t.n2 t.c2, .slice t.A3 t.n3 t.c3, .int .i64 t.p4] ∧ Below w.heap.size w w') (by kernel_rfl) ?_ (fun hHeld => ?_)
      · exact ⟨KBv.out.drw, KTv.out.drw, HBv.out.drew⟩
      refine wpAnyH_take (i := 0) (oi := ⟨some 28, _, _, _, _, _⟩) (v := ?_) rfl (by kernel_rfl) (by kernel_rfl) (by kernel_rfl) (fun _ _ _ h => h) (Or.inl ⟨by kernel_rfl, ?_⟩) hHeld ?_
      rotate_left
      focus (intro W hS; have c0_0 := (hS.1).at_ (j := 0) rfl; have c0_1 := (hS.1).at_ (j := 1) rfl; have c0_2 := (hS.1).at_ (j := 2) rfl; have c0_3 := (hS.1).at_ (j := 3) rfl; have c0_4 := (hS.1).at_ (j := 4) rfl; have c0_5 := (hS.1).at_ (j := 5) rfl; have c0_6 := (hS.1).at_ (j := 6) rfl; have c0_7 := (hS.1).at_ (j := 7) rfl; have c1_0 := (hS.2.1).at_ (j := 0) rfl; have c1_1 := (hS.2.1).at_ (j := 1) rfl; have c1_2 := (hS.2.1).at_ (j := 2) rfl; have c1_3 := (hS.2.1).at_ (j := 3) rfl; have c1_4 := (hS.2.1).at_ (j := 4) rfl; have c1_5 := (hS.2.1).at_ (j := 5) rfl; clear hS; first | (go_simp; done) | (go_simp; with_reducible rfl))
      try simp only [Act.put, List.setIfInBounds_toArray, List.set_cons_zero, List.set_cons_succ]
      refine wpAnyH_take (i := 1) (oi := ⟨some 29, _, _, _, _, _⟩) (v := ?_) rfl (by kernel_rfl) (by kernel_rfl) (by kernel_rfl) (fun _ _ _ h => h) (Or.inl ⟨by kernel_rfl, ?_⟩) hHeld ?_
      rotate_left
      focus (intro W hS; have c0_0 := (hS.1).at_ (j := 0) rfl; have c0_1 := (hS.1).at_ (j := 1) rfl; have c0_2 := (hS.1).at_ (j := 2) rfl; have c0_3 := (hS.1).at_ (j := 3) rfl; have c0_4 := (hS.1).at_ (j := 4) rfl; have c0_5 := (hS.1).at_ (j := 5) rfl; have c0_6 := (hS.1).at_ (j := 6) rfl; have c0_7 := (hS.1).at_ (j := 7) rfl; have c1_0 := (hS.2.1).at_ (j := 0) rfl; have c1_1 := (hS.2.1).at_ (j := 1) rfl; have c1_2 := (hS.2.1).at_ (j := 2) rfl; have c1_3 := (hS.2.1).at_ (j := 3) rfl; have c1_4 := (hS.2.1).at_ (j := 4) rfl; have c1_5 := (hS.2.1).at_ (j := 5) rfl; clear hS; first | (go_simp; done) | (go_simp; with_reducible rfl))
      try simp only [Act.put, List.setIfInBounds_toArray, List.set_cons_zero, List.set_cons_succ]
      refine wpAnyH_take (i := 2) (oi := ⟨some 30, _, _, _, _, _⟩) (v := ?_) rfl (by kernel_rfl) (by kernel_rfl) (by kernel_rfl) (fun _ _ _ h => h) (Or.inl ⟨by kernel_rfl, ?_⟩) hHeld ?_
      rotate_left
      focus (intro W hS; have c0_0 := (hS.1).at_ (j := 0) rfl; have c0_1 := (hS.1).at_ (j := 1) rfl; have c0_2 := (hS.1).at_ (j := 2) rfl; have c0_3 := (hS.1).at_ (j := 3) rfl; have c0_4 := (hS.1).at_ (j := 4) rfl; have c0_5 := (hS.1).at_ (j := 5) rfl; have c0_6 := (hS.1).at_ (j := 6) rfl; have c0_7 := (hS.1).at_ (j := 7) rfl; have c1_0 := (hS.2.1).at_ (j := 0) rfl; have c1_1 := (hS.2.1).at_ (j := 1) rfl; have c1_2 := (hS.2.1).at_ (j := 2) rfl; have c1_3 := (hS.2.1).at_ (j := 3) rfl; have c1_4 := (hS.2.1).at_ (j := 4) rfl; have c1_5 := (hS.2.1).at_ (j := 5) rfl; clear hS; first | (go_simp; done) | (go_simp; with_reducible rfl))
      try simp only [Act.put, List.setIfInBounds_toArray, List.set_cons_zero, List.set_cons_succ]
      refine wpAnyH_take (i := 3) (oi := ⟨some 31, _, _, _, _, _⟩) (v := ?_) rfl (by kernel_rfl) (by kernel_rfl) (by kernel_rfl) (fun _ _ _ h => h) (Or.inl ⟨by kernel_rfl, ?_⟩) hHeld ?_
      rotate_left
      focus (intro W hS; have c0_0 := (hS.1).at_ (j := 0) rfl; have c0_1 := (hS.1).at_ (j := 1) rfl; have c0_2 := (hS.1).at_ (j := 2) rfl; have c0_3 := (hS.1).at_ (j := 3) rfl; have c0_4 := (hS.1).at_ (j := 4) rfl; have c0_5 := (hS.1).at_ (j := 5) rfl; have c0_6 := (hS.1).at_ (j := 6) rfl; have c0_7 := (hS.1).at_ (j := 7) rfl; have c1_0 := (hS.2.1).at_ (j := 0) rfl; have c1_1 := (hS.2.1).at_ (j := 1) rfl; have c1_2 := (hS.2.1).at_ (j := 2) rfl; have c1_3 := (hS.2.1).at_ (j := 3) rfl; have c1_4 := (hS.2.1).at_ (j := 4) rfl; have c1_5 := (hS.2.1).at_ (j := 5) rfl; clear hS; first | (go_simp; done) | (go_simp; with_reducible rfl))
      try simp only [Act.put, List.setIfInBounds_toArray, List.set_cons_zero, List.set_cons_succ]
      refine wpAnyH_take (i := 4) (oi := ⟨some 32, _, _, _, _, _⟩) (v := ?_) rfl (by kernel_rfl) (by kernel_rfl) (by kernel_rfl) (fun _ _ _ h => h) (Or.inl ⟨by kernel_rfl, ?_⟩) hHeld ?_
      rotate_left
      focus (intro W hS; have c0_0 := (hS.1).at_ (j := 0) rfl; have c0_1 := (hS.1).at_ (j := 1) rfl; have c0_2 := (hS.1).at_ (j := 2) rfl; have c0_3 := (hS.1).at_ (j := 3) rfl; have c0_4 := (hS.1).at_ (j := 4) rfl; have c0_5 := (hS.1).at_ (j := 5) rfl; have c0_6 := (hS.1).at_ (j := 6) rfl; have c0_7 := (hS.1).at_ (j := 7) rfl; have c1_0 := (hS.2.1).at_ (j := 0) rfl; have c1_1 := (hS.2.1).at_ (j := 1) rfl; have c1_2 := (hS.2.1).at_ (j := 2) rfl; have c1_3 := (hS.2.1).at_ (j := 3) rfl; have c1_4 := (hS.2.1).at_ (j := 4) rfl; have c1_5 := (hS.2.1).at_ (j := 5) rfl; clear hS; first | (go_simp; done) | (go_simp; with_reducible rfl))
      try simp only [Act.put, List.setIfInBounds_toArray, List.set_cons_zero, List.set_cons_succ]
      refine wpAnyH_take (i := 5) (oi := ⟨some 33, _, _, _, _, _⟩) (v := ?_) rfl (by kernel_rfl) (by kernel_rfl) (by kernel_rfl) (fun _ _ _ h => h) (Or.inl ⟨by kernel_rfl, ?_⟩) hHeld ?_
      rotate_left
      focus (intro W hS; have c0_0 := (hS.1).at_ (j := 0) rfl; have c0_1 := (hS.1).at_ (j := 1) rfl; have c0_2 := (hS.1).at_ (j := 2) rfl; have c0_3 := (hS.1).at_ (j := 3) rfl; have c0_4 := (hS.1).at_ (j := 4) rfl; have c0_5 := (hS.1).at_ (j := 5) rfl; have c0_6 := (hS.1).at_ (j := 6) rfl; have c0_7 := (hS.1).at_ (j := 7) rfl; have c1_0 := (hS.2.1).at_ (j := 0) rfl; have c1_1 := (hS.2.1).at_ (j := 1) rfl; have c1_2 := (hS.2.1).at_ (j := 2) rfl; have c1_3 := (hS.2.1).at_ (j := 3) rfl; have c1_4 := (hS.2.1).at_ (j := 4) rfl; have c1_5 := (hS.2.1).at_ (j := 5) rfl; clear hS; first | (go_simp; done) | (go_simp; with_reducible rfl))
      try simp only [Act.put, List.setIfInBounds_toArray, List.set_cons_zero, List.set_cons_succ]
      refine wpAnyH_take (i := 6) (oi := ⟨some 34, _, _, _, _, _⟩) (v := ?_) rfl (by kernel_rfl) (by kernel_rfl) (by kernel_rfl) (fun _ _ _ h => h) (Or.inl ⟨by kernel_rfl, ?_⟩) hHeld ?_
      rotate_left
      focus (intro W hS; have c0_0 := (hS.1).at_ (j := 0) rfl; have c0_1 := (hS.1).at_ (j := 1) rfl; have c0_2 := (hS.1).at_ (j := 2) rfl; have c0_3 := (hS.1).at_ (j := 3) rfl; have c0_4 := (hS.1).at_ (j := 4) rfl; have c0_5 := (hS.1).at_ (j := 5) rfl; have c0_6 := (hS.1).at_ (j := 6) rfl; have c0_7 := (hS.1).at_ (j := 7) rfl; have c1_0 := (hS.2.1).at_ (j := 0) rfl; have c1_1 := (hS.2.1).at_ (j := 1) rfl; have c1_2 := (hS.2.1).at_ (j := 2) rfl; have c1_3 := (hS.2.1).at_ (j := 3) rfl; have c1_4 := (hS.2.1).at_ (j := 4) rfl; have c1_5 := (hS.2.1).at_ (j := 5) rfl; clear hS; first | (go_simp; done) | (go_simp; with_reducible rfl))
      try simp only [Act.put, List.setIfInBounds_toArray, List.set_cons_zero, List.set_cons_succ]
      refine wpAnyH_take (i := 7) (oi := ⟨some 35, _, _, _, _, _⟩) (v := ?_) rfl (by kernel_rfl) (by kernel_rfl) (by kernel_rfl) (fun _ _ _ h => h) (Or.inl ⟨by kernel_rfl, ?_⟩) hHeld ?_
      rotate_left
      focus (intro W hS; have c0_0 := (hS.1).at_ (j := 0) rfl; have c0_1 := (hS.1).at_ (j := 1) rfl; have c0_2 := (hS.1).at_ (j := 2) rfl; have c0_3 := (hS.1).at_ (j := 3) rfl; have c0_4 := (hS.1).at_ (j := 4) rfl; have c0_5 := (hS.1).at_ (j := 5) rfl; have c0_6 := (hS.1).at_ (j := 6) rfl; have c0_7 := (hS.1).at_ (j := 7) rfl; have c1_0 := (hS.2.1).at_ (j := 0) rfl; have c1_1 := (hS.2.1).at_ (j := 1) rfl; have c1_2 := (hS.2.1).at_ (j := 2) rfl; have c1_3 := (hS.2.1).at_ (j := 3) rfl; have c1_4 := (hS.2.1).at_ (j := 4) rfl; have c1_5 := (hS.2.1).at_ (j := 5) rfl; clear hS; first | (go_simp; done) | (go_simp; with_reducible rfl))
      try simp only [Act.put, List.setIfInBounds_toArray, List.set_cons_zero, List.set_cons_succ]
      refine wpAnyH_take (i := 8) (oi := ⟨some 36, _, _, _, _, _⟩) (v := ?_) rfl (by kernel_rfl) (by kernel_rfl) (by kernel_rfl) (fun _ _ _ h => h) (Or.inl ⟨by kernel_rfl, ?_⟩) hHeld ?_
      rotate_left
      focus (intro W hS; have c0_0 := (hS.1).at_ (j := 0) rfl; have c0_1 := (hS.1).at_ (j := 1) rfl; have c0_2 := (hS.1).at_ (j := 2) rfl; have c0_3 := (hS.1).at_ (j := 3) rfl; have c0_4 := (hS.1).at_ (j := 4) rfl; have c0_5 := (hS.1).at_ (j := 5) rfl; have c0_6 := (hS.1).at_ (j := 6) rfl; have c0_7 := (hS.1).at_ (j := 7) rfl; have c1_0 := (hS.2.1).at_ (j := 0) rfl; have c1_1 := (hS.2.1).at_ (j := 1) rfl; have c1_2 := (hS.2.1).at_ (j := 2) rfl; have c1_3 := (hS.2.1).at_ (j := 3) rfl; have c1_4 := (hS.2.1).at_ (j := 4) rfl; have c1_5 := (hS.2.1).at_ (j := 5) rfl; clear hS; first | (go_simp; done) | (go_simp; with_reducible rfl))
      try simp only [Act.put, List.setIfInBounds_toArray, List.set_cons_zero, List.set_cons_succ]
      refine wpAnyH_take (i := 9) (oi := ⟨some 37, _, _, _, _, _⟩) (v := ?_) rfl (by kernel_rfl) (by kernel_rfl) (by kernel_rfl) (fun _ _ _ h => h) (Or.inl ⟨by kernel_rfl, ?_⟩) hHeld ?_
      rotate_left
      focus (intro W hS; have c0_0 := (hS.1).at_ (j := 0) rfl; have c0_1 := (hS.1).at_ (j := 1) rfl; have c0_2 := (hS.1).at_ (j := 2) rfl; have c0_3 := (hS.1).at_ (j := 3) rfl; have c0_4 := (hS.1).at_ (j := 4) rfl; have c0_5 := (hS.1).at_ (j := 5) rfl; have c0_6 := (hS.1).at_ (j := 6) rfl; have c0_7 := (hS.1).at_ (j := 7) rfl; have c1_0 := (hS.2.1).at_ (j := 0) rfl; have c1_1 := (hS.2.1).at_ (j := 1) rfl; have c1_2 := (hS.2.1).at_ (j := 2) rfl; have c1_3 := (hS.2.1).at_ (j := 3) rfl; have c1_4 := (hS.2.1).at_ (j := 4) rfl; have c1_5 := (hS.2.1).at_ (j := 5) rfl; clear hS; first | (go_simp; done) | (go_simp; with_reducible rfl))
      try simp only [Act.put, List.setIfInBounds_toArray, List.set_cons_zero, List.set_cons_succ]
      refine wpAnyH_take (i := 10) (oi := ⟨some 38, _, _, _, _, _⟩) (v := ?_) rfl (by kernel_rfl) (by kernel_rfl) (by kernel_rfl) (fun _ _ _ h => h) (Or.inl ⟨by kernel_rfl, ?_⟩) hHeld ?_
      rotate_left
      focus (intro W hS; have c0_0 := (hS.1).at_ (j := 0) rfl; have c0_1 := (hS.1).at_ (j := 1) rfl; have c0_2 := (hS.1).at_ (j := 2) rfl; have c0_3 := (hS.1).at_ (j := 3) rfl; have c0_4 := (hS.1).at_ (j := 4) rfl; have c0_5 := (hS.1).at_ (j := 5) rfl; have c0_6 := (hS.1).at_ (j := 6) rfl; have c0_7 := (hS.1).at_ (j := 7) rfl; have c1_0 := (hS.2.1).at_ (j := 0) rfl; have c1_1 := (hS.2.1).at_ (j := 1) rfl; have c1_2 := (hS.2.1).at_ (j := 2) rfl; have c1_3 := (hS.2.1).at_ (j := 3) rfl; have c1_4 := (hS.2.1).at_ (j := 4) rfl; have c1_5 := (hS.2.1).at_ (j := 5) rfl; clear hS; first | (go_simp; done) | (go_simp; with_reducible rfl))
      try simp only [Act.put, List.setIfInBounds_toArray, List.set_cons_zero, List.set_cons_succ]
      refine wpAnyH_take (i := 11) (oi := ⟨some 39, _, _, _, _, _⟩) (v := ?_) rfl (by kernel_rfl) (by kernel_rfl) (by kernel_rfl) (fun _ _ _ h => h) (Or.inl ⟨by kernel_rfl, ?_⟩) hHeld ?_
      rotate_left
      focus (intro W hS; have c0_0 := (hS.1).at_ (j := 0) rfl; have c0_1 := (hS.1).at_ (j := 1) rfl; have c0_2 := (hS.1).at_ (j := 2) rfl; have c0_3 := (hS.1).at_ (j := 3) rfl; have c0_4 := (hS.1).at_ (j := 4) rfl; have c0_5 := (hS.1).at_ (j := 5) rfl; have c0_6 := (hS.1).at_ (j := 6) rfl; have c0_7 := (hS.1).at_ (j := 7) rfl; have c1_0 := (hS.2.1).at_ (j := 0) rfl; have c1_1 := (hS.2.1).at_ (j := 1) rfl; have c1_2 := (hS.2.1).at_ (j := 2) rfl; have c1_3 := (hS.2.1).at_ (j := 3) rfl; have c1_4 := (hS.2.1).at_ (j := 4) rfl; have c1_5 := (hS.2.1).at_ (j := 5) rfl; clear hS; first | (go_simp; done) | (go_simp; with_reducible rfl))
      try simp only [Act.put, List.setIfInBounds_toArray, List.set_cons_zero, List.set_cons_succ]
      refine wpAnyH_take (i := 12) (oi := ⟨some 40, _, _, _, _, _⟩) (v := ?_) rfl (by kernel_rfl) (by kernel_rfl) (by kernel_rfl) (fun _ _ _ h => h) (Or.inl ⟨by kernel_rfl, ?_⟩) hHeld ?_
      rotate_left
      focus (intro W hS; have c0_0 := (hS.1).at_ (j := 0) rfl; have c0_1 := (hS.1).at_ (j := 1) rfl; have c0_2 := (hS.1).at_ (j := 2) rfl; have c0_3 := (hS.1).at_ (j := 3) rfl; have c0_4 := (hS.1).at_ (j := 4) rfl; have c0_5 := (hS.1).at_ (j := 5) rfl; have c0_6 := (hS.1).at_ (j := 6) rfl; have c0_7 := (hS.1).at_ (j := 7) rfl; have c1_0 := (hS.2.1).at_ (j := 0) rfl; have c1_1 := (hS.2.1).at_ (j := 1) rfl; have c1_2 := (hS.2.1).at_ (j := 2) rfl; have c1_3 := (hS.2.1).at_ (j := 3) rfl; have c1_4 := (hS.2.1).at_ (j := 4) rfl; have c1_5 := (hS.2.1).at_ (j := 5) rfl; clear hS; first | (go_simp; done) | (go_simp; with_reducible rfl))
      try simp only [Act.put, List.setIfInBounds_toArray, List.set_cons_zero, List.set_cons_succ]
      refine wpAnyH_ready (rs := [13]) (by kernel_rfl) (by simp) ?_
      refine AllReadyH.cons (o := ⟨some 41, _, _, _, _, _⟩) rfl (fun K hK => ?_) AllReadyH.nil
      go_simp
      refine Calls.mono (CI.out _ hHeld.2.2) ?_
      rintro e x1 ⟨rfl, hb1⟩
      refine hK.out _ _ ⟨hHeld.1.new hb1, hHeld.2.1.new hb1, below_trans hHeld.2.2 hb1 (Nat.le_refl _)⟩ (fun hHeld' => ?_)
      clear hK K hHeld hb1
      have hHeld := hHeld'
      clear hHeld'
      try simp only [Act.put, List.setIfInBounds_toArray, List.set_cons_zero, List.set_cons_succ]
      refine wpAnyH_ready (rs := [14]) (by kernel_rfl) (by simp) ?_
      refine AllReadyH.cons (o := ⟨some 42, _, _, _, _, _⟩) rfl (fun K hK => ?_) AllReadyH.nil
      go_simp
      refine Calls.mono (CM.out _ hHeld.2.2) ?_
      rintro e x2 ⟨rfl, hb1⟩
      refine hK.out _ _ ⟨hHeld.1.new hb1, hHeld.2.1.new hb1, below_trans hHeld.2.2 hb1 (Nat.le_refl _)⟩ (fun hHeld' => ?_)
      clear hK K hHeld hb1
      have hHeld := hHeld'
      clear hHeld'
      try simp only [Act.put, List.setIfInBounds_toArray, List.set_cons_zero, List.set_cons_succ]
      refine wpAnyH_take (i := 15) (oi := ⟨some 8, _, _, _, _, _⟩) (v := ?_) rfl (by kernel_rfl) (by kernel_rfl) (by kernel_rfl) (fun _ _ _ h => h) (Or.inl ⟨by kernel_rfl, ?_⟩) hHeld ?_
      rotate_left
      focus (intro W hS; have c0_0 := (hS.1).at_ (j := 0) rfl; have c0_1 := (hS.1).at_ (j := 1) rfl; have c0_2 := (hS.1).at_ (j := 2) rfl; have c0_3 := (hS.1).at_ (j := 3) rfl; have c0_4 := (hS.1).at_ (j := 4) rfl; have c0_5 := (hS.1).at_ (j := 5) rfl; have c0_6 := (hS.1).at_ (j := 6) rfl; have c0_7 := (hS.1).at_ (j := 7) rfl; have c1_0 := (hS.2.1).at_ (j := 0) rfl; have c1_1 := (hS.2.1).at_ (j := 1) rfl; have c1_2 := (hS.2.1).at_ (j := 2) rfl; have c1_3 := (hS.2.1).at_ (j := 3) rfl; have c1_4 := (hS.2.1).at_ (j := 4) rfl; have c1_5 := (hS.2.1).at_ (j := 5) rfl; clear hS; first | (go_simp; done) | (go_simp; with_reducible rfl))
      try simp only [Act.put, List.setIfInBounds_toArray, List.set_cons_zero, List.set_cons_succ]
      refine wpAnyH_done (by kernel_rfl) ?_ _
      have HBq := Lib.hid hHeld.2.2
      go_wp2_with fail
      go_ret
      exact ⟨rfl, HBq.out⟩

end Go.Proofs.YtodlahmnjadgcaaGreat
