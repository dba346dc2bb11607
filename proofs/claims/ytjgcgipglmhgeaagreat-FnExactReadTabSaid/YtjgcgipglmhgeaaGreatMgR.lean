/- Merged: RdT. -/
import Derived.Test.YtjgcgipglmhgeaaGreatMgM
import Derived.Test.YtjgcgipglmhgeaaGreatMgA2
import Derived.Test.YtjgcgipglmhgeaaGreatMgS
import Derived.Deep.LoopGhost
import Derived.Deep.RegionHeld3
namespace Go.Proofs.YtjgcgipglmhgeaaGreat
open Go Go.ChangeShapes Go.WideShapes Go.ChangeAt Go.RowKit Go.Lib
set_option linter.unusedVariables false
set_option linter.unusedSimpArgs false
set_option maxRecDepth 100000
set_option maxHeartbeats 4000000
/-- What an extension reads of a tab. -/
def mReadT (m : MBrowser) (ext a : Int) : List TNode := if mMayA m ext a 1 = true then (match mTabAt m a with | some t => mSeen (mRun t.l1 t.l2) t.l3 ext | none => []) else []
theorem mReadT_len (x : DBrowser) (ext a : Int) (hz : x.dat.sz ≤ 1048576) (hok : x.dat.ok) : (mReadT x.dat ext a).length ≤ 1048576 := by
  unfold mReadT
  split
  · cases hin : inR a 0 ((x.l1.length : Int) - 1) with
    | false => rw [mTabAt_no hin]; simp
    | true =>
      obtain ⟨k, t, rfl, hk, hkt, hat⟩ := mTabAt_yes hin
      rw [hat]
      have htz := MTab.szs_mem (x.l1.map DTab.dat) k t.dat (by rw [List.getElem?_map, hkt]; rfl)
      have hto : t.dat.ok := hok.2.1 t.dat (List.mem_map.2 ⟨t, List.mem_of_getElem? hkt, rfl⟩)
      have hl : t.l1.length ≤ 1048576 := by
        simp only [MBrowser.sz, DBrowser.dat, MTab.sz, DTab.dat] at hz htz
        omega
      exact Nat.le_trans (mSeen_len _ _ _) (run_le t.dat.l2 hto.2.1 (by decide) hl)
  · simp
theorem fr_nilR {w : World} {lo hi size : Nat} {E : TypeId} {c : Nat} {A : Option Addr} : Fr w lo hi E size A 0 c [] := ⟨by simp, fun h => absurd h (by omega)⟩
set_option maxHeartbeats 16000000 in
theorem impl_ReadTabC (x : DBrowser) (m : MBrowser) (lo hi : Nat) (ext : Int) (a : Int) (w : World) (hd : x.dat = m) (hz : m.sz ≤ 1048576) (hok : m.ok) (hr : x.rd w lo hi) (hc : x.caps) (wf1 : (Lit.int .i64 ext).wf = true) (wf2 : (Lit.int .i64 a).wf = true) :
    Calls Tryz.prog 7 #[.agg #[.int .i64 x.p0, .slice x.A1 x.n1 x.c1, .slice x.A2 x.n2 x.c2, .slice x.A3 x.n3 x.c3, .slice x.A4 x.n4 x.c4, .slice x.A5 x.n5 x.c5, .slice x.A6 x.n6 x.c6, .int .i64 x.p7], .int .i64 ext, .int .i64 a] w (Makes 70 5 (mReadT m ext a).length (cNode (mReadT m ext a)) w) := by
  have CA := Lib.hid (fun W (hW : Below w.heap.size w W) => impl_MayActC x m lo hi ext a 1 W hd hz hok (hr.new hW) hc)
  subst hd
  have HB0 := Lib.hid ((Below.refl w.heap.size w).alloc (Nat.le_refl _) (.cells #[.int .i64 x.p0, .slice x.A1 x.n1 x.c1, .slice x.A2 x.n2 x.c2, .slice x.A3 x.n3 x.c3, .slice x.A4 x.n4 x.c4, .slice x.A5 x.n5 x.c5, .slice x.A6 x.n6 x.c6, .int .i64 x.p7] 40))
  cases hM1 : mMayA x.dat ext a 1 with
  | false =>
    rw [hM1] at CA
    have e1 : mReadT x.dat ext a = [] := by unfold mReadT; rw [hM1]; rfl
    rw [e1]
    clear hM1 hr hz hok hc e1
    go_enter Tryz.func7, Tryz.ntmps7
    go_wp2_with fail
    refine (CA.out _ HB0.out).mono ?_
    rintro e w1 ⟨rfl, hb1⟩
    have HB1 := Lib.hid (below_trans HB0.out hb1 (by simp))
    clear hb1
    go_wp2_with fail
    go_ret
    exact ⟨_, _, rfl, fr_nilR, by first | exact HB1.out | exact HB1.out.alloc HB1.out.size _⟩
  | true =>
    rw [hM1] at CA
    cases hin : inR a 0 ((x.l1.length : Int) - 1) with
    | false => unfold mMayA at hM1; rw [mTabAt_no hin] at hM1; cases hM1
    | true =>
      obtain ⟨k, t, rfl, hk, hkt, hat⟩ := mTabAt_yes hin
      have e1 : mReadT x.dat ext (k : Int) = mSeen (mRun t.l1 t.l2) t.l3 ext := by unfold mReadT; rw [hM1, hat]; rfl
      rw [e1]
      have hln := hr.1.len
      have hkn : k < x.n1 := by omega
      have hn1 : x.n1 ≤ 1048576 := by rw [hr.sz] at hz; omega
      have htz := MTab.szs_mem (x.l1.map DTab.dat) k t.dat (by rw [List.getElem?_map, hkt]; rfl)
      have htz2 : t.dat.sz ≤ 1048575 := by rw [hr.sz] at hz; omega
      have hto : t.dat.ok := hok.2.1 t.dat (List.mem_map.2 ⟨t, List.mem_of_getElem? hkt, rfl⟩)
      have HX := (hr.old).1.at_ hkt
      have hts := DTab.rd_sz HX
      have hls := DTab.rd_lens HX
      have hM : (mRun t.l1 t.l2).length ≤ 1048576 := run_le t.l2 (l := t.l1) hto.2.1 (by decide) (by omega)
      have CT := fun W (hb : Below w.heap.size w W) => impl_TabDocument t.s0 t.l1 t.A1 t.n1 t.c1 0 w.heap.size t.l2 t.A2 t.n2 t.c2 0 w.heap.size t.l3 t.A3 t.n3 t.c3 0 w.heap.size t.p4 W (Lib.hid hto.1) (by omega) (HX.1.2.new hb) (Lib.hid hto.2.1) (by omega) (HX.2.1.2.new hb) (Lib.hid hto.2.2.1) (by omega) (HX.2.2.2.new hb) (Lib.hid hto.2.2.2.1)
      have hMok := Lib.hid (run_fits t.l2 (l := t.l1) hto.2.1)
      have hcap := (hc.2.2.2.2.1 t (List.mem_of_getElem? hkt))
      have CS : ∀ W A c lo hi, Rd W lo hi 5 A (mRun t.l1 t.l2).length (cNode (mRun t.l1 t.l2)) → (mRun t.l1 t.l2).length ≤ c → Below w.heap.size w W → Calls Tryz.prog 29 #[.slice A (mRun t.l1 t.l2).length c, .slice t.A3 t.n3 t.c3, .int .i64 ext] W (fun e w' => ∃ (A : Option Addr) (c : Nat), e = .returned (.slice A (mSeen (mRun t.l1 t.l2) t.l3 ext).length c) ∧ Fr w' w.heap.size w'.heap.size 70 5 A (mSeen (mRun t.l1 t.l2) t.l3 ext).length c (cNode (mSeen (mRun t.l1 t.l2) t.l3 ext)) ∧ Below W.heap.size W w') := fun W A c lo hi h hcc hb => (impl_SeenByC (mRun t.l1 t.l2) A _ c lo hi t.l3 t.A3 t.n3 t.c3 0 w.heap.size ext W hM h hcc hMok (by omega) (HX.2.2.2.new hb) hcap.2.2 (Lib.hid hto.2.2.2.1) wf1).mono (fun e w' hh => by obtain ⟨A, c, h1, h2, h3⟩ := hh; exact ⟨A, c, h1, h2.mono hb.size (Nat.le_refl _), h3⟩)
      generalize mSeen (mRun t.l1 t.l2) t.l3 ext = J at CS ⊢
      clear hMok
      generalize mRun t.l1 t.l2 = M at CT CS hM
      generalize M.length = q at CT CS hM
      generalize J.length = s at CS ⊢
      replace CT := Lib.hid CT
      replace CS := Lib.hid CS
      obtain ⟨b, off, t2, hA, hlo, hhi, hkt2, hcc⟩ := rd_elem DTab.len (hr.old).1.2.1 hln hkn
      obtain rfl : t = t2 := Option.some.inj (hkt.symm.trans hkt2)
      have HCC := Lib.hid (fun (W : World) (hb : Below w.heap.size w W) (j : Nat) (u : Value) (hu : t.cells[j]? = some u) => (World.cell?_of_block (a := ⟨b, off + k * 6 + j, none⟩) (hb.block b hhi)).trans (hcc j u hu))
      have KB0 := Lib.hid (show BoxAt (w.alloc (.cells #[.int .i64 x.p0, .slice x.A1 x.n1 x.c1, .slice x.A2 x.n2 x.c2, .slice x.A3 x.n3 x.c3, .slice x.A4 x.n4 x.c4, .slice x.A5 x.n5 x.c5, .slice x.A6 x.n6 x.c6, .int .i64 x.p7] 40)) w.heap.size 40 #[.int .i64 x.p0, .slice (some ⟨b, off, none⟩) x.n1 x.c1, .slice x.A2 x.n2 x.c2, .slice x.A3 x.n3 x.c3, .slice x.A4 x.n4 x.c4, .slice x.A5 x.n5 x.c5, .slice x.A6 x.n6 x.c6, .int .i64 x.p7] by rw [← hA]; exact box_new w 40 #[.int .i64 x.p0, .slice x.A1 x.n1 x.c1, .slice x.A2 x.n2 x.c2, .slice x.A3 x.n3 x.c3, .slice x.A4 x.n4 x.c4, .slice x.A5 x.n5 x.c5, .slice x.A6 x.n6 x.c6, .int .i64 x.p7])
      replace hA := Lib.hid hA
      rw [hA.out] at CA HB0 KB0 ⊢
      clear hin hr hz hok e1 hat hkt hkt2 hcc htz htz2 hto hM hts hls HX hln hlo hhi hk hc hM1 hcap
      go_enter Tryz.func7, Tryz.ntmps7
      go_wp2_with fail
      refine (CA.out _ HB0.out).mono ?_
      rintro e w1 ⟨rfl, hb1⟩
      have HB1 := Lib.hid (below_trans HB0.out hb1 (by simp))
      have KB1 := Lib.hid (KB0.out.new hb1)
      have k1 := KB1.out.at_ (j := 1) (u := .slice (some ⟨b, off, none⟩) x.n1 x.c1) rfl
      clear hb1
      have c0 : w1.cell? ⟨b, off + k * 6, none⟩ = some (.int .i64 t.s0.f0) := HCC.out w1 HB1.out 0 _ rfl
      have c1 : w1.cell? ⟨b, off + k * 6 + 1, none⟩ = some (.int .i64 t.s0.f1) := HCC.out w1 HB1.out 1 _ rfl
      have c2 : w1.cell? ⟨b, off + k * 6 + 2, none⟩ = some (.slice t.A1 t.n1 t.c1) := HCC.out w1 HB1.out 2 _ rfl
      have c3 : w1.cell? ⟨b, off + k * 6 + 3, none⟩ = some (.slice t.A2 t.n2 t.c2) := HCC.out w1 HB1.out 3 _ rfl
      have c4 : w1.cell? ⟨b, off + k * 6 + 4, none⟩ = some (.slice t.A3 t.n3 t.c3) := HCC.out w1 HB1.out 4 _ rfl
      have c5 : w1.cell? ⟨b, off + k * 6 + 5, none⟩ = some (.int .i64 t.p4) := HCC.out w1 HB1.out 5 _ rfl
      have KBv := Lib.hid (KB1.out.alloc_ (.cells #[.int .i64 t.s0.f0, .int .i64 t.s0.f1, .slice t.A1 t.n1 t.c1, .slice t.A2 t.n2 t.c2, .slice t.A3 t.n3 t.c3, .int .i64 t.p4] 61))
      have KTv := Lib.hid (box_new w1 61 #[.int .i64 t.s0.f0, .int .i64 t.s0.f1, .slice t.A1 t.n1 t.c1, .slice t.A2 t.n2 t.c2, .slice t.A3 t.n3 t.c3, .int .i64 t.p4])
      have HBv := Lib.hid (HB1.out.alloc HB1.out.size (.cells #[.int .i64 t.s0.f0, .int .i64 t.s0.f1, .slice t.A1 t.n1 t.c1, .slice t.A2 t.n2 t.c2, .slice t.A3 t.n3 t.c3, .int .i64 t.p4] 61))
      go_wp2_with fail
      refine wp_region_held_drew (S := fun w' => BoxAt w' w.heap.size 40 #[.int .i64 x.p0, .slice (some ⟨b, off, none⟩) x.n1 x.c1, .slice x.A2 x.n2 x.c2, .slice x.A3 x.n3 x.c3, .slice x.A4 x.n4 x.c4, .slice x.A5 x.n5 x.c5, .slice x.A6 x.n6 x.c6, .int .i64 x.p7] ∧ BoxAt w' w1.heap.size 61 #[.int .i64 t.s0.f0, .int .i64 t.s0.f1, .slice t.A1 t.n1 t.c1, .slice t.A2 t.n2 t.c2, .slice t.A3 t.n3 t.c3, .int .i64 t.p4] ∧ Below w.heap.size w w') (by kernel_rfl) ?_ (fun hHeld => ?_)
      · exact ⟨KBv.out.drw, KTv.out.drw, HBv.out.drew⟩
      refine wpAnyH_take (i := 0) (oi := ⟨some 19, _, _, _, _, _⟩) (v := ?_) rfl (by kernel_rfl) (by kernel_rfl) (by kernel_rfl) (fun _ _ _ h => h) (Or.inl ⟨by kernel_rfl, ?_⟩) hHeld ?_
      rotate_left
      focus (intro W hS; have c0_0 := (hS.1).at_ (j := 0) rfl; have c0_1 := (hS.1).at_ (j := 1) rfl; have c0_2 := (hS.1).at_ (j := 2) rfl; have c0_3 := (hS.1).at_ (j := 3) rfl; have c0_4 := (hS.1).at_ (j := 4) rfl; have c0_5 := (hS.1).at_ (j := 5) rfl; have c0_6 := (hS.1).at_ (j := 6) rfl; have c0_7 := (hS.1).at_ (j := 7) rfl; have c1_0 := (hS.2.1).at_ (j := 0) rfl; have c1_1 := (hS.2.1).at_ (j := 1) rfl; have c1_2 := (hS.2.1).at_ (j := 2) rfl; have c1_3 := (hS.2.1).at_ (j := 3) rfl; have c1_4 := (hS.2.1).at_ (j := 4) rfl; have c1_5 := (hS.2.1).at_ (j := 5) rfl; clear hS; first | (go_simp; done) | (go_simp; with_reducible rfl))
      try simp only [Act.put, List.setIfInBounds_toArray, List.set_cons_zero, List.set_cons_succ]
      refine wpAnyH_take (i := 2) (oi := ⟨some 21, _, _, _, _, _⟩) (v := ?_) rfl (by kernel_rfl) (by kernel_rfl) (by kernel_rfl) (fun _ _ _ h => h) (Or.inl ⟨by kernel_rfl, ?_⟩) hHeld ?_
      rotate_left
      focus (intro W hS; have c0_0 := (hS.1).at_ (j := 0) rfl; have c0_1 := (hS.1).at_ (j := 1) rfl; have c0_2 := (hS.1).at_ (j := 2) rfl; have c0_3 := (hS.1).at_ (j := 3) rfl; have c0_4 := (hS.1).at_ (j := 4) rfl; have c0_5 := (hS.1).at_ (j := 5) rfl; have c0_6 := (hS.1).at_ (j := 6) rfl; have c0_7 := (hS.1).at_ (j := 7) rfl; have c1_0 := (hS.2.1).at_ (j := 0) rfl; have c1_1 := (hS.2.1).at_ (j := 1) rfl; have c1_2 := (hS.2.1).at_ (j := 2) rfl; have c1_3 := (hS.2.1).at_ (j := 3) rfl; have c1_4 := (hS.2.1).at_ (j := 4) rfl; have c1_5 := (hS.2.1).at_ (j := 5) rfl; clear hS; first | (go_simp; done) | (go_simp; with_reducible rfl))
      try simp only [Act.put, List.setIfInBounds_toArray, List.set_cons_zero, List.set_cons_succ]
      refine wpAnyH_take (i := 3) (oi := ⟨some 22, _, _, _, _, _⟩) (v := ?_) rfl (by kernel_rfl) (by kernel_rfl) (by kernel_rfl) (fun _ _ _ h => h) (Or.inl ⟨by kernel_rfl, ?_⟩) hHeld ?_
      rotate_left
      focus (intro W hS; have c0_0 := (hS.1).at_ (j := 0) rfl; have c0_1 := (hS.1).at_ (j := 1) rfl; have c0_2 := (hS.1).at_ (j := 2) rfl; have c0_3 := (hS.1).at_ (j := 3) rfl; have c0_4 := (hS.1).at_ (j := 4) rfl; have c0_5 := (hS.1).at_ (j := 5) rfl; have c0_6 := (hS.1).at_ (j := 6) rfl; have c0_7 := (hS.1).at_ (j := 7) rfl; have c1_0 := (hS.2.1).at_ (j := 0) rfl; have c1_1 := (hS.2.1).at_ (j := 1) rfl; have c1_2 := (hS.2.1).at_ (j := 2) rfl; have c1_3 := (hS.2.1).at_ (j := 3) rfl; have c1_4 := (hS.2.1).at_ (j := 4) rfl; have c1_5 := (hS.2.1).at_ (j := 5) rfl; clear hS; first | (go_simp; done) | (go_simp; with_reducible rfl))
      try simp only [Act.put, List.setIfInBounds_toArray, List.set_cons_zero, List.set_cons_succ]
      refine wpAnyH_take (i := 4) (oi := ⟨some 23, _, _, _, _, _⟩) (v := ?_) rfl (by kernel_rfl) (by kernel_rfl) (by kernel_rfl) (fun _ _ _ h => h) (Or.inl ⟨by kernel_rfl, ?_⟩) hHeld ?_
      rotate_left
      focus (intro W hS; have c0_0 := (hS.1).at_ (j := 0) rfl; have c0_1 := (hS.1).at_ (j := 1) rfl; have c0_2 := (hS.1).at_ (j := 2) rfl; have c0_3 := (hS.1).at_ (j := 3) rfl; have c0_4 := (hS.1).at_ (j := 4) rfl; have c0_5 := (hS.1).at_ (j := 5) rfl; have c0_6 := (hS.1).at_ (j := 6) rfl; have c0_7 := (hS.1).at_ (j := 7) rfl; have c1_0 := (hS.2.1).at_ (j := 0) rfl; have c1_1 := (hS.2.1).at_ (j := 1) rfl; have c1_2 := (hS.2.1).at_ (j := 2) rfl; have c1_3 := (hS.2.1).at_ (j := 3) rfl; have c1_4 := (hS.2.1).at_ (j := 4) rfl; have c1_5 := (hS.2.1).at_ (j := 5) rfl; clear hS; first | (go_simp; done) | (go_simp; with_reducible rfl))
      try simp only [Act.put, List.setIfInBounds_toArray, List.set_cons_zero, List.set_cons_succ]
      refine wpAnyH_ready (rs := [1]) (by kernel_rfl) (by simp) ?_
      refine AllReadyH.cons (o := ⟨some 20, _, _, _, _, _⟩) rfl (fun K hK => ?_) AllReadyH.nil
      go_simp
      refine Calls.mono (CT.out _ hHeld.2.2) ?_
      rintro e x1 ⟨AD, cD, rfl, GD, hb1⟩
      refine hK.out _ _ ⟨hHeld.1.new hb1, hHeld.2.1.new hb1, below_trans hHeld.2.2 hb1 (Nat.le_refl _)⟩ (fun hHeld' => ?_)
      clear hK K hHeld hb1
      have hHeld := hHeld'
      clear hHeld'
      try simp only [Act.put, List.setIfInBounds_toArray, List.set_cons_zero, List.set_cons_succ]
      refine wpAnyH_ready (rs := [5]) (by kernel_rfl) (by simp) ?_
      refine AllReadyH.cons (o := ⟨some 24, _, _, _, _, _⟩) rfl (fun K hK => ?_) AllReadyH.nil
      go_simp
      refine Calls.mono (CS.out _ _ _ _ _ GD.rd GD.cap hHeld.2.2) ?_
      rintro e x2 ⟨AS, cS, rfl, GS, hb1⟩
      replace GD := GD.new hb1
      refine hK.out _ _ ⟨hHeld.1.new hb1, hHeld.2.1.new hb1, below_trans hHeld.2.2 hb1 (Nat.le_refl _)⟩ (fun hHeld' => ?_)
      clear hK K hHeld hb1
      have hHeld := hHeld'
      clear hHeld'
      try simp only [Act.put, List.setIfInBounds_toArray, List.set_cons_zero, List.set_cons_succ]
      refine wpAnyH_take (i := 6) (oi := ⟨some 6, _, _, _, _, _⟩) (v := ?_) rfl (by kernel_rfl) (by kernel_rfl) (by kernel_rfl) (fun _ _ _ h => h) (Or.inl ⟨by kernel_rfl, ?_⟩) hHeld ?_
      rotate_left
      focus (intro W hS; have c0_0 := (hS.1).at_ (j := 0) rfl; have c0_1 := (hS.1).at_ (j := 1) rfl; have c0_2 := (hS.1).at_ (j := 2) rfl; have c0_3 := (hS.1).at_ (j := 3) rfl; have c0_4 := (hS.1).at_ (j := 4) rfl; have c0_5 := (hS.1).at_ (j := 5) rfl; have c0_6 := (hS.1).at_ (j := 6) rfl; have c0_7 := (hS.1).at_ (j := 7) rfl; have c1_0 := (hS.2.1).at_ (j := 0) rfl; have c1_1 := (hS.2.1).at_ (j := 1) rfl; have c1_2 := (hS.2.1).at_ (j := 2) rfl; have c1_3 := (hS.2.1).at_ (j := 3) rfl; have c1_4 := (hS.2.1).at_ (j := 4) rfl; have c1_5 := (hS.2.1).at_ (j := 5) rfl; clear hS; first | (go_simp; done) | (go_simp; with_reducible rfl))
      try simp only [Act.put, List.setIfInBounds_toArray, List.set_cons_zero, List.set_cons_succ]
      refine wpAnyH_done (by kernel_rfl) ?_ _
      have HBq := Lib.hid hHeld.2.2
      have HG := Lib.hid GS
      clear hHeld GS GD
      go_wp2_with fail
      go_ret
      exact ⟨_, _, rfl, HG.out, HBq.out⟩
set_option maxHeartbeats 16000000 in
theorem spec_ReadTab (x : DBrowser) (m : MBrowser) (lo hi : Nat) (ext : Int) (a : Int) (w : World) (hd : x.dat = m) (hz : m.sz ≤ 1048576) (hok : m.ok) (hr : x.rd w lo hi) (hc : x.caps) (wf1 : (Lit.int .i64 ext).wf = true) (wf2 : (Lit.int .i64 a).wf = true) :
    Calls Tryz.prog 5 #[.agg #[.int .i64 x.p0, .slice x.A1 x.n1 x.c1, .slice x.A2 x.n2 x.c2, .slice x.A3 x.n3 x.c3, .slice x.A4 x.n4 x.c4, .slice x.A5 x.n5 x.c5, .slice x.A6 x.n6 x.c6, .int .i64 x.p7], .int .i64 ext, .int .i64 a] w (Makes 70 5 (mReadT m ext a).length (cNode (mReadT m ext a)) w) := by
  have CA := Lib.hid (fun W (hW : Below w.heap.size w W) => spec_MayAct x m lo hi ext a 1 W hd hz hok (hr.new hW) hc)
  subst hd
  have HB0 := Lib.hid ((Below.refl w.heap.size w).alloc (Nat.le_refl _) (.cells #[.int .i64 x.p0, .slice x.A1 x.n1 x.c1, .slice x.A2 x.n2 x.c2, .slice x.A3 x.n3 x.c3, .slice x.A4 x.n4 x.c4, .slice x.A5 x.n5 x.c5, .slice x.A6 x.n6 x.c6, .int .i64 x.p7] 40))
  cases hM1 : mMayA x.dat ext a 1 with
  | false =>
    rw [hM1] at CA
    have e1 : mReadT x.dat ext a = [] := by unfold mReadT; rw [hM1]; rfl
    rw [e1]
    clear hM1 hr hz hok hc e1
    go_enter Tryz.func5, Tryz.ntmps5
    go_wp2_with fail
    refine (CA.out _ HB0.out).mono ?_
    rintro e w1 ⟨rfl, hb1⟩
    have HB1 := Lib.hid (below_trans HB0.out hb1 (by simp))
    clear hb1
    go_wp2_with fail
    go_ret
    exact ⟨_, _, rfl, fr_nilR, by first | exact HB1.out | exact HB1.out.alloc HB1.out.size _⟩
  | true =>
    rw [hM1] at CA
    cases hin : inR a 0 ((x.l1.length : Int) - 1) with
    | false => unfold mMayA at hM1; rw [mTabAt_no hin] at hM1; cases hM1
    | true =>
      obtain ⟨k, t, rfl, hk, hkt, hat⟩ := mTabAt_yes hin
      have e1 : mReadT x.dat ext (k : Int) = mSeen (mRun t.l1 t.l2) t.l3 ext := by unfold mReadT; rw [hM1, hat]; rfl
      rw [e1]
      have hln := hr.1.len
      have hkn : k < x.n1 := by omega
      have hn1 : x.n1 ≤ 1048576 := by rw [hr.sz] at hz; omega
      have htz := MTab.szs_mem (x.l1.map DTab.dat) k t.dat (by rw [List.getElem?_map, hkt]; rfl)
      have htz2 : t.dat.sz ≤ 1048575 := by rw [hr.sz] at hz; omega
      have hto : t.dat.ok := hok.2.1 t.dat (List.mem_map.2 ⟨t, List.mem_of_getElem? hkt, rfl⟩)
      have HX := (hr.old).1.at_ hkt
      have hts := DTab.rd_sz HX
      have hls := DTab.rd_lens HX
      have hM : (mRun t.l1 t.l2).length ≤ 1048576 := run_le t.l2 (l := t.l1) hto.2.1 (by decide) (by omega)
      have CT := fun W (hb : Below w.heap.size w W) => spec_TabDocument t.s0 t.l1 t.A1 t.n1 t.c1 0 w.heap.size t.l2 t.A2 t.n2 t.c2 0 w.heap.size t.l3 t.A3 t.n3 t.c3 0 w.heap.size t.p4 W (Lib.hid hto.1) (by omega) (HX.1.2.new hb) (Lib.hid hto.2.1) (by omega) (HX.2.1.2.new hb) (Lib.hid hto.2.2.1) (by omega) (HX.2.2.2.new hb) (Lib.hid hto.2.2.2.1)
      have hMok := Lib.hid (run_fits t.l2 (l := t.l1) hto.2.1)
      have hcap := (hc.2.2.2.2.1 t (List.mem_of_getElem? hkt))
      have CS : ∀ W A c lo hi, Rd W lo hi 5 A (mRun t.l1 t.l2).length (cNode (mRun t.l1 t.l2)) → (mRun t.l1 t.l2).length ≤ c → Below w.heap.size w W → Calls Tryz.prog 20 #[.slice A (mRun t.l1 t.l2).length c, .slice t.A3 t.n3 t.c3, .int .i64 ext] W (fun e w' => ∃ (A : Option Addr) (c : Nat), e = .returned (.slice A (mSeen (mRun t.l1 t.l2) t.l3 ext).length c) ∧ Fr w' w.heap.size w'.heap.size 70 5 A (mSeen (mRun t.l1 t.l2) t.l3 ext).length c (cNode (mSeen (mRun t.l1 t.l2) t.l3 ext)) ∧ Below W.heap.size W w') := fun W A c lo hi h hcc hb => (spec_SeenBy (mRun t.l1 t.l2) A _ c lo hi t.l3 t.A3 t.n3 t.c3 0 w.heap.size ext W hM h hcc hMok (by omega) (HX.2.2.2.new hb) hcap.2.2 (Lib.hid hto.2.2.2.1) wf1).mono (fun e w' hh => by obtain ⟨A, c, h1, h2, h3⟩ := hh; exact ⟨A, c, h1, h2.mono hb.size (Nat.le_refl _), h3⟩)
      generalize mSeen (mRun t.l1 t.l2) t.l3 ext = J at CS ⊢
      clear hMok
      generalize mRun t.l1 t.l2 = M at CT CS hM
      generalize M.length = q at CT CS hM
      generalize J.length = s at CS ⊢
      replace CT := Lib.hid CT
      replace CS := Lib.hid CS
      obtain ⟨b, off, t2, hA, hlo, hhi, hkt2, hcc⟩ := rd_elem DTab.len (hr.old).1.2.1 hln hkn
      obtain rfl : t = t2 := Option.some.inj (hkt.symm.trans hkt2)
      have HCC := Lib.hid (fun (W : World) (hb : Below w.heap.size w W) (j : Nat) (u : Value) (hu : t.cells[j]? = some u) => (World.cell?_of_block (a := ⟨b, off + k * 6 + j, none⟩) (hb.block b hhi)).trans (hcc j u hu))
      have KB0 := Lib.hid (show BoxAt (w.alloc (.cells #[.int .i64 x.p0, .slice x.A1 x.n1 x.c1, .slice x.A2 x.n2 x.c2, .slice x.A3 x.n3 x.c3, .slice x.A4 x.n4 x.c4, .slice x.A5 x.n5 x.c5, .slice x.A6 x.n6 x.c6, .int .i64 x.p7] 40)) w.heap.size 40 #[.int .i64 x.p0, .slice (some ⟨b, off, none⟩) x.n1 x.c1, .slice x.A2 x.n2 x.c2, .slice x.A3 x.n3 x.c3, .slice x.A4 x.n4 x.c4, .slice x.A5 x.n5 x.c5, .slice x.A6 x.n6 x.c6, .int .i64 x.p7] by rw [← hA]; exact box_new w 40 #[.int .i64 x.p0, .slice x.A1 x.n1 x.c1, .slice x.A2 x.n2 x.c2, .slice x.A3 x.n3 x.c3, .slice x.A4 x.n4 x.c4, .slice x.A5 x.n5 x.c5, .slice x.A6 x.n6 x.c6, .int .i64 x.p7])
      replace hA := Lib.hid hA
      rw [hA.out] at CA HB0 KB0 ⊢
      clear hin hr hz hok e1 hat hkt hkt2 hcc htz htz2 hto hM hts hls HX hln hlo hhi hk hc hM1 hcap
      go_enter Tryz.func5, Tryz.ntmps5
      go_wp2_with fail
      refine (CA.out _ HB0.out).mono ?_
      rintro e w1 ⟨rfl, hb1⟩
      have HB1 := Lib.hid (below_trans HB0.out hb1 (by simp))
      have KB1 := Lib.hid (KB0.out.new hb1)
      have k1 := KB1.out.at_ (j := 1) (u := .slice (some ⟨b, off, none⟩) x.n1 x.c1) rfl
      clear hb1
      go_wp2_with fail
      refine wp_region_held_drew (S := fun w' => BoxAt w' w.heap.size 40 #[.int .i64 x.p0, .slice (some ⟨b, off, none⟩) x.n1 x.c1, .slice x.A2 x.n2 x.c2, .slice x.A3 x.n3 x.c3, .slice x.A4 x.n4 x.c4, .slice x.A5 x.n5 x.c5, .slice x.A6 x.n6 x.c6, .int .i64 x.p7] ∧ Below w.heap.size w w') (by kernel_rfl) ?_ (fun hHeld => ?_)
      · exact ⟨KB1.out.drw, HB1.out.drew⟩
      refine wpAnyH_take (i := 0) (oi := ⟨some 13, _, _, _, _, _⟩) (v := ?_) rfl (by kernel_rfl) (by kernel_rfl) (by kernel_rfl) (fun _ _ _ h => h) (Or.inl ⟨by kernel_rfl, ?_⟩) hHeld ?_
      rotate_left
      focus (intro W hS; have c0_0 := (hS.1).at_ (j := 0) rfl; have c0_1 := (hS.1).at_ (j := 1) rfl; have c0_2 := (hS.1).at_ (j := 2) rfl; have c0_3 := (hS.1).at_ (j := 3) rfl; have c0_4 := (hS.1).at_ (j := 4) rfl; have c0_5 := (hS.1).at_ (j := 5) rfl; have c0_6 := (hS.1).at_ (j := 6) rfl; have c0_7 := (hS.1).at_ (j := 7) rfl; have d0 : W.cell? ⟨b, off + k * 6, none⟩ = some (.int .i64 t.s0.f0) := HCC.out W (hS.2) 0 _ rfl; have d1 : W.cell? ⟨b, off + k * 6 + 1, none⟩ = some (.int .i64 t.s0.f1) := HCC.out W (hS.2) 1 _ rfl; have d2 : W.cell? ⟨b, off + k * 6 + 2, none⟩ = some (.slice t.A1 t.n1 t.c1) := HCC.out W (hS.2) 2 _ rfl; have d3 : W.cell? ⟨b, off + k * 6 + 3, none⟩ = some (.slice t.A2 t.n2 t.c2) := HCC.out W (hS.2) 3 _ rfl; have d4 : W.cell? ⟨b, off + k * 6 + 4, none⟩ = some (.slice t.A3 t.n3 t.c3) := HCC.out W (hS.2) 4 _ rfl; have d5 : W.cell? ⟨b, off + k * 6 + 5, none⟩ = some (.int .i64 t.p4) := HCC.out W (hS.2) 5 _ rfl; clear hS; first | (go_simp; done) | (go_simp; with_reducible rfl))
      try simp only [Act.put, List.setIfInBounds_toArray, List.set_cons_zero, List.set_cons_succ]
      refine wpAnyH_take (i := 1) (oi := ⟨some 14, _, _, _, _, _⟩) (v := ?_) rfl (by kernel_rfl) (by kernel_rfl) (by kernel_rfl) (fun _ _ _ h => h) (Or.inl ⟨by kernel_rfl, ?_⟩) hHeld ?_
      rotate_left
      focus (intro W hS; have c0_0 := (hS.1).at_ (j := 0) rfl; have c0_1 := (hS.1).at_ (j := 1) rfl; have c0_2 := (hS.1).at_ (j := 2) rfl; have c0_3 := (hS.1).at_ (j := 3) rfl; have c0_4 := (hS.1).at_ (j := 4) rfl; have c0_5 := (hS.1).at_ (j := 5) rfl; have c0_6 := (hS.1).at_ (j := 6) rfl; have c0_7 := (hS.1).at_ (j := 7) rfl; have d0 : W.cell? ⟨b, off + k * 6, none⟩ = some (.int .i64 t.s0.f0) := HCC.out W (hS.2) 0 _ rfl; have d1 : W.cell? ⟨b, off + k * 6 + 1, none⟩ = some (.int .i64 t.s0.f1) := HCC.out W (hS.2) 1 _ rfl; have d2 : W.cell? ⟨b, off + k * 6 + 2, none⟩ = some (.slice t.A1 t.n1 t.c1) := HCC.out W (hS.2) 2 _ rfl; have d3 : W.cell? ⟨b, off + k * 6 + 3, none⟩ = some (.slice t.A2 t.n2 t.c2) := HCC.out W (hS.2) 3 _ rfl; have d4 : W.cell? ⟨b, off + k * 6 + 4, none⟩ = some (.slice t.A3 t.n3 t.c3) := HCC.out W (hS.2) 4 _ rfl; have d5 : W.cell? ⟨b, off + k * 6 + 5, none⟩ = some (.int .i64 t.p4) := HCC.out W (hS.2) 5 _ rfl; clear hS; first | (go_simp; done) | (go_simp; with_reducible rfl))
      try simp only [Act.put, List.setIfInBounds_toArray, List.set_cons_zero, List.set_cons_succ]
      refine wpAnyH_take (i := 2) (oi := ⟨some 15, _, _, _, _, _⟩) (v := ?_) rfl (by kernel_rfl) (by kernel_rfl) (by kernel_rfl) (fun _ _ _ h => h) (Or.inl ⟨by kernel_rfl, ?_⟩) hHeld ?_
      rotate_left
      focus (intro W hS; have c0_0 := (hS.1).at_ (j := 0) rfl; have c0_1 := (hS.1).at_ (j := 1) rfl; have c0_2 := (hS.1).at_ (j := 2) rfl; have c0_3 := (hS.1).at_ (j := 3) rfl; have c0_4 := (hS.1).at_ (j := 4) rfl; have c0_5 := (hS.1).at_ (j := 5) rfl; have c0_6 := (hS.1).at_ (j := 6) rfl; have c0_7 := (hS.1).at_ (j := 7) rfl; have d0 : W.cell? ⟨b, off + k * 6, none⟩ = some (.int .i64 t.s0.f0) := HCC.out W (hS.2) 0 _ rfl; have d1 : W.cell? ⟨b, off + k * 6 + 1, none⟩ = some (.int .i64 t.s0.f1) := HCC.out W (hS.2) 1 _ rfl; have d2 : W.cell? ⟨b, off + k * 6 + 2, none⟩ = some (.slice t.A1 t.n1 t.c1) := HCC.out W (hS.2) 2 _ rfl; have d3 : W.cell? ⟨b, off + k * 6 + 3, none⟩ = some (.slice t.A2 t.n2 t.c2) := HCC.out W (hS.2) 3 _ rfl; have d4 : W.cell? ⟨b, off + k * 6 + 4, none⟩ = some (.slice t.A3 t.n3 t.c3) := HCC.out W (hS.2) 4 _ rfl; have d5 : W.cell? ⟨b, off + k * 6 + 5, none⟩ = some (.int .i64 t.p4) := HCC.out W (hS.2) 5 _ rfl; clear hS; first | (go_simp; done) | (go_simp; with_reducible rfl))
      try simp only [Act.put, List.setIfInBounds_toArray, List.set_cons_zero, List.set_cons_succ]
      refine wpAnyH_take (i := 3) (oi := ⟨some 16, _, _, _, _, _⟩) (v := ?_) rfl (by kernel_rfl) (by kernel_rfl) (by kernel_rfl) (fun _ _ _ h => h) (Or.inl ⟨by kernel_rfl, ?_⟩) hHeld ?_
      rotate_left
      focus (intro W hS; have c0_0 := (hS.1).at_ (j := 0) rfl; have c0_1 := (hS.1).at_ (j := 1) rfl; have c0_2 := (hS.1).at_ (j := 2) rfl; have c0_3 := (hS.1).at_ (j := 3) rfl; have c0_4 := (hS.1).at_ (j := 4) rfl; have c0_5 := (hS.1).at_ (j := 5) rfl; have c0_6 := (hS.1).at_ (j := 6) rfl; have c0_7 := (hS.1).at_ (j := 7) rfl; have d0 : W.cell? ⟨b, off + k * 6, none⟩ = some (.int .i64 t.s0.f0) := HCC.out W (hS.2) 0 _ rfl; have d1 : W.cell? ⟨b, off + k * 6 + 1, none⟩ = some (.int .i64 t.s0.f1) := HCC.out W (hS.2) 1 _ rfl; have d2 : W.cell? ⟨b, off + k * 6 + 2, none⟩ = some (.slice t.A1 t.n1 t.c1) := HCC.out W (hS.2) 2 _ rfl; have d3 : W.cell? ⟨b, off + k * 6 + 3, none⟩ = some (.slice t.A2 t.n2 t.c2) := HCC.out W (hS.2) 3 _ rfl; have d4 : W.cell? ⟨b, off + k * 6 + 4, none⟩ = some (.slice t.A3 t.n3 t.c3) := HCC.out W (hS.2) 4 _ rfl; have d5 : W.cell? ⟨b, off + k * 6 + 5, none⟩ = some (.int .i64 t.p4) := HCC.out W (hS.2) 5 _ rfl; clear hS; first | (go_simp; done) | (go_simp; with_reducible rfl))
      try simp only [Act.put, List.setIfInBounds_toArray, List.set_cons_zero, List.set_cons_succ]
      refine wpAnyH_take (i := 4) (oi := ⟨some 17, _, _, _, _, _⟩) (v := ?_) rfl (by kernel_rfl) (by kernel_rfl) (by kernel_rfl) (fun _ _ _ h => h) (Or.inl ⟨by kernel_rfl, ?_⟩) hHeld ?_
      rotate_left
      focus (intro W hS; have c0_0 := (hS.1).at_ (j := 0) rfl; have c0_1 := (hS.1).at_ (j := 1) rfl; have c0_2 := (hS.1).at_ (j := 2) rfl; have c0_3 := (hS.1).at_ (j := 3) rfl; have c0_4 := (hS.1).at_ (j := 4) rfl; have c0_5 := (hS.1).at_ (j := 5) rfl; have c0_6 := (hS.1).at_ (j := 6) rfl; have c0_7 := (hS.1).at_ (j := 7) rfl; have d0 : W.cell? ⟨b, off + k * 6, none⟩ = some (.int .i64 t.s0.f0) := HCC.out W (hS.2) 0 _ rfl; have d1 : W.cell? ⟨b, off + k * 6 + 1, none⟩ = some (.int .i64 t.s0.f1) := HCC.out W (hS.2) 1 _ rfl; have d2 : W.cell? ⟨b, off + k * 6 + 2, none⟩ = some (.slice t.A1 t.n1 t.c1) := HCC.out W (hS.2) 2 _ rfl; have d3 : W.cell? ⟨b, off + k * 6 + 3, none⟩ = some (.slice t.A2 t.n2 t.c2) := HCC.out W (hS.2) 3 _ rfl; have d4 : W.cell? ⟨b, off + k * 6 + 4, none⟩ = some (.slice t.A3 t.n3 t.c3) := HCC.out W (hS.2) 4 _ rfl; have d5 : W.cell? ⟨b, off + k * 6 + 5, none⟩ = some (.int .i64 t.p4) := HCC.out W (hS.2) 5 _ rfl; clear hS; first | (go_simp; done) | (go_simp; with_reducible rfl))
      try simp only [Act.put, List.setIfInBounds_toArray, List.set_cons_zero, List.set_cons_succ]
      refine wpAnyH_take (i := 6) (oi := ⟨some 19, _, _, _, _, _⟩) (v := ?_) rfl (by kernel_rfl) (by kernel_rfl) (by kernel_rfl) (fun _ _ _ h => h) (Or.inl ⟨by kernel_rfl, ?_⟩) hHeld ?_
      rotate_left
      focus (intro W hS; have c0_0 := (hS.1).at_ (j := 0) rfl; have c0_1 := (hS.1).at_ (j := 1) rfl; have c0_2 := (hS.1).at_ (j := 2) rfl; have c0_3 := (hS.1).at_ (j := 3) rfl; have c0_4 := (hS.1).at_ (j := 4) rfl; have c0_5 := (hS.1).at_ (j := 5) rfl; have c0_6 := (hS.1).at_ (j := 6) rfl; have c0_7 := (hS.1).at_ (j := 7) rfl; have d0 : W.cell? ⟨b, off + k * 6, none⟩ = some (.int .i64 t.s0.f0) := HCC.out W (hS.2) 0 _ rfl; have d1 : W.cell? ⟨b, off + k * 6 + 1, none⟩ = some (.int .i64 t.s0.f1) := HCC.out W (hS.2) 1 _ rfl; have d2 : W.cell? ⟨b, off + k * 6 + 2, none⟩ = some (.slice t.A1 t.n1 t.c1) := HCC.out W (hS.2) 2 _ rfl; have d3 : W.cell? ⟨b, off + k * 6 + 3, none⟩ = some (.slice t.A2 t.n2 t.c2) := HCC.out W (hS.2) 3 _ rfl; have d4 : W.cell? ⟨b, off + k * 6 + 4, none⟩ = some (.slice t.A3 t.n3 t.c3) := HCC.out W (hS.2) 4 _ rfl; have d5 : W.cell? ⟨b, off + k * 6 + 5, none⟩ = some (.int .i64 t.p4) := HCC.out W (hS.2) 5 _ rfl; clear hS; first | (go_simp; done) | (go_simp; with_reducible rfl))
      try simp only [Act.put, List.setIfInBounds_toArray, List.set_cons_zero, List.set_cons_succ]
      refine wpAnyH_take (i := 7) (oi := ⟨some 20, _, _, _, _, _⟩) (v := ?_) rfl (by kernel_rfl) (by kernel_rfl) (by kernel_rfl) (fun _ _ _ h => h) (Or.inl ⟨by kernel_rfl, ?_⟩) hHeld ?_
      rotate_left
      focus (intro W hS; have c0_0 := (hS.1).at_ (j := 0) rfl; have c0_1 := (hS.1).at_ (j := 1) rfl; have c0_2 := (hS.1).at_ (j := 2) rfl; have c0_3 := (hS.1).at_ (j := 3) rfl; have c0_4 := (hS.1).at_ (j := 4) rfl; have c0_5 := (hS.1).at_ (j := 5) rfl; have c0_6 := (hS.1).at_ (j := 6) rfl; have c0_7 := (hS.1).at_ (j := 7) rfl; have d0 : W.cell? ⟨b, off + k * 6, none⟩ = some (.int .i64 t.s0.f0) := HCC.out W (hS.2) 0 _ rfl; have d1 : W.cell? ⟨b, off + k * 6 + 1, none⟩ = some (.int .i64 t.s0.f1) := HCC.out W (hS.2) 1 _ rfl; have d2 : W.cell? ⟨b, off + k * 6 + 2, none⟩ = some (.slice t.A1 t.n1 t.c1) := HCC.out W (hS.2) 2 _ rfl; have d3 : W.cell? ⟨b, off + k * 6 + 3, none⟩ = some (.slice t.A2 t.n2 t.c2) := HCC.out W (hS.2) 3 _ rfl; have d4 : W.cell? ⟨b, off + k * 6 + 4, none⟩ = some (.slice t.A3 t.n3 t.c3) := HCC.out W (hS.2) 4 _ rfl; have d5 : W.cell? ⟨b, off + k * 6 + 5, none⟩ = some (.int .i64 t.p4) := HCC.out W (hS.2) 5 _ rfl; clear hS; first | (go_simp; done) | (go_simp; with_reducible rfl))
      try simp only [Act.put, List.setIfInBounds_toArray, List.set_cons_zero, List.set_cons_succ]
      refine wpAnyH_take (i := 8) (oi := ⟨some 21, _, _, _, _, _⟩) (v := ?_) rfl (by kernel_rfl) (by kernel_rfl) (by kernel_rfl) (fun _ _ _ h => h) (Or.inl ⟨by kernel_rfl, ?_⟩) hHeld ?_
      rotate_left
      focus (intro W hS; have c0_0 := (hS.1).at_ (j := 0) rfl; have c0_1 := (hS.1).at_ (j := 1) rfl; have c0_2 := (hS.1).at_ (j := 2) rfl; have c0_3 := (hS.1).at_ (j := 3) rfl; have c0_4 := (hS.1).at_ (j := 4) rfl; have c0_5 := (hS.1).at_ (j := 5) rfl; have c0_6 := (hS.1).at_ (j := 6) rfl; have c0_7 := (hS.1).at_ (j := 7) rfl; have d0 : W.cell? ⟨b, off + k * 6, none⟩ = some (.int .i64 t.s0.f0) := HCC.out W (hS.2) 0 _ rfl; have d1 : W.cell? ⟨b, off + k * 6 + 1, none⟩ = some (.int .i64 t.s0.f1) := HCC.out W (hS.2) 1 _ rfl; have d2 : W.cell? ⟨b, off + k * 6 + 2, none⟩ = some (.slice t.A1 t.n1 t.c1) := HCC.out W (hS.2) 2 _ rfl; have d3 : W.cell? ⟨b, off + k * 6 + 3, none⟩ = some (.slice t.A2 t.n2 t.c2) := HCC.out W (hS.2) 3 _ rfl; have d4 : W.cell? ⟨b, off + k * 6 + 4, none⟩ = some (.slice t.A3 t.n3 t.c3) := HCC.out W (hS.2) 4 _ rfl; have d5 : W.cell? ⟨b, off + k * 6 + 5, none⟩ = some (.int .i64 t.p4) := HCC.out W (hS.2) 5 _ rfl; clear hS; first | (go_simp; done) | (go_simp; with_reducible rfl))
      try simp only [Act.put, List.setIfInBounds_toArray, List.set_cons_zero, List.set_cons_succ]
      refine wpAnyH_take (i := 9) (oi := ⟨some 22, _, _, _, _, _⟩) (v := ?_) rfl (by kernel_rfl) (by kernel_rfl) (by kernel_rfl) (fun _ _ _ h => h) (Or.inl ⟨by kernel_rfl, ?_⟩) hHeld ?_
      rotate_left
      focus (intro W hS; have c0_0 := (hS.1).at_ (j := 0) rfl; have c0_1 := (hS.1).at_ (j := 1) rfl; have c0_2 := (hS.1).at_ (j := 2) rfl; have c0_3 := (hS.1).at_ (j := 3) rfl; have c0_4 := (hS.1).at_ (j := 4) rfl; have c0_5 := (hS.1).at_ (j := 5) rfl; have c0_6 := (hS.1).at_ (j := 6) rfl; have c0_7 := (hS.1).at_ (j := 7) rfl; have d0 : W.cell? ⟨b, off + k * 6, none⟩ = some (.int .i64 t.s0.f0) := HCC.out W (hS.2) 0 _ rfl; have d1 : W.cell? ⟨b, off + k * 6 + 1, none⟩ = some (.int .i64 t.s0.f1) := HCC.out W (hS.2) 1 _ rfl; have d2 : W.cell? ⟨b, off + k * 6 + 2, none⟩ = some (.slice t.A1 t.n1 t.c1) := HCC.out W (hS.2) 2 _ rfl; have d3 : W.cell? ⟨b, off + k * 6 + 3, none⟩ = some (.slice t.A2 t.n2 t.c2) := HCC.out W (hS.2) 3 _ rfl; have d4 : W.cell? ⟨b, off + k * 6 + 4, none⟩ = some (.slice t.A3 t.n3 t.c3) := HCC.out W (hS.2) 4 _ rfl; have d5 : W.cell? ⟨b, off + k * 6 + 5, none⟩ = some (.int .i64 t.p4) := HCC.out W (hS.2) 5 _ rfl; clear hS; first | (go_simp; done) | (go_simp; with_reducible rfl))
      try simp only [Act.put, List.setIfInBounds_toArray, List.set_cons_zero, List.set_cons_succ]
      refine wpAnyH_take (i := 10) (oi := ⟨some 23, _, _, _, _, _⟩) (v := ?_) rfl (by kernel_rfl) (by kernel_rfl) (by kernel_rfl) (fun _ _ _ h => h) (Or.inl ⟨by kernel_rfl, ?_⟩) hHeld ?_
      rotate_left
      focus (intro W hS; have c0_0 := (hS.1).at_ (j := 0) rfl; have c0_1 := (hS.1).at_ (j := 1) rfl; have c0_2 := (hS.1).at_ (j := 2) rfl; have c0_3 := (hS.1).at_ (j := 3) rfl; have c0_4 := (hS.1).at_ (j := 4) rfl; have c0_5 := (hS.1).at_ (j := 5) rfl; have c0_6 := (hS.1).at_ (j := 6) rfl; have c0_7 := (hS.1).at_ (j := 7) rfl; have d0 : W.cell? ⟨b, off + k * 6, none⟩ = some (.int .i64 t.s0.f0) := HCC.out W (hS.2) 0 _ rfl; have d1 : W.cell? ⟨b, off + k * 6 + 1, none⟩ = some (.int .i64 t.s0.f1) := HCC.out W (hS.2) 1 _ rfl; have d2 : W.cell? ⟨b, off + k * 6 + 2, none⟩ = some (.slice t.A1 t.n1 t.c1) := HCC.out W (hS.2) 2 _ rfl; have d3 : W.cell? ⟨b, off + k * 6 + 3, none⟩ = some (.slice t.A2 t.n2 t.c2) := HCC.out W (hS.2) 3 _ rfl; have d4 : W.cell? ⟨b, off + k * 6 + 4, none⟩ = some (.slice t.A3 t.n3 t.c3) := HCC.out W (hS.2) 4 _ rfl; have d5 : W.cell? ⟨b, off + k * 6 + 5, none⟩ = some (.int .i64 t.p4) := HCC.out W (hS.2) 5 _ rfl; clear hS; first | (go_simp; done) | (go_simp; with_reducible rfl))
      try simp only [Act.put, List.setIfInBounds_toArray, List.set_cons_zero, List.set_cons_succ]
      refine wpAnyH_take (i := 11) (oi := ⟨some 24, _, _, _, _, _⟩) (v := ?_) rfl (by kernel_rfl) (by kernel_rfl) (by kernel_rfl) (fun _ _ _ h => h) (Or.inl ⟨by kernel_rfl, ?_⟩) hHeld ?_
      rotate_left
      focus (intro W hS; have c0_0 := (hS.1).at_ (j := 0) rfl; have c0_1 := (hS.1).at_ (j := 1) rfl; have c0_2 := (hS.1).at_ (j := 2) rfl; have c0_3 := (hS.1).at_ (j := 3) rfl; have c0_4 := (hS.1).at_ (j := 4) rfl; have c0_5 := (hS.1).at_ (j := 5) rfl; have c0_6 := (hS.1).at_ (j := 6) rfl; have c0_7 := (hS.1).at_ (j := 7) rfl; have d0 : W.cell? ⟨b, off + k * 6, none⟩ = some (.int .i64 t.s0.f0) := HCC.out W (hS.2) 0 _ rfl; have d1 : W.cell? ⟨b, off + k * 6 + 1, none⟩ = some (.int .i64 t.s0.f1) := HCC.out W (hS.2) 1 _ rfl; have d2 : W.cell? ⟨b, off + k * 6 + 2, none⟩ = some (.slice t.A1 t.n1 t.c1) := HCC.out W (hS.2) 2 _ rfl; have d3 : W.cell? ⟨b, off + k * 6 + 3, none⟩ = some (.slice t.A2 t.n2 t.c2) := HCC.out W (hS.2) 3 _ rfl; have d4 : W.cell? ⟨b, off + k * 6 + 4, none⟩ = some (.slice t.A3 t.n3 t.c3) := HCC.out W (hS.2) 4 _ rfl; have d5 : W.cell? ⟨b, off + k * 6 + 5, none⟩ = some (.int .i64 t.p4) := HCC.out W (hS.2) 5 _ rfl; clear hS; first | (go_simp; done) | (go_simp; with_reducible rfl))
      try simp only [Act.put, List.setIfInBounds_toArray, List.set_cons_zero, List.set_cons_succ]
      refine wpAnyH_take (i := 12) (oi := ⟨some 25, _, _, _, _, _⟩) (v := ?_) rfl (by kernel_rfl) (by kernel_rfl) (by kernel_rfl) (fun _ _ _ h => h) (Or.inl ⟨by kernel_rfl, ?_⟩) hHeld ?_
      rotate_left
      focus (intro W hS; have c0_0 := (hS.1).at_ (j := 0) rfl; have c0_1 := (hS.1).at_ (j := 1) rfl; have c0_2 := (hS.1).at_ (j := 2) rfl; have c0_3 := (hS.1).at_ (j := 3) rfl; have c0_4 := (hS.1).at_ (j := 4) rfl; have c0_5 := (hS.1).at_ (j := 5) rfl; have c0_6 := (hS.1).at_ (j := 6) rfl; have c0_7 := (hS.1).at_ (j := 7) rfl; have d0 : W.cell? ⟨b, off + k * 6, none⟩ = some (.int .i64 t.s0.f0) := HCC.out W (hS.2) 0 _ rfl; have d1 : W.cell? ⟨b, off + k * 6 + 1, none⟩ = some (.int .i64 t.s0.f1) := HCC.out W (hS.2) 1 _ rfl; have d2 : W.cell? ⟨b, off + k * 6 + 2, none⟩ = some (.slice t.A1 t.n1 t.c1) := HCC.out W (hS.2) 2 _ rfl; have d3 : W.cell? ⟨b, off + k * 6 + 3, none⟩ = some (.slice t.A2 t.n2 t.c2) := HCC.out W (hS.2) 3 _ rfl; have d4 : W.cell? ⟨b, off + k * 6 + 4, none⟩ = some (.slice t.A3 t.n3 t.c3) := HCC.out W (hS.2) 4 _ rfl; have d5 : W.cell? ⟨b, off + k * 6 + 5, none⟩ = some (.int .i64 t.p4) := HCC.out W (hS.2) 5 _ rfl; clear hS; first | (go_simp; done) | (go_simp; with_reducible rfl))
      try simp only [Act.put, List.setIfInBounds_toArray, List.set_cons_zero, List.set_cons_succ]
      refine wpAnyH_ready (rs := [5]) (by kernel_rfl) (by simp) ?_
      refine AllReadyH.cons (o := ⟨some 18, _, _, _, _, _⟩) rfl (fun K hK => ?_) AllReadyH.nil
      go_simp
      refine Calls.mono (CT.out _ hHeld.2) ?_
      rintro e x1 ⟨AD, cD, rfl, GD, hb1⟩
      refine hK.out _ _ ⟨hHeld.1.new hb1, below_trans hHeld.2 hb1 (Nat.le_refl _)⟩ (fun hHeld' => ?_)
      clear hK K hHeld hb1
      have hHeld := hHeld'
      clear hHeld'
      try simp only [Act.put, List.setIfInBounds_toArray, List.set_cons_zero, List.set_cons_succ]
      refine wpAnyH_ready (rs := [13]) (by kernel_rfl) (by simp) ?_
      refine AllReadyH.cons (o := ⟨some 26, _, _, _, _, _⟩) rfl (fun K hK => ?_) AllReadyH.nil
      go_simp
      refine Calls.mono (CS.out _ _ _ _ _ GD.rd GD.cap hHeld.2) ?_
      rintro e x2 ⟨AS, cS, rfl, GS, hb1⟩
      replace GD := GD.new hb1
      refine hK.out _ _ ⟨hHeld.1.new hb1, below_trans hHeld.2 hb1 (Nat.le_refl _)⟩ (fun hHeld' => ?_)
      clear hK K hHeld hb1
      have hHeld := hHeld'
      clear hHeld'
      try simp only [Act.put, List.setIfInBounds_toArray, List.set_cons_zero, List.set_cons_succ]
      refine wpAnyH_take (i := 14) (oi := ⟨some 6, _, _, _, _, _⟩) (v := ?_) rfl (by kernel_rfl) (by kernel_rfl) (by kernel_rfl) (fun _ _ _ h => h) (Or.inl ⟨by kernel_rfl, ?_⟩) hHeld ?_
      rotate_left
      focus (intro W hS; have c0_0 := (hS.1).at_ (j := 0) rfl; have c0_1 := (hS.1).at_ (j := 1) rfl; have c0_2 := (hS.1).at_ (j := 2) rfl; have c0_3 := (hS.1).at_ (j := 3) rfl; have c0_4 := (hS.1).at_ (j := 4) rfl; have c0_5 := (hS.1).at_ (j := 5) rfl; have c0_6 := (hS.1).at_ (j := 6) rfl; have c0_7 := (hS.1).at_ (j := 7) rfl; have d0 : W.cell? ⟨b, off + k * 6, none⟩ = some (.int .i64 t.s0.f0) := HCC.out W (hS.2) 0 _ rfl; have d1 : W.cell? ⟨b, off + k * 6 + 1, none⟩ = some (.int .i64 t.s0.f1) := HCC.out W (hS.2) 1 _ rfl; have d2 : W.cell? ⟨b, off + k * 6 + 2, none⟩ = some (.slice t.A1 t.n1 t.c1) := HCC.out W (hS.2) 2 _ rfl; have d3 : W.cell? ⟨b, off + k * 6 + 3, none⟩ = some (.slice t.A2 t.n2 t.c2) := HCC.out W (hS.2) 3 _ rfl; have d4 : W.cell? ⟨b, off + k * 6 + 4, none⟩ = some (.slice t.A3 t.n3 t.c3) := HCC.out W (hS.2) 4 _ rfl; have d5 : W.cell? ⟨b, off + k * 6 + 5, none⟩ = some (.int .i64 t.p4) := HCC.out W (hS.2) 5 _ rfl; clear hS; first | (go_simp; done) | (go_simp; with_reducible rfl))
      try simp only [Act.put, List.setIfInBounds_toArray, List.set_cons_zero, List.set_cons_succ]
      refine wpAnyH_done (by kernel_rfl) ?_ _
      have HBq := Lib.hid hHeld.2
      have HG := Lib.hid GS
      clear hHeld GS GD
      go_wp2_with fail
      go_ret
      exact ⟨_, _, rfl, HG.out, HBq.out⟩

end Go.Proofs.YtjgcgipglmhgeaaGreat
